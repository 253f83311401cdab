import PyProof.Rows.All
import Wide.All
import OpenK.AllK
import Wide.FinOn
import PyProof.EqAt
import PyProof.EqKinds
import PyProof.TupleCall
import HandS.ForMost
import HandS.ForExc
import HandS.IsInst
import HandS.NoneIn
import HandS.Defaults
import HandS.MakeKw
import HandS.OwnEq
import HandS.Walk
import HandS.Rev
import HandS.FStr
import HandS.More
import KE.KCallOwn
import HandS.Conv
import KE.KStateDown
import HandS.Base
import HandS.Call
import HandS.Ends
import HandS.Exc
import HandS.Words
import HandS.WordsExc
import HandS.Head0
import HandS.Head1
import HandS.Head2
import HandS.HeadEnd
import HandS.HeadHook1
import HandS.HeadHook2
import HandS.HeadHook3
import HandS.HeadHook4
import KE.KExcLine
import HandS.ExcIs
import PyProof.NeKinds
import HandS.Zip
import HandS.Zip0
import KE.GoesZip
import KE.GoesMore
import HandS.Replace
import KE.KDictCopyH
import HandS.ExcInit
import HandS.ExcField
import HandS.ExcOwn
import KE.KExcIs
import KE.KExcInit
import PyProof.ExcBaseAll.OverflowError
import HandS.HotCalls
import HandS.ExcInitHot
import HandS.Comp
import HandS.ExcCtx
import KE.GoesComp
import KE.GoesRaise
import HandS.Style
import HandS.TryOnly
import HandS.Star
import HandS.Steps
import HandS.TupLen
import PyProof.Rows.EqNone
import HandS.Records
import HandS.MakeKwOnly
import HandS.TupMul
import HandS.TupAny
import HandS.AnyAll
import PySem.Challenge.RW_judgeslip_k16_codes
set_option Elab.async false
set_option linter.all false
set_option maxRecDepth 100000
set_option maxHeartbeats 2000000
/-! rules of our own: len, str, ==, != of an instance by its class's defs; x in a list of such -/
namespace JsLow
open PySem PySem.Spec PyProof.Rows PySem.W
section
variable {prog : Program} {w : World} {A : Around} {E : Value → Shared → Prop} {s : Shared} {K : Frag} {x C f : Addr} {ox : Obj} {od : Option Obj} {y tb : Value}
theorem ifBound_ne {M : Model} {args : List Value} {Q : Option Value → Shared → Prop} (X : K.In s.heap) (I : InstAt s.heap x ox C od) (hs : findIn K (.ref C) "__ne__" = some (some (.builtin "object.__ne__")))
    (h : wpAny M A (call (.builtin "object.__ne__") (.ref x :: args)) (fun v => Q (some v)) E s) : wpAny M A (callSpecialIfBound? (.ref x) "__ne__" args) Q E s := by
  simp only [callSpecialIfBound?, bindSpecialIfBound?]
  refine wpAny_holding (wpAny_bind (wpAny_bind (wpAny_bind (I.type.here ((looks_findIn X hs).here ?_)))))
  refine wpAny_bind (wpAny_askSetting (wpAny_ite ?_))
  have fin : wpAny M A (call (.builtin "object.__ne__") ([.ref x] ++ args) >>= fun v => pure (some v)) Q E s := wpAny_bind (wpAny_mono h (fun v s' h' => wpAny_pure h') fun _ _ h' => h')
  split
  · exact wpAny_bind (wpAny_of_eq (F.cmp_object.ne.bind _) (wpAny_pure (by exact fin)))
  · exact wpAny_tryCatch (wpAny_bind (wpAny_of_eq (F.cmp_object.ne.bind _) (wpAny_pure (by exact fin))))
theorem objNe_K {Q : Fin → Shared → Prop} (hu : A.units < cLine) (X : K.In s.heap) (I : InstAt s.heap x ox C od) (he : findIn K (.ref C) "__eq__" = some (some (.ref f))) (hf : isFn K (.ref f) = true)
    (hcall : wpAny (model prog w) A (call (.ref f) [.ref x, y]) (fun v s' => ∃ b, v = .bool b ∧ Q (.done (.ret (.bool (!b)))) s') E s) :
    wpAny (model prog w) A (Builtin.«object.__ne__» ⟨[.ref x, y], []⟩) Q E s := by
  unfold Builtin.«object.__ne__»
  repeat (first
    | with_reducible refine wpAny_cRoomFor hu ?_
    | (refine wpAny_bind (m := callSpecialIfBound? (.ref x) (Str.ofString "__eq__") [y])
        (ifBound_K X I he hf (wpAny_mono hcall (fun r s' hr => by
          obtain ⟨b, rfl, hq⟩ := hr
          repeat (first | exact hq | exact wpAny_pure hq | exact wpAny_truthy_bool hq | (refine wpAny_bind (m := truthy (.bool _)) (wpAny_truthy_bool ?_)) | wp_step)) fun _ _ e => e)))
    | wp_step)
/-- x != y by the class's __eq__ -/
theorem ne_K {Q : Value → Shared → Prop} (hu : A.units + 1 < cLine) (X : K.In s.heap) (I : InstAt s.heap x ox C od) (hb : Looks (model prog w) s.heap (typeOf y) tb) (hn : notFirst K C tb = true)
    (hm : mroIn K C (.type "object") = some true) (hne : findIn K (.ref C) "__ne__" = some (some (.builtin "object.__ne__"))) (he : findIn K (.ref C) "__eq__" = some (some (.ref f))) (hf : isFn K (.ref f) = true)
    (h : wpAny (model prog w) A.in1 (call (.ref f) [.ref x, y]) (fun v s' => ∃ b, v = .bool b ∧ Q (.bool (!b)) s') E s) : wpAny (model prog w) A (richCompare .NotEq (.ref x) y) Q E s := by
  have hu1 : A.in1.units < cLine := by show A.units + 1 < cLine; exact hu
  have one : wpAny (model prog w) A (tryCompare (.ref x) "__ne__" y) (fun r s' => ∃ v, r = some v ∧ Q v s') E s := by
    unfold tryCompare
    refine wpAny_bind (ifBound_ne X I hne ?_)
    refine wpAny_call (codeAny_call_builtin F.cmp_object.ne.plain F.cmpEntry_ne (check_slot F.cmpKind_ne F.cmpSplit_ne (I.type.andThen (looks_mroIn X hm)) (F.cmpArgs_ne _ _) (objNe_K (A := A.in1) hu1 X I he hf (wpAny_mono h (fun v s' hv => ?_) fun _ _ e => e))))
    obtain ⟨b, rfl, hq⟩ := hv
    first | exact ⟨b, rfl, wpAny_pure ⟨_, rfl, hq⟩⟩ | exact ⟨b, rfl, ⟨_, rfl, hq⟩⟩
  have hu0 : A.units < cLine := Nat.lt_of_succ_lt hu
  unfold richCompare
  simp only [oneThing_ref]
  refine wpAny_holding (wpAny_bind (wpAny_cRoomFor hu0 ?_))
  rw [cmpInfo_NotEq]
  dsimp only
  refine wpAny_bind (I.type.here (wpAny_bind (hb.here ?_)))
  split
  · rename_i q
    have e : subIn K tb (.ref C) = some false := by
      rcases Bool.or_eq_true_iff.mp hn with e | e
      · rw [beq_iff_eq.mp e] at q; simp at q
      · exact beq_iff_eq.mp e
    refine wpAny_bind ((looks_subIn X e).here ?_)
    simp only [Bool.false_eq_true, if_false]
    refine wpAny_bind (wpAny_mono one (fun r s' z => ?_) fun _ _ e => e)
    obtain ⟨v, rfl, hq⟩ := z
    exact wpAny_pure hq
  · refine wpAny_bind (wpAny_pure ?_)
    simp only [Bool.false_eq_true, if_false]
    refine wpAny_bind (wpAny_mono one (fun r s' z => ?_) fun _ _ e => e)
    obtain ⟨v, rfl, hq⟩ := z
    exact wpAny_pure hq
end
end JsLow

namespace L2
open PySem PySem.Spec PyProof.Rows
section
variable {X : Cx} {CX : CXT} {n : Nat} {C f : Addr} {fd : FuncData} {ps : List Str} {sp : Sp} {E : XK} {pins : List (Addr × Obj)} {σ : St} {H : Hp} {s : Shared}
/-- the callee runs somewhere below the body -/
theorem run_fnA {A : Around} {Q : VK} {us : List Value} {vs : List V} (F : FnOk X.prog X.w X.K X.mg X.base CX n f fd ps sp) (hr : Room n A) (e0 : Env0 X.prog X.w X.K X.mg X.base A X.stack s H) (hb : Binds X.K fd ps []) (hx : Passes CX X E)
    (I : Inv X pins σ H s) (r : Vals vs us) (h : sp vs H Q E) : wpAny (model X.prog X.w) A (call (.ref f) us) (EP X pins σ Q) X.xe s := by
  have hl : (us ++ []).length = ps.length := by rw [List.append_nil, ← r.length]; exact F.len _ _ _ _ h
  have hb' := hb s us I.kIn hl
  rw [List.append_nil] at hb'
  refine wpAny_call (codeAny_mono (F.run A X.stack s H ⟨us, []⟩ us vs Q E hr e0 hb' r h) fun r s' hq => ?_)
  cases r with
  | error e => exact hx pins σ H s e s' I hq
  | ok fl =>
    cases fl with
    | ret u => exact I.after hq
    | next => exact False.elim hq
    | brk => exact False.elim hq
    | cont => exact False.elim hq
theorem inst_of {a dx : Addr} {fs : List (Str × V)} (I : Inv X pins σ H s) (ha : H a = some (.ins C dx fs)) : ∃ od, PySem.W.InstAt s.heap a (PySem.W.instObj C dx) C (some od) := by
  obtain ⟨mA, J, _⟩ := ins_get I.hok ha
  obtain ⟨od, J, _⟩ := J.look
  exact ⟨od, J⟩
/-- what the text says of a class with a special def of its own -/
structure Own (K : PySem.W.Frag) (C : Addr) (name : Str) (f : Addr) : Prop where
  at_ : PySem.W.findIn K (.ref C) name = some (some (.ref f))
  fn : PySem.W.isFn K (.ref f) = true
/-- len(x) -/
def rLenOwn (C : Addr) (sp : Sp) (E : XK) : List V → Hp → VK → Prop := fun xs H Q => ∃ a dx fs, xs = [V.ref a] ∧ H a = some (.ins C dx fs) ∧ sp [.ref a] H (fun z H' => ∃ i : Int, z = .int i ∧ (0 ≤ i ∧ i < 2 ^ 63) ∧ Q (.int i) H') E
theorem call_lenOwn (o : Own X.K C "__len__" f) (F : FnOk X.prog X.w X.K X.mg X.base CX n f fd ps sp) (hb : Binds X.K fd ps []) (hr : Room (n + 1) X.A) (hx : Passes CX X E) : CallR X (.builtin "len") (rLenOwn C sp E) := by
  intro pins s σ H xs us Q I r h
  obtain ⟨a, dx, fs, rfl, ha, q⟩ := h
  obtain ⟨u, rfl, ru⟩ := vals1 r
  cases (show u = Value.ref a from ru)
  obtain ⟨od, J⟩ := inst_of I ha
  obtain ⟨m, hF⟩ := I.fr
  refine PySem.W.len_K hF I.ok.mod.kin J o.at_ o.fn (wpAny_mono (run_fnA (us := [.ref a]) (vs := [.ref a]) F hr.in1 I.env0.in1 hb hx I (.cons rfl .nil) q) (fun w s' z => ?_) fun _ _ x => x)
  obtain ⟨z', H', I', rz, i, ei, hi, qz⟩ := z
  subst ei
  obtain ⟨t, e⟩ := (show ∃ t, w = Value.int i t from rz)
  cases e
  exact ⟨hi, .int i, H', I'.tok _, ⟨_, rfl⟩, qz⟩
/-- str(x) -/
def rStrOwn (C : Addr) (sp : Sp) (E : XK) : List V → Hp → VK → Prop := fun xs H Q => ∃ a dx fs, xs = [V.ref a] ∧ H a = some (.ins C dx fs) ∧ sp [.ref a] H (fun z H' => ∃ i : Str, z = .str i ∧ Q (.str i) H') E
theorem call_strOwn (o : Own X.K C "__str__" f) (F : FnOk X.prog X.w X.K X.mg X.base CX n f fd ps sp) (hb : Binds X.K fd ps []) (hr : Room (n + 2) X.A) (hx : Passes CX X E) : CallR X (.type "str") (rStrOwn C sp E) := by
  intro pins s σ H xs us Q I r h
  obtain ⟨a, dx, fs, rfl, ha, q⟩ := h
  obtain ⟨u, rfl, ru⟩ := vals1 r
  cases (show u = Value.ref a from ru)
  obtain ⟨od, J⟩ := inst_of I ha
  have hr2 : Room n X.A.in1.in1 := (show Room (n + 1) X.A.in1 from Room.in1 hr).in1
  refine PySem.W.kso_call hr2.units0 I.kIn J o.at_ o.fn (wpAny_mono (run_fnA (us := [.ref a]) (vs := [.ref a]) F hr2 I.env0.in1.in1 hb hx I (.cons rfl .nil) q) (fun w s' z => ?_) fun _ _ x => x)
  obtain ⟨z', H', I', rz, i, ei, qz⟩ := z
  subst ei
  obtain ⟨t, e⟩ := (show ∃ t, w = Value.str i t from rz)
  cases e
  exact ⟨.str i, H', I', ⟨_, rfl⟩, qz⟩
/-- repr(x) -/
theorem call_reprOwn (o : Own X.K C "__repr__" f) (F : FnOk X.prog X.w X.K X.mg X.base CX n f fd ps sp) (hb : Binds X.K fd ps []) (hr : Room (n + 1) X.A) (hx : Passes CX X E) : CallR X (.builtin "repr") (rStrOwn C sp E) := by
  intro pins s σ H xs us Q I r h
  obtain ⟨a, dx, fs, rfl, ha, q⟩ := h
  obtain ⟨u, rfl, ru⟩ := vals1 r
  cases (show u = Value.ref a from ru)
  obtain ⟨od, J⟩ := inst_of I ha
  obtain ⟨m, hF⟩ := I.fr
  have hr2 : Room n X.A.in1 := Room.in1 hr
  refine PySem.W.repr_K hr2.units0 hF I.ok.mod.kin J o.at_ o.fn (wpAny_mono (run_fnA (us := [.ref a]) (vs := [.ref a]) F hr2 I.env0.in1 hb hx I (.cons rfl .nil) q) (fun w s' z => ?_) fun _ _ x => x)
  obtain ⟨z', H', I', rz, i, ei, qz⟩ := z
  subst ei
  obtain ⟨t, e⟩ := (show ∃ t, w = Value.str i t from rz)
  cases e
  exact ⟨.str i, H', I', ⟨_, rfl⟩, qz⟩
/-- x == y, both of the class at C, by its __eq__ -/
def rEqOwn (C : Addr) (sp : Sp) (E : XK) : R2 := fun x y H Q => ∃ a dx fs b dy gs, x = .ref a ∧ y = .ref b ∧ H a = some (.ins C dx fs) ∧ H b = some (.ins C dy gs) ∧ sp [x, y] H (fun z H' => ∃ b, z = .bl b ∧ Q (.bl b) H') E
def rNeOwn (C : Addr) (sp : Sp) (E : XK) : R2 := fun x y H Q => ∃ a dx fs b dy gs, x = .ref a ∧ y = .ref b ∧ H a = some (.ins C dx fs) ∧ H b = some (.ins C dy gs) ∧ sp [x, y] H (fun z H' => ∃ b, z = .bl b ∧ Q (.bl (!b)) H') E
/-- == of two of the class at A, below the body -/
theorem rc_own {A : Around} {Q : Bool → Hp → Prop} {a b dx dy : Addr} {fs gs : List (Str × V)} (o : Own X.K C "__eq__" f) (F : FnOk X.prog X.w X.K X.mg X.base CX n f fd ps sp) (hb : Binds X.K fd ps []) (hr : Room n A) (e0 : Env0 X.prog X.w X.K X.mg X.base A X.stack s H) (hx : Passes CX X E)
    (I : Inv X pins σ H s) (ha : H a = some (.ins C dx fs)) (hb' : H b = some (.ins C dy gs)) (q : sp [.ref a, .ref b] H (fun z H' => ∃ b, z = .bl b ∧ Q b H') E) :
    wpAny (model X.prog X.w) A (richCompare .Eq (.ref a) (.ref b)) (fun v s' => ∃ r, v = .bool r ∧ ∃ H', Inv X pins σ H' s' ∧ Q r H') X.xe s := by
  obtain ⟨od, J⟩ := inst_of I ha
  obtain ⟨od', J'⟩ := inst_of I hb'
  obtain ⟨m, hF⟩ := I.fr
  refine PySem.W.cmp_K (op := .Eq) (tb := .ref C) hr.units0 hF I.ok.mod.kin J J'.type (by simp [PySem.W.notFirst]) o.at_ o.fn (wpAny_mono (run_fnA (us := [.ref a, .ref b]) (vs := [.ref a, .ref b]) F hr e0 hb hx I (.cons rfl (.cons rfl .nil)) q) (fun w s' z => ?_) fun _ _ x => x)
  obtain ⟨z', H', I', rz, i, ei, qz⟩ := z
  subst ei
  cases (show w = Value.bool i from rz)
  exact ⟨i, rfl, H', I', qz⟩
theorem op_eqOwn (o : Own X.K C "__eq__" f) (F : FnOk X.prog X.w X.K X.mg X.base CX n f fd ps sp) (hb : Binds X.K fd ps []) (hr : Room n X.A) (hx : Passes CX X E) : OpR X (compareOp .Eq) (rEqOwn C sp E) := by
  intro pins s σ H x y v u Q I rx ry h
  obtain ⟨a, dx, fs, b, dy, gs, rfl, rfl, ha, hb', q⟩ := h
  cases (show v = Value.ref a from rx)
  cases (show u = Value.ref b from ry)
  show wpAny _ _ (richCompare .Eq (.ref a) (.ref b)) _ _ _
  refine wpAny_mono (rc_own (Q := fun r H' => Q (.bl r) H') o F hb hr I.env0 hx I ha hb' q) (fun w s' z => ?_) fun _ _ x => x
  obtain ⟨r, rfl, H', I', qz⟩ := z
  exact ⟨.bl r, H', I', rfl, qz⟩
/-- what != asks besides -/
structure OwnNe (K : PySem.W.Frag) (C : Addr) : Prop where
  ne : PySem.W.findIn K (.ref C) "__ne__" = some (some (.builtin "object.__ne__"))
  mro : PySem.W.mroIn K C (.type "object") = some true
theorem op_neOwn (o : Own X.K C "__eq__" f) (on : OwnNe X.K C) (F : FnOk X.prog X.w X.K X.mg X.base CX n f fd ps sp) (hb : Binds X.K fd ps []) (hr : Room (n + 1) X.A) (hx : Passes CX X E) : OpR X (compareOp .NotEq) (rNeOwn C sp E) := by
  intro pins s σ H x y v u Q I rx ry h
  obtain ⟨a, dx, fs, b, dy, gs, rfl, rfl, ha, hb', q⟩ := h
  cases (show v = Value.ref a from rx)
  cases (show u = Value.ref b from ry)
  show wpAny _ _ (richCompare .NotEq (.ref a) (.ref b)) _ _ _
  obtain ⟨od, J⟩ := inst_of I ha
  obtain ⟨od', J'⟩ := inst_of I hb'
  refine JsLow.ne_K (tb := .ref C) (hu_of hr) I.kIn J J'.type (by simp [PySem.W.notFirst]) on.mro on.ne o.at_ o.fn (wpAny_mono (run_fnA (us := [.ref a, .ref b]) (vs := [.ref a, .ref b]) F hr.in1 I.env0.in1 hb hx I (.cons rfl (.cons rfl .nil)) q) (fun w s' z => ?_) fun _ _ x => x)
  obtain ⟨z', H', I', rz, i, ei, qz⟩ := z
  subst ei
  cases (show w = Value.bool i from rz)
  exact ⟨i, rfl, .bl (!i), H', I', rfl, qz⟩
end
end L2

set_option Elab.async false
set_option linter.all false
set_option maxRecDepth 100000
set_option maxHeartbeats 2000000
namespace GQ
open PySem PySem.SeqAt
open AutoSeq1 (wpAny_loadPart')
open MeetsSeq MeetsSeq2 MeetsSeq3 SeqRoads2
section
variable {prog : Program} {w : World} {A : Around} {R : Result → Shared → Prop}
/-- x in a list: at each turn the list is read anew -/
def InI (prog : Program) (w : World) (A : Around) (R : Result → Shared → Prop) (l : Addr) (x : Value) (N : Nat) (I : Nat → Shared → Prop) : Prop :=
  ∀ i s, I i s → ∃ (items : Array Value) (n : Nat), s.heap.get? l = some { cls := .type "list", data := .seq items n } ∧ items.size = N ∧
    ∀ (h1 : i < items.size), wpAny (model prog w) A.in1 (eqBool items[i] x) (fun r s' => if r = true then R (.ok (.ret (.bool true))) s' else I (i + 1) s') (fun e s' => R (.error e) s') s
theorem in_loopG (l : Addr) (x : Value) (N : Nat) (I : Nat → Shared → Prop) (hl : InI prog w A R l x N I)
    (fin : ∀ s, I N s → R (.ok (.ret (.bool false))) s) (k : Nat) :
    ∀ i : Nat, N - i = k → i ≤ N → ∀ s, I i s →
      wpAny (model prog w) A.in1 (Builtin.«list.__contains__.loop» ⟨[.ref l, x, rawInt i], []⟩) (FinOf prog w A R) (fun e s' => R (.error e) s') s := by
  induction k with
  | zero =>
    intro i hk hi s h
    obtain ⟨items, n, hl1, hs1, _⟩ := hl _ _ h
    have hi' : i = N := by omega
    have hR : R (.ok (.ret (.bool false))) s := fin s (hi' ▸ h)
    obtain ⟨hp, g, d, tk, os⟩ := s
    wp_walk using wpAny_loadPart' hl1
    have hi1 : items[((i : Nat) : Int).toNat]? = none := by simp; omega
    rw [hi1]
    wp_walk
    exact hR
  | succ k ih =>
    intro i hk hi s h
    obtain ⟨items, n, hl1, hs1, turn⟩ := hl _ _ h
    have hlt : i < items.size := by omega
    have ht := turn hlt
    obtain ⟨hp, g, d, tk, os⟩ := s
    wp_walk using wpAny_loadPart' hl1
    have hi1 : items[((i : Nat) : Int).toNat]? = some items[i] := by simp [hlt]
    have hc : ((i : Int) + 1) = ((i + 1 : Nat) : Int) := by omega
    rw [hi1]
    refine wpAny_bind (wpAny_mono ht (fun r s2 h2 => ?_) fun _ _ x => x)
    cases r with
    | true =>
      rw [if_pos rfl] at h2
      obtain ⟨hp2, g2, d2, tk2, os2⟩ := s2
      wp_walk
      exact h2
    | false =>
      rw [if_neg Bool.false_ne_true] at h2
      have hrec := ih (i + 1) (by omega) (by omega) s2 h2
      obtain ⟨hp2, g2, d2, tk2, os2⟩ := s2
      wp_walk
      rw [hc]
      exact ⟨plainId_quiet plain_contains_loop _, codeAny_builtin entry_contains_loop (by
        rw [Around.under_plainId plain_contains_loop _]
        exact hrec)⟩
theorem list_inG (l : Addr) (x : Value) (N : Nat) (I : Nat → Shared → Prop) (hl : InI prog w A R l x N I)
    (fin : ∀ s, I N s → R (.ok (.ret (.bool false))) s) {s : Shared} (h : I 0 s) :
    wpAny (model prog w) A.in1 (Builtin.«list.__contains__» ⟨[.ref l, x], []⟩) (FinOf prog w A R) (fun e s' => R (.error e) s') s := by
  obtain ⟨items, n, hl1, hs1, _⟩ := hl _ _ h
  have hrec := in_loopG (A := A) (R := R) l x N I hl fin _ 0 rfl (Nat.zero_le _) s h
  obtain ⟨hp, g, d, tk, os⟩ := s
  wp_walk using wpAny_loadPart' hl1
  exact ⟨plainId_quiet plain_contains_loop _, codeAny_builtin entry_contains_loop (by
    rw [Around.under_plainId plain_contains_loop _]
    exact hrec)⟩
theorem op_in_listG {E : Value → Shared → Prop} {s : Shared} {l : Addr} {x : Value} {N : Nat} {Q : Value → Shared → Prop} (I : Nat → Shared → Prop)
    (hl : InI prog w A (wants (fun v s' => ∃ b, v = .bool b ∧ Q (.bool b) s') E) l x N I)
    (fin : ∀ s, I N s → Q (.bool false) s) (h : I 0 s) : wpAny (model prog w) A (compareOp .In x (.ref l)) Q E s := by
  obtain ⟨items, n, hl1, hs1, _⟩ := hl _ _ h
  show wpAny _ A (do return .bool (← contains (.ref l) x)) Q E s
  refine wpAny_bind (wpAny_contains_slot ⟨_, hl1, rfl⟩ F.slot_list_contains (wpAny_mono (call_here F.slot_list_contains ⟨_, hl1, rfl⟩ F.entry_list_contains (F.args_list_contains_2 _ _)
    (list_inG (R := wants (fun v s' => ∃ b, v = .bool b ∧ Q (.bool b) s') E) l x N I hl (fun s' q => ⟨false, rfl, fin s' q⟩) h)) (fun v s' hv => ?_) fun _ _ e => e))
  obtain ⟨b, rfl, hq⟩ := hv
  exact wpAny_truthy_bool (wpAny_pure hq)
end
end GQ
namespace L2
open PySem PySem.Spec PyProof.Rows
/-- how == answers, by the abstract heap -/
abbrev Tells := V → V → Bool → Hp → Prop
def EqT (X : Cx) (n : Nat) (D : Tells) : Prop :=
  ∀ (A : Around) (pins : List (Addr × Obj)) (s : Shared) (σ : St) (H : Hp) (x y : V) (u v : Value) (r : Bool), Sub X n A → Inv X pins σ H s → RelV x u → RelV y v → D x y r H →
    wpAny (model X.prog X.w) A (eqBool u v) (fun r' s' => r' = r ∧ ∃ H', Inv X pins σ H' s' ∧ Same H H') X.xe s
def rInT (D : Tells) : R2 := fun x y H Q => ∃ (p : Addr) (xs : List V) (bs : List Bool), y = .ref p ∧ H p = some (.lst xs) ∧ bs.length = xs.length ∧ (∀ (i : Nat) z b, xs[i]? = some z → bs[i]? = some b → D z x b H) ∧ ∀ H', Same H H' → Q (.bl (bs.any id)) H'
theorem op_inT {X : Cx} {n : Nat} {D : Tells} (h : EqT X n D) (mon : ∀ x y r H H', Same H H' → D x y r H → D x y r H') (hr : Room (n + 1) X.A) : OpR X (compareOp .In) (rInT D) := by
  intro pins s σ H x y v u Q I rx ry hq
  obtain ⟨p, xs, bs, rfl, hp, hl, hd, q⟩ := hq
  cases (show u = Value.ref p from ry)
  refine GQ.op_in_listG (N := xs.length) (fun i s' => (∃ H', Inv X pins σ H' s' ∧ Same H H') ∧ (bs.take i).any id = false) (fun i s' z => ?_) (fun s' z => ?_) ⟨⟨H, I, Same.refl H⟩, by simp⟩
  · obtain ⟨⟨H1, I1, e1⟩, nb⟩ := z
    obtain ⟨z, its, k, r, e⟩ := I1.hok p _ (e1 _ _ hp)
    refine ⟨its.toArray, k, e, by rw [List.size_toArray, ← r.length], fun h1 => ?_⟩
    have h1' : i < its.length := by simpa using h1
    have k1 : i < xs.length := by rw [r.length]; exact h1'
    have k2 : i < bs.length := by rw [hl]; exact k1
    obtain ⟨w', hw, rw'⟩ := r.get (List.getElem?_eq_getElem k1)
    have g1 : its[i]? = some its.toArray[i] := by rw [List.getElem?_eq_getElem h1'] <;> simp
    rw [g1] at hw
    rw [Option.some.inj hw]
    refine wpAny_mono (h X.A.in1 pins s' σ H1 _ x w' v _ ⟨hr.in1, rfl⟩ I1 rw' rx (mon _ _ _ _ _ e1 (hd i _ _ (List.getElem?_eq_getElem k1) (List.getElem?_eq_getElem k2)))) (fun r' s2 q2 => ?_) fun _ _ x => x
    obtain ⟨er, H2, I2, e2⟩ := q2
    subst er
    have tk : (bs.take (i + 1)).any id = bs[i] := by
      rw [List.take_succ_eq_append_getElem k2, List.any_append, nb]
      simp
    cases hb : bs[i] with
    | true =>
      rw [if_pos rfl]
      refine ⟨true, rfl, .bl true, H2, I2, rfl, ?_⟩
      have qq := q H2 (e1.trans e2)
      have : bs.any id = true := List.any_eq_true.mpr ⟨bs[i], List.getElem_mem k2, by rw [hb]; rfl⟩
      rw [this] at qq
      exact qq
    | false =>
      rw [if_neg Bool.false_ne_true]
      exact ⟨⟨H2, I2, e1.trans e2⟩, by rw [tk, hb]⟩
  · obtain ⟨⟨H1, I1, e1⟩, nb⟩ := z
    rw [← hl, List.take_length] at nb
    have qq := q H1 e1
    rw [nb] at qq
    exact ⟨.bl false, H1, I1, rfl, qq⟩
/-- == inside a list of two of the class at C -/
theorem eqT_own {X : Cx} {CX : CXT} {n : Nat} {C f : Addr} {fd : FuncData} {ps : List Str} {sp : Sp} {E : XK} {D : Tells} (o : Own X.K C "__eq__" f) (F : FnOk X.prog X.w X.K X.mg X.base CX n f fd ps sp) (hb : Binds X.K fd ps []) (hx : Passes CX X E)
    (hD : ∀ x y r H, D x y r H → ∃ a b dx dy fs gs, x = .ref a ∧ y = .ref b ∧ H a = some (.ins C dx fs) ∧ H b = some (.ins C dy gs) ∧ (a = b → r = true) ∧ sp [.ref a, .ref b] H (fun z H' => ∃ b, z = .bl b ∧ b = r ∧ Same H H') E) : EqT X n D := by
  intro A pins s σ H x y u v r sb I rx ry d
  obtain ⟨a, b, dx, dy, fs, gs, rfl, rfl, ha, hb', hab, q⟩ := hD _ _ _ _ d
  cases (show u = Value.ref a from rx)
  cases (show v = Value.ref b from ry)
  by_cases hc : a = b
  · subst hc
    rw [hab rfl]
    exact SeqAt.EqAt.same (A := A) (s := s) (.ref a) X.prog X.w X.xe _ ⟨rfl, H, I, Same.refl H⟩
  · have e0 : Env0 X.prog X.w X.K X.mg X.base A X.stack s H := by
      have e := I.env0
      exact ⟨by rw [sb.fr]; exact e.frames, e.mod, e.bs, e.bsz, e.funs, e.frf, e.hok, e.bare⟩
    refine GQ.eqBool_refG hc (wpAny_mono (rc_own (Q := fun r' H' => r' = r ∧ Same H H') o F hb sb.room e0 hx I ha hb' q) (fun w s' z => ?_) fun _ _ x => x)
    obtain ⟨r', hw, H', I', er, sm⟩ := z
    exact ⟨r', hw, er, H', I', sm⟩

/-! ### o[a:c] = ys -/
def gSlice (to : TE) (tl th : TO) : TG := fun v σ H Q => to σ H fun o H1 => tl σ H1 fun l H2 => th σ H2 fun u H3 => ∃ (p q : Addr) (xs ys : List V) (a c : Int), o = .ref p ∧ v = .ref q ∧ l = some a ∧ u = some c ∧ H3 p = some (.lst xs) ∧ H3 q = some (.lst ys) ∧ p ≠ q ∧
  0 ≤ a ∧ a ≤ c ∧ c ≤ xs.length ∧ xs.length + ys.length ≤ sizeLine ∧ Q σ (upd H3 p (.lst (xs.take a.toNat ++ ys ++ xs.drop c.toNat)))
theorem pg_slice {X : Cx} {o : Expr} {lo hi : Option Expr} {to : TE} {tl th : TO} {p2 pos : Pos} (ho : PE X o to) (hl : PO X lo tl) (hu : PO X hi th)
    (ha : ∀ v, assign (.Subscript o (.Slice lo hi none p2) pos) X.env v = (do
      let ov ← holding [v] (eval o X.env)
      let iv ← holding [v, ov] (eval (.Slice lo hi none p2) X.env)
      standAt pos
      holding [v, ov, iv] (setItem ov iv v)
      release [iv, v, ov] []) := by intro _; rfl) : PG X (.Subscript o (.Slice lo hi none p2) pos) (gSlice to tl th) := by
  refine ⟨fun pins s σ H v u Q I r h => ?_⟩
  rw [ha]
  refine wpAny_bind (wpAny_holding (thn (ho.run pins s σ H _ I h) fun ov s1 ⟨x, H1, I1, r1, q1⟩ => ?_))
  refine wpAny_bind (wpAny_holding (wpAny_Slice (thn (hl.run pins s1 σ H1 _ I1 q1) fun vl s2 ⟨l, H2, I2, pl, q2⟩ => thn (hu.run pins s2 σ H2 _ I2 q2) fun vu s3 ⟨m, H3, I3, pu, q3⟩ => ?_)))
  rw [evalPart_none]
  refine wpAny_pure ?_
  have I4 : Inv X pins σ H3 { s3 with heap := s3.heap.push { cls := .type "slice", data := .fields #[vl, vu, .none] } } := I3.kept (t' := s3.toks) fun b ob q => Heap.get?_push_of_some _ q
  obtain ⟨p, q, xs, ys, a, c, rfl, rfl, rfl, rfl, hp, hq, hne, h0, hac, hc, hz, k⟩ := q3
  cases (show ov = Value.ref p from r1)
  cases (show u = Value.ref q from r)
  refine wpAny_bind (wpAny_standAt (wpAny_bind (wpAny_holding ?_)))
  have ra : RelV (.int a) vl := by cases pl; exact ⟨_, rfl⟩
  have rc : RelV (.int c) vu := by cases pu; exact ⟨_, rfl⟩
  exact set_slice I4 hp hq hne (Heap.IsSliceOf.new ..) ra rc h0 hac hc hz fun s' I5 => wpAny_release ⟨σ, _, I5, k⟩

/-! ### enumerate(text) -/
def Itse (x : Str) : It := ⟨fun i _ => i < x.cps.size, fun i H v H' => ∃ T c, v = .ref T ∧ H T = none ∧ H' = upd H T (.tup [.int (i : Nat), .str ⟨#[c]⟩]) ∧ x.cps[i]? = some c, fun i _ => i = x.cps.size⟩
theorem draws_str {prog : Program} {w : World} {A : Around} (hh : A.handled = none) (it : Addr) (x : Str) (t : Tok) :
    Draws prog w A it [it] x.cps.size (fun i v => ∃ c u, x.cps[i]? = some c ∧ v = .str ⟨#[c]⟩ u) (fun i h => h.IsStrIter it (strIterType x) x t i) := by
  unfold strIterType
  split
  · exact Draws.strAscii hh it x t
  · exact Draws.strWide hh it x t
theorem turn_enumS {P : Program} {w : World} {K : PySem.W.Frag} {elts : List Expr} {kk : Nat} {tpos : Pos} (x : Str) (t : Tok) (e it : Addr) :
    Turn P w K (.Tuple elts kk tpos) (Itse x) [e, it] e (fun i h => (∃ old, IsEnum h e it ((i : Nat) : Int) old) ∧ h.IsStrIter it (strIterType x) x t i ∧ e ≠ it) where
  mem := by simp
  obj := fun i h st b hb => by
    obtain ⟨⟨old, he⟩, ⟨o, ho, hc, hd⟩, _⟩ := st
    have e' : b = e ∨ b = it := by simpa using hb
    rcases e' with z | z
    · rw [z]; exact ⟨_, he, fun v q => nomatch q⟩
    · rw [z]; exact ⟨o, ho, fun v q => by rw [hd] at q; cases q⟩
  keep := fun i h h' st k => let ⟨⟨old, he⟩, ⟨o, ho, r⟩, hne⟩ := st; ⟨⟨old, k e (by simp) _ he⟩, ⟨o, k it (by simp) o ho, r⟩, hne⟩
  item := by
    intro X hP hw hK hc i pins s σ H E I hf st hg
    subst hP hw hK
    obtain ⟨⟨old, he⟩, hit, hne⟩ := st
    have hel : e < s.heap.objs.size := Heap.lt_size he
    have hil : it < s.heap.objs.size := by obtain ⟨_, q, _⟩ := hit; exact Heap.lt_size q
    refine wpAny_pyNext_enum_itemD (draws_str (A := X.A.in1) (show X.A.in1.handled = none from I.ok.hd hc) it x t) he hit hg hne (by simpa using hne) fun u h' tk hPx ho hit' hT hsz hk => ?_
    obtain ⟨c, tu, hcx, rfl⟩ := hPx
    refine ⟨_, rfl, wpAny_letOwnedTupleGo_enum (s := { s with heap := h', toks := tk + 1 }) ho fun h'' he' sb => ?_⟩
    have hT2 : h''.get? s.heap.objs.size = some { cls := .type "tuple", data := .seq #[.int i tk, .str ⟨#[c]⟩ tu] } := (sb.2 _ (Nat.ne_of_gt hel)).trans hT
    have new : ObjOk X.prog X.w (upd H s.heap.objs.size (.tup [.int (i : Nat), .str ⟨#[c]⟩])) h'' s.heap.objs.size (.tup [.int (i : Nat), .str ⟨#[c]⟩]) :=
      ⟨by show 2 ≤ sizeLine; decide, [.int i tk, .str ⟨#[c]⟩ tu], .cons ⟨_, rfl⟩ (.cons ⟨_, rfl⟩ .nil), ⟨_, hT2, rfl, _, rfl⟩⟩
    have I1 : Inv X pins σ (upd H s.heap.objs.size (.tup [.int (i : Nat), .str ⟨#[c]⟩])) { s with heap := h'', toks := tk + 1 } :=
      I.turnedNew (ch := [e, it]) (fun b ob hb q => (sb.2 b (fun z => hb (by simp [z]))).trans (hk b ob (fun z => hb (by simp [z])) (fun z => hb (by simp [z])) q)) hf (Nat.le_refl _) new
    refine ⟨.ref s.heap.objs.size, _, I1, rfl, ⟨_, c, rfl, I.hok.fresh (Nat.le_refl _), rfl, hcx⟩, ⟨⟨.str ⟨#[c]⟩ tu, ?_⟩, ?_, hne⟩, fun b hb => ?_⟩
    · have e1 : ((i + 1 : Nat) : Int) = (i : Int) + 1 := by omega
      rw [e1]; exact he'
    · obtain ⟨o, q, r⟩ := hit'
      exact ⟨o, (sb.2 it (Ne.symm hne)).trans q, r⟩
    · have hb' : b < s.heap.objs.size := by
        have e' : b = e ∨ b = it := by simpa using hb
        rcases e' with z | z
        · rw [z]; exact hel
        · rw [z]; exact hil
      rw [upd_ne (Nat.ne_of_lt hb')]
      exact (hf b hb).1
  done := by
    intro X hP hw hK hc i pins s σ H E I hf st hg
    subst hP hw hK
    obtain ⟨⟨old, he⟩, hit, hne⟩ := st
    obtain ⟨f0, f1, f2, f3, f4, f5⟩ := hf it (by simp)
    have hin : i = x.cps.size := hg
    subst hin
    exact wpAny_pyNext_enum_endD (draws_str (A := X.A.in1) (show X.A.in1.handled = none from I.ok.hd hc) it x t) he hit fun h' eb => ⟨rfl, I.turned (t' := s.toks) (fun b o hb q => eb b o hb q) f0 f1 f3 f4 f5⟩
  self := fun A i s Q E st h => let ⟨⟨_, he⟩, _⟩ := st; wpAny_pyIter_enum he h
def iEnumS (ta : TA) : TI := fun σ H R => ta σ H fun vs H1 => ∃ x, vs = [.str x] ∧ R (Itse x) H1
theorem pi_enumS {X : Cx} {e : Expr} {ta : TA} {p pos tpos : Pos} {elts : List Expr} {kk : Nat} (hg : Gl X "enumerate") (hm : X.mg "enumerate" = none) (ha : PA X [e] ta) (hs : starEach [e] X.env = [(false, eval e X.env)] := by rfl) :
    PI X (.Tuple elts kk tpos) (.Call (.Name "enumerate" p) [e] [] pos) (iEnumS ta) := by
  refine ⟨fun pins s σ H R I h => ?_⟩
  refine Call_ (ld_blt I hg hm boot_enumerate (PyProof.Rows.callWith_type1 (thn (ha.run pos pins s σ H _ I h) fun us s1 ⟨vs, H1, I1, r1, q1⟩ => ?_) hs rfl))
  obtain ⟨x, ex, q⟩ := q1
  subst ex
  obtain ⟨u, rfl, ru⟩ := vals1 r1
  obtain ⟨t, rfl⟩ := ru
  refine call_enumerate_str fun h' he hit hsz hk => wpAny_pyIter_enum he ?_
  have I2 : Inv X pins σ H1 { s1 with heap := h' } := I1.kept (t' := s1.toks) hk
  refine ⟨s1.heap.objs.size + 1, [s1.heap.objs.size + 1, s1.heap.objs.size], _, _, H1, rfl, I2, turn_enumS x t (s1.heap.objs.size + 1) s1.heap.objs.size, ⟨⟨.none, he⟩, hit, Nat.succ_ne_self _⟩, fun b hb => ?_, q⟩
  have e' : b = s1.heap.objs.size + 1 ∨ b = s1.heap.objs.size := by simpa using hb
  have hle : s1.heap.objs.size ≤ b := by
    rcases e' with z | z
    · rw [z]; exact Nat.le_add_right _ _
    · rw [z]; exact Nat.le_refl _
  exact I1.fpOk hle (I1.hok.fresh hle)
theorem walk_enumS {z : Str} : Walk (Itse z) z.cps.size (fun _ => True) (fun i H v H' => ∃ T c, v = .ref T ∧ H T = none ∧ H' = upd H T (.tup [.int (i : Nat), .str ⟨#[c]⟩]) ∧ z.cps[i]? = some c) :=
  ⟨fun _ _ h _ => h, fun _ _ => rfl, fun _ _ _ _ _ _ y => y⟩
end L2

set_option Elab.async false
set_option linter.all false
set_option maxRecDepth 100000
set_option maxHeartbeats 2000000
namespace L2
open PySem PySem.Spec PyProof.Rows
/-! ### len(range(n)) -/
theorem call_len_range {prog : Program} {w : World} {A : Around} {E : Value → Shared → Prop} {s : Shared} {r : Addr} {a b : Int} {t u v : Tok} {Q : Value → Shared → Prop} (hr : IsRange s.heap r a b 1 t u v) (h : (b - a).toNat < 2 ^ 62)
    (hq : Q (.int ((b - a).toNat : Nat) (s.toks + 1)) { s with toks := s.toks + 1 + 1 }) : wpAny (model prog w) A (call (.builtin "len") [.ref r]) Q E s := by
  have hT : s.TypeIs (.ref r) "range" := ⟨_, hr, rfl⟩
  have hn : Builtin.Range.rangeSize a b 1 = ((b - a).toNat : Nat) := rangeSize_nat a b
  refine call_len_slot (n := ((b - a).toNat : Nat)) hT F.slot_range_len (fun Q' hq' => wpAny_call_entry F.slot_range_len hT F.entry_range_len ?_ (F.args_range_len_1 _)) (by omega) (by omega) hq
  obtain ⟨hp, g, d, tk, os⟩ := s
  unfold Builtin.«range.__len__»
  have h2 : ¬ ((((b - a).toNat : Nat) : Int) ≥ 2 ^ 63) := by omega
  refine wpAny_bind (wpAny_pure ?_)
  show wpAny _ _ (Builtin.Range.rangeFields (.ref r) >>= _) _ _ _
  unfold Builtin.Range.rangeFields
  repeat (first
    | (with_reducible refine wpAny_bind ?_)
    | (with_reducible refine wpAny_field hr rfl rfl ?_)
    | (with_reducible refine wpAny_pure ?_)
    | (simp only [hn, if_neg h2])
    | wp_step)
  all_goals first | exact ⟨_, rfl, hq'⟩ | exact hq' | skip
def tLenRg (te : St → Hp → (Int → Int → Hp → Prop) → Prop) : TE := fun σ H Q => te σ H fun a b H1 => (b - a).toNat < 2 ^ 62 ∧ Q (.int ((b - a).toNat : Nat)) H1
theorem pe_lenRg {X : Cx} {e : Expr} {te : St → Hp → (Int → Int → Hp → Prop) → Prop} {p pos : Pos} (hg : Gl X "len") (hm : X.mg "len" = none) (he : PRg X e te) (na : starEach [e] X.env = (false, eval e X.env) :: starEach [] X.env := by rfl) :
    PE X (.Call (.Name "len" p) [e] [] pos) (tLenRg te) := by
  refine ⟨fun pins s σ H Q I h => ?_⟩
  refine Call_ (ld_blt I hg hm PySem.boot_len (PyProof.Rows.callWith_builtin1 (args_cons (thn (he pins s σ H _ I h) fun x s1 ⟨r, a, b, t, u, v, H1, ex, hr, I1, ok, q⟩ => args_nil ?_) na) na rfl))
  subst ex
  exact call_len_range hr ok ⟨.int _, H1, I1.tok _, ⟨_, rfl⟩, q⟩
end L2

set_option Elab.async false
set_option linter.all false
set_option maxRecDepth 100000
set_option maxHeartbeats 2000000
/-! trees: what a thing is; their texts; how they stand in the heap -/
namespace Js
open PySem L2
inductive Tr where
  | nil
  | pr (l r : Tr)
  deriving DecidableEq
namespace Tr
def size : Tr → Nat
  | nil => 0
  | pr l r => 1 + l.size + r.size
def codes : Tr → List Nat
  | nil => [46]
  | pr l r => 40 :: (l.codes ++ (r.codes ++ [41]))
def text (t : Tr) : Str := ⟨t.codes.toArray⟩
theorem text_list (t : Tr) : t.text.cps.toList = t.codes := rfl
theorem codes_len : ∀ t : Tr, t.codes.length = 3 * t.size + 1
  | nil => rfl
  | pr l r => by
    have h1 := codes_len l
    have h2 := codes_len r
    simp only [codes, size, List.length_cons, List.length_append, List.length_nil]
    omega
theorem text_len (t : Tr) : t.text.length = 3 * t.size + 1 := by
  have h : t.text.length = t.codes.length := by
    show t.codes.toArray.size = _
    rw [List.size_toArray]
  rw [h, codes_len]
/-- codes are read in one way -/
theorem codes_pre : ∀ (t u : Tr) (p q : List Nat), t.codes ++ p = u.codes ++ q → t = u ∧ p = q
  | nil, nil, p, q, h => ⟨rfl, by simpa [codes] using h⟩
  | nil, pr l r, p, q, h => by simp [codes] at h
  | pr l r, nil, p, q, h => by simp [codes] at h
  | pr l r, pr l' r', p, q, h => by
    simp only [codes, List.cons_append, List.append_assoc, List.cons.injEq, true_and] at h
    obtain ⟨e1, h1⟩ := codes_pre l l' _ _ h
    obtain ⟨e2, h2⟩ := codes_pre r r' _ _ h1
    subst e1 e2
    simp only [List.nil_append, List.cons.injEq, true_and] at h2
    exact ⟨rfl, h2⟩
theorem codes_inj {t u : Tr} (h : t.codes = u.codes) : t = u := (codes_pre t u [] [] (by simpa using h)).1
theorem text_inj {t u : Tr} (h : t.text = u.text) : t = u := codes_inj (by rw [← text_list, ← text_list, h])
theorem size_nil {t : Tr} (h : t.size = 0) : t = nil := by
  cases t with
  | nil => rfl
  | pr l r => simp [size] at h
theorem small_eq {t u : Tr} (h : t.size = u.size) (h1 : t.size ≤ 1) : t = u := by
  cases t with
  | nil => exact (size_nil h.symm).symm
  | pr l r =>
    cases u with
    | nil => simp [size] at h
    | pr l' r' =>
      simp only [size] at h h1
      have e1 := size_nil (t := l) (by omega)
      have e2 := size_nil (t := r) (by omega)
      have e3 := size_nil (t := l') (by omega)
      have e4 := size_nil (t := r') (by omega)
      rw [e1, e2, e3, e4]
def head : Tr → Tr
  | nil => nil
  | pr l _ => l
def tail : Tr → Tr
  | nil => nil
  | pr _ r => r
end Tr
open Tr (small_eq)
/-! ### the attributes -/
theorem n_fs : ¬ (("first" : Str) = "second") := by decide +kernel
theorem n_fz : ¬ (("first" : Str) = "size") := by decide +kernel
theorem n_sf : ¬ (("second" : Str) = "first") := by decide +kernel
theorem n_sz : ¬ (("second" : Str) = "size") := by decide +kernel
def tf (f s : V) (n : Int) : List (Str × V) := putF "size" (.int n) (putF "second" s (putF "first" f []))
theorem tf_len (f s : V) (n : Int) : (tf f s n).length ≤ 3 := by
  unfold tf
  have h1 := length_putF "first" f []
  have h2 := length_putF "second" s (putF "first" f [])
  have h3 := length_putF "size" (.int n) (putF "second" s (putF "first" f []))
  simp only [List.length_nil] at h1
  omega
theorem tf_first (f s : V) (n : Int) : (tf f s n).lookup ("first" : Str) = some f := by
  unfold tf
  rw [lookup_putF, if_neg n_fz, lookup_putF, if_neg n_fs, lookup_putF, if_pos rfl]
theorem tf_second (f s : V) (n : Int) : (tf f s n).lookup ("second" : Str) = some s := by
  unfold tf
  rw [lookup_putF, if_neg n_sz, lookup_putF, if_pos rfl]
theorem tf_size (f s : V) (n : Int) : (tf f s n).lookup ("size" : Str) = some (.int n) := by
  unfold tf
  rw [lookup_putF, if_pos rfl]
theorem tf_no (f s : V) (n : Int) {m : Str} (h1 : ¬ m = "size") (h2 : ¬ m = "second") (h3 : ¬ m = "first") : (tf f s n).lookup m = none := by
  unfold tf
  rw [lookup_putF, if_neg h1, lookup_putF, if_neg h2, lookup_putF, if_neg h3]
  all_goals rfl
/-- a thing stands at a -/
inductive Th (C : Addr) (H : Hp) : Addr → Tr → Prop where
  | nil {a dx : Addr} (h : H a = some (.ins C dx (tf .non .non 0))) : Th C H a .nil
  | pr {a dx b c : Addr} {l r : Tr} (h : H a = some (.ins C dx (tf (.ref b) (.ref c) ((Tr.pr l r).size : Nat)))) (hl : Th C H b l) (hr : Th C H c r) : Th C H a (.pr l r)
/-- all that is no list stays -/
def KT (H H' : Hp) : Prop := ∀ a o, H a = some o → (∀ xs, o ≠ HO.lst xs) → H' a = some o
theorem KT.of {H H' : Hp} (s : Same H H') : KT H H' := fun _ _ h _ => s _ _ h
theorem KT.refl (H : Hp) : KT H H := fun _ _ h _ => h
theorem KT.trans {H H1 H2 : Hp} (a : KT H H1) (b : KT H1 H2) : KT H H2 := fun x o h n => b x o (a x o h n) n
theorem KT.lst {H : Hp} {p : Addr} {o : HO} {xs : List V} (hp : H p = some (.lst xs)) : KT H (upd H p o) := fun a u h n => by
  rw [upd_ne]
  · exact h
  · intro e
    subst e
    exact n _ (Option.some.inj (h.symm.trans hp))
theorem KT.new {H : Hp} {p : Addr} {o : HO} (hp : H p = none) : KT H (upd H p o) := fun a u h n => by
  rw [upd_ne (ne_of_none h hp)]
  exact h
theorem _root_.L2.Same.new {H : Hp} {p : Addr} {o : HO} (hp : H p = none) : Same H (upd H p o) := fun a u h => by
  rw [upd_ne (ne_of_none h hp)]
  exact h
/-- a list that is new since H0 changes -/
theorem _root_.L2.Same.set {H0 H : Hp} {p : Addr} {o : HO} (s : Same H0 H) (hp : H0 p = none) : Same H0 (upd H p o) := fun a u h => by
  rw [upd_ne (ne_of_none h hp)]
  exact s _ _ h
theorem Th.kt {C : Addr} {H H' : Hp} (k : KT H H') {a : Addr} {t : Tr} (h : Th C H a t) : Th C H' a t := by
  induction h with
  | nil h => exact .nil (k _ _ h (fun _ e => nomatch e))
  | pr h _ _ ih1 ih2 => exact .pr (k _ _ h (fun _ e => nomatch e)) ih1 ih2
theorem Th.same {C : Addr} {H H' : Hp} (s : Same H H') {a : Addr} {t : Tr} (h : Th C H a t) : Th C H' a t := h.kt (KT.of s)
theorem Th.obj {C : Addr} {H : Hp} {a : Addr} {t : Tr} (h : Th C H a t) : ∃ dx f s, H a = some (.ins C dx (tf f s (t.size : Nat))) := by
  cases h with
  | nil h => exact ⟨_, _, _, h⟩
  | pr h _ _ => exact ⟨_, _, _, h⟩
theorem tf_ref_inj {C dx dx' : Addr} {f s f' s' : V} {n n' : Int} (h : HO.ins C dx (tf f s n) = HO.ins C dx' (tf f' s' n')) : f = f' ∧ s = s' ∧ n = n' := by
  injection h with _ _ h3
  have e1 := congrArg (List.lookup ("first" : Str)) h3
  have e2 := congrArg (List.lookup ("second" : Str)) h3
  have e3 := congrArg (List.lookup ("size" : Str)) h3
  rw [tf_first, tf_first] at e1
  rw [tf_second, tf_second] at e2
  rw [tf_size, tf_size] at e3
  exact ⟨Option.some.inj e1, Option.some.inj e2, V.int.inj (Option.some.inj e3)⟩
theorem Th.inj {C : Addr} {H : Hp} {a : Addr} {t u : Tr} (h : Th C H a t) (h' : Th C H a u) : t = u := by
  induction h generalizing u with
  | nil h =>
    cases h' with
    | nil _ => rfl
    | pr h' _ _ =>
      have e := Option.some.inj (h.symm.trans h')
      exact V.noConfusion (tf_ref_inj e).1
  | pr h _ _ ih1 ih2 =>
    cases h' with
    | nil h' =>
      have e := Option.some.inj (h.symm.trans h')
      exact V.noConfusion (tf_ref_inj e).1
    | pr h' h1 h2 =>
      have e := tf_ref_inj (Option.some.inj (h.symm.trans h'))
      have e1 := V.ref.inj e.1
      have e2 := V.ref.inj e.2.1
      subst e1 e2
      rw [ih1 h1, ih2 h2]
/-- a pair: what its attributes hold -/
theorem Th.pair {C : Addr} {H : Hp} {a : Addr} {l r : Tr} (h : Th C H a (.pr l r)) : ∃ dx b c, H a = some (.ins C dx (tf (.ref b) (.ref c) ((Tr.pr l r).size : Nat))) ∧ Th C H b l ∧ Th C H c r := by
  cases h with
  | pr h hl hr => exact ⟨_, _, _, h, hl, hr⟩
theorem pr_tru (l r : Tr) : true = ((((Tr.pr l r).size : Nat) : Int) != 0) := by
  have : (((Tr.pr l r).size : Nat) : Int) ≠ 0 := by simp only [Tr.size]; omega
  exact (bne_iff_ne.mpr this).symm
/-! ### stacks: the top comes first -/
theorem last_rev {α : Type} (v : α) (r : List α) : (v :: r).reverse[(v :: r).reverse.length - 1]? = some v := by
  rw [List.reverse_cons, List.length_append, List.length_reverse]
  show (r.reverse ++ [v])[r.length + 1 - 1]? = some v
  rw [Nat.add_sub_cancel, List.getElem?_append_right (by rw [List.length_reverse]; exact Nat.le_refl _), List.length_reverse, Nat.sub_self]
  rfl
theorem drop_rev {α : Type} (v : α) (r : List α) : (v :: r).reverse.dropLast = r.reverse := by
  rw [List.reverse_cons, List.dropLast_concat]
theorem push_rev {α : Type} (v : α) (r : List α) : r.reverse ++ [v] = (v :: r).reverse := by
  rw [List.reverse_cons]
/-! ### two stacks of things -/
/-- a pair of things, in a tuple -/
def PrAt (C : Addr) (H : Hp) (v : V) (p : Tr × Tr) : Prop := ∃ q a b, v = .ref q ∧ H q = some (.tup [.ref a, .ref b]) ∧ Th C H a p.1 ∧ Th C H b p.2
theorem PrAt.kt {C : Addr} {H H' : Hp} (k : KT H H') {v : V} {p : Tr × Tr} (h : PrAt C H v p) : PrAt C H' v p := by
  obtain ⟨q, a, b, e, hq, h1, h2⟩ := h
  exact ⟨q, a, b, e, k _ _ hq (fun _ e => nomatch e), h1.kt k, h2.kt k⟩
theorem prs_kt {C : Addr} {H H' : Hp} (k : KT H H') : ∀ {rs : List V} {ps : List (Tr × Tr)}, Paired (PrAt C H) rs ps → Paired (PrAt C H') rs ps
  | _, _, .nil => .nil
  | _, _, .cons h t => .cons (h.kt k) (prs_kt k t)
def pm (ps : List (Tr × Tr)) : Nat := (ps.map fun p => 2 * p.1.size + 1).sum
theorem pm_cons (p : Tr × Tr) (ps : List (Tr × Tr)) : pm (p :: ps) = 2 * p.1.size + 1 + pm ps := by simp [pm]
theorem pm_len : ∀ ps : List (Tr × Tr), ps.length ≤ pm ps
  | [] => Nat.zero_le _
  | p :: ps => by
    have := pm_len ps
    rw [pm_cons, List.length_cons]
    omega
/-- a thing that waits, or a bracket to shut -/
def WtAt (C : Addr) (H : Hp) (v : V) (o : Option Tr) : Prop := (v = .non ∧ o = none) ∨ ∃ a t, v = .ref a ∧ o = some t ∧ Th C H a t
theorem WtAt.kt {C : Addr} {H H' : Hp} (k : KT H H') {v : V} {o : Option Tr} (h : WtAt C H v o) : WtAt C H' v o := by
  rcases h with h | ⟨a, t, e1, e2, h⟩
  · exact .inl h
  · exact .inr ⟨a, t, e1, e2, h.kt k⟩
theorem wts_kt {C : Addr} {H H' : Hp} (k : KT H H') : ∀ {rs : List V} {ps : List (Option Tr)}, Paired (WtAt C H) rs ps → Paired (WtAt C H') rs ps
  | _, _, .nil => .nil
  | _, _, .cons h t => .cons (h.kt k) (wts_kt k t)
def wout : Option Tr → List Nat
  | none => [41]
  | some t => t.codes
def wouts (ps : List (Option Tr)) : List Nat := (ps.map wout).flatten
theorem wouts_cons (p : Option Tr) (ps : List (Option Tr)) : wouts (p :: ps) = wout p ++ wouts ps := by simp [wouts]
def wm1 : Option Tr → Nat
  | none => 1
  | some t => 3 * t.size + 1
def wm (ps : List (Option Tr)) : Nat := (ps.map wm1).sum
theorem wm_cons (p : Option Tr) (ps : List (Option Tr)) : wm (p :: ps) = wm1 p + wm ps := by simp [wm]
theorem wm_len : ∀ ps : List (Option Tr), ps.length ≤ wm ps
  | [] => Nat.zero_le _
  | p :: ps => by
    have := wm_len ps
    rw [wm_cons, List.length_cons]
    cases p with
    | none => simp only [wm1]; omega
    | some t => simp only [wm1]; omega
theorem line4 : 100000 < sizeLine := by rw [sizeLine_eq]; decide
end Js

set_option Elab.async false
set_option linter.all false
set_option maxRecDepth 100000
set_option maxHeartbeats 2000000
namespace Js
open PySem L2
def top (i : Nat) : Stmt := PySem.Challenge.pw_judgeslip_k16_codes.main.body.getD i (.Pass ⟨0, 0, 0, 0⟩)
abbrev sInit : Stmt := inClass (top 11) 0
abbrev sHead : Stmt := inClass (top 11) 1
abbrev sTail : Stmt := inClass (top 11) 2
abbrev sLen : Stmt := inClass (top 11) 3
abbrev sEq : Stmt := inClass (top 11) 4
abbrev sStr : Stmt := inClass (top 11) 5
abbrev sRepr : Stmt := inClass (top 11) 6
abbrev sPairs : Stmt := top 12
abbrev sAlike : Stmt := top 13
abbrev sSigns : Stmt := top 14
/-- what the text says of Thing, and which built-ins are as they were -/
structure Txt (K : PySem.W.Frag) (mg : Str → Option Value) (C : Addr) : Prop where
  cl : Cls K C
  nF : NoAttr K C "first"
  nS : NoAttr K C "second"
  nZ : NoAttr K C "size"
  mgC : mg "Thing" = some (.ref C)
  mgM : ∃ t, mg "MOST_PAIRS" = some (.int 4000 t)
  len : mg "len" = none
  range : mg "range" = none
  isi : mg "isinstance" = none
  ca : PySem.W.findIn K (.ref C) "__class__" = some (some (.builtin "object.__class__"))
  cn : PySem.W.specialIn K (.builtin "object.__class__") "__get__" = some (some (.builtin "getset_descriptor.__get__"))
  ct : PySem.W.takesIn K (.builtin "object.__class__") = some true
  cm : PySem.W.mroIn K C (.type "object") = some true
  ne : PySem.W.findIn K (.ref C) "__ne__" = some (some (.builtin "object.__ne__"))
/-- a def of the top: where it stands -/
structure At (K : PySem.W.Frag) (mg : Str → Option Value) (x : Str) (st : Stmt) (ps : List Str) (f : Addr) (fd : FuncData) : Prop where
  F : Fun K x x st f fd
  mgf : mg x = some (.ref f)
  b : Binds K fd ps []
/-! ### promises -/
def PairsOf (C : Addr) (H : Hp) (x y : V) (n : Nat) : Prop := (x = .non ∧ y = .non ∧ n = 0) ∨ ∃ a b t u, x = .ref a ∧ y = .ref b ∧ Th C H a t ∧ Th C H b u ∧ n = 1 + t.size + u.size
def spPairs (C : Addr) : Sp := fun vs H Q _ => ∃ x y n, vs = [x, y] ∧ PairsOf C H x y n ∧ Q (.int (n : Nat)) H
def spInit (C : Addr) : Sp := fun vs H Q _ => ∃ (p dx : Addr) (x y : V) (n : Nat), vs = [.ref p, x, y] ∧ H p = some (.ins C dx []) ∧ PairsOf C H x y n ∧ n ≤ 4000 ∧ Q .non (upd H p (.ins C dx (tf x y (n : Nat))))
def spHead (C : Addr) : Sp := fun vs H Q _ => ∃ a t, vs = [.ref a] ∧ Th C H a t ∧ ∀ b, Th C H b t.head → Q (.ref b) H
def spTail (C : Addr) : Sp := fun vs H Q _ => ∃ a t, vs = [.ref a] ∧ Th C H a t ∧ ∀ b, Th C H b t.tail → Q (.ref b) H
def spLen (C : Addr) : Sp := fun vs H Q _ => ∃ a t, vs = [.ref a] ∧ Th C H a t ∧ t.size ≤ 4000 ∧ Q (.int (t.size : Nat)) H
def spEqT (C : Addr) : Sp := fun vs H Q _ => ∃ a b t u, vs = [.ref a, .ref b] ∧ Th C H a t ∧ Th C H b u ∧ t.size ≤ 4000 ∧ ∀ H', Same H H' → Q (.bl (decide (t = u))) H'
def sgn (c : Nat) : V := .str ⟨#[c]⟩
def spSigns (C : Addr) : Sp := fun vs H Q _ => ∃ a t, vs = [.ref a] ∧ Th C H a t ∧ t.size ≤ 4000 ∧ ∀ p H', Same H H' → H p = none → H' p = some (.lst (t.codes.map sgn)) → Q (.ref p) H'
def spStr (C : Addr) : Sp := fun vs H Q _ => ∃ a t, vs = [.ref a] ∧ Th C H a t ∧ t.size ≤ 4000 ∧ ∀ H', Same H H' → Q (.str t.text) H'
theorem mk_pr {C a b : Addr} {H : Hp} {t u : Tr} {Q : VK} {E : XK} (ha : Th C H a t) (hb : Th C H b u) (hz : 1 + t.size + u.size ≤ 4000) (k : ∀ x H', Same H H' → H x = none → Th C H' x (.pr t u) → Q (.ref x) H') :
    ∀ x dx, H x = none → H dx = none → dx ≠ x → spInit C (.ref x :: ([.ref a, .ref b] ++ [])) (upd (upd H dx (.own x)) x (.ins C dx [])) (fun v H3 => v = .non ∧ Q (.ref x) H3) E := by
  intro x dx nx ndx ne
  have s0 : Same H (upd (upd H dx (.own x)) x (.ins C dx [])) := fun b o e => by
    rw [upd_ne (ne_of_none e nx), upd_ne (ne_of_none e ndx)]
    exact e
  refine ⟨x, dx, _, _, 1 + t.size + u.size, rfl, upd_same, .inr ⟨a, b, t, u, rfl, rfl, ha.same s0, hb.same s0, rfl⟩, hz, rfl, ?_⟩
  rw [upd_upd]
  have s1 : Same H (upd (upd H dx (.own x)) x (.ins C dx (tf (.ref a) (.ref b) ((1 + t.size + u.size : Nat) : Int)))) := fun b o e => by
    rw [upd_ne (ne_of_none e nx), upd_ne (ne_of_none e ndx)]
    exact e
  exact k x _ s1 nx (.pr upd_same (ha.same s1) (hb.same s1))
theorem mk_nil {C : Addr} {H : Hp} {Q : VK} {E : XK} (k : ∀ x H', Same H H' → H x = none → Th C H' x .nil → Q (.ref x) H') :
    ∀ x dx, H x = none → H dx = none → dx ≠ x → spInit C (.ref x :: ([] ++ [.non, .non])) (upd (upd H dx (.own x)) x (.ins C dx [])) (fun v H3 => v = .non ∧ Q (.ref x) H3) E := by
  intro x dx nx ndx ne
  refine ⟨x, dx, _, _, 0, rfl, upd_same, .inl ⟨rfl, rfl, rfl⟩, by decide, rfl, ?_⟩
  rw [upd_upd]
  have s1 : Same H (upd (upd H dx (.own x)) x (.ins C dx (tf .non .non ((0 : Nat) : Int)))) := fun b o e => by
    rw [upd_ne (ne_of_none e nx), upd_ne (ne_of_none e ndx)]
    exact e
  exact k x _ s1 nx (.nil upd_same)
section
variable {P : Program} {w : World} {K : PySem.W.Frag} {mg : Str → Option Value} {base : Heap} {C : Addr}
theorem scP : FnScope ["first", "second"] ["first", "second"] (defScope sPairs) := ⟨rfl, rfl, rfl, by decide +kernel, rfl, by decide +kernel, by decide +kernel⟩
theorem ok_pairs {f : Addr} {fd : FuncData} (F : Fun K "pairs_in" "pairs_in" sPairs f fd) (T : Txt K mg C) : FnOk P w K mg base CX0 1 f fd ["first", "second"] (spPairs C) := by
  refine F.ok scP (fun vs H Q E h => ?_) (fun cdv A outer s H vs Q E hr h => ?_)
  · obtain ⟨x, y, n, rfl, _⟩ := h
    rfl
  · obtain ⟨x, y, n, rfl, hp, k⟩ := h
    refine ⟨_, pss_cons (ps_if (PW.pt (pw_and (pt_cmp (pc_isN (pv 0))) (pw_and1 (pt_cmp (pc_isN (pv 1)))))) (pss_one (ps_ret pe_int)) pss_nil)
      (pss_one (ps_ret (pe_op op_add (pe_op op_add pe_int (pe_fld (pv 0) rfl)) (pe_fld (pv 1) rfl)))), ?_⟩
    rcases hp with ⟨rfl, rfl, rfl⟩ | ⟨a, b, t, u, rfl, rfl, ha, hb, rfl⟩
    · refine ⟨_, rfl, _, rfl, ?_⟩
      refine iteT ⟨_, rfl, _, rfl, ?_⟩
      exact iteT k
    · refine ⟨_, rfl, _, rfl, ?_⟩
      refine iteF ?_
      refine iteF ?_
      obtain ⟨dx, f1, s1, h1⟩ := ha.obj
      obtain ⟨dy, f2, s2, h2⟩ := hb.obj
      refine ⟨_, rfl, _, _, _, _, _, rfl, h1, T.cl, T.nZ, tf_size _ _ _, _, _, rfl, rfl, _, rfl, _, _, _, _, _, rfl, h2, T.cl, T.nZ, tf_size _ _ _, _, _, rfl, rfl, ?_⟩
      have e : ((1 : Int) + (t.size : Nat) + (u.size : Nat)) = ((1 + t.size + u.size : Nat) : Int) := by omega
      show Q (V.int ((1 : Int) + (t.size : Nat) + (u.size : Nat))) H
      rw [e]
      exact k
theorem scI : FnScope ["self", "first", "second", "size"] ["self", "first", "second"] (defScope sInit) := ⟨rfl, rfl, rfl, by decide +kernel, rfl, by decide +kernel, by decide +kernel⟩
theorem ok_init {f fP : Addr} {fd fdP : FuncData} (F : FunD K "__init__" "Thing.__init__" (defArgs sInit) (defBody sInit) (defScope sInit) [.non, .non] [] f fd) (T : Txt K mg C) (AP : At K mg "pairs_in" sPairs ["first", "second"] fP fdP) : FnOk P w K mg base CX0 2 f fd ["self", "first", "second"] (spInit C) := by
  have GP : FnOk P w K mg base CX0 1 fP fdP ["first", "second"] (spPairs C) := ok_pairs AP.F T
  obtain ⟨tm, mgM⟩ := T.mgM
  refine F.ok scI (fun vs H Q E h => ?_) (fun cdv A outer s H vs Q E hr h => ?_)
  · obtain ⟨p, dx, x, y, n, rfl, _⟩ := h
    rfl
  · obtain ⟨p, dx, x, y, n, rfl, hp, hxy, hn, k⟩ := h
    refine ⟨_, PSs.nox (pss_cons (ps_set (i := 3) scI.nd rfl (Or.inl rfl) (pe_call GP hr rfl AP.mgf AP.F.kp AP.b .nil pass0 (pa_cons (pv 1) (pa_cons (pv 2) pa_nil))))
      (pss_cons (ps_if (pt_cmpR op_gt (pv 3) (pe_glob (v := .int 4000) rfl mgM ⟨_, rfl⟩) (nomark _)) (pss_one ps_never) pss_nil)
      (pss_cons (ps_fld (pv 0) (pv 1) rfl) (pss_cons (ps_fld (pv 0) (pv 2) rfl) (pss_one (ps_fld (pv 0) (pv 3) rfl)))))), ?_⟩
    refine ⟨_, rfl, _, rfl, x, y, n, rfl, hxy, ?_⟩
    refine ⟨_, rfl, _, _, rfl, rfl, _, rfl, ?_⟩
    have ed : decide ((4000 : Int) < (n : Nat)) = false := decide_eq_false (by omega)
    rw [ed]
    refine iteF ?_
    refine ⟨_, rfl, _, rfl, p, C, dx, [], rfl, hp, T.cl, T.nF, (by show 0 < 1000; decide), ?_⟩
    refine ⟨_, rfl, _, rfl, p, C, dx, _, rfl, upd_same, T.cl, T.nS, Nat.lt_of_le_of_lt (length_putF _ _ _) (by show 0 + 1 < 1000; decide), ?_⟩
    refine ⟨_, rfl, _, rfl, p, C, dx, _, rfl, upd_same, T.cl, T.nZ, ?_, ?_⟩
    · have h1 := length_putF "first" x []
      have h2 := length_putF "second" y (putF "first" x [])
      simp only [List.length_nil] at h1
      omega
    · show Q .non (upd (upd (upd H p _) p _) p (.ins C dx (tf x y (n : Nat))))
      rw [upd_upd, upd_upd]
      exact k
theorem scLn : FnScope ["self"] ["self"] (defScope sLen) := ⟨rfl, rfl, rfl, by decide +kernel, rfl, by decide +kernel, by decide +kernel⟩
theorem ok_len {f : Addr} {fd : FuncData} (F : Fun K "__len__" "Thing.__len__" sLen f fd) (T : Txt K mg C) : FnOk P w K mg base CX0 1 f fd ["self"] (spLen C) := by
  refine F.ok scLn (fun vs H Q E h => ?_) (fun cdv A outer s H vs Q E hr h => ?_)
  · obtain ⟨a, t, rfl, _⟩ := h
    rfl
  · obtain ⟨a, t, rfl, ha, hz, k⟩ := h
    refine ⟨_, pss_one (ps_ret (pe_lenRg rfl T.len (prg_1 rfl T.range (pe_fld (pv 0) rfl)))), ?_⟩
    obtain ⟨dx, f1, s1, h⟩ := ha.obj
    refine ⟨_, rfl, _, _, _, _, _, rfl, h, T.cl, T.nZ, tf_size _ _ _, _, rfl, ?_, ?_⟩
    · omega
    · have e : (((((t.size : Nat) : Int) - 0).toNat : Nat) : Int) = (t.size : Nat) := by omega
      show Q (.int (((((t.size : Nat) : Int) - 0).toNat : Nat) : Int)) H
      rw [e]
      exact k
end
end Js

set_option Elab.async false
set_option linter.all false
set_option maxRecDepth 100000
set_option maxHeartbeats 2000000
/-! what the head's one run tells, as the facts of an end -/
namespace Js
open PySem PySem.Spec PyProof.Rows L2
/-- the i-th item of the tuple at a, if it is an object -/
def itAt (K : PySem.W.Frag) (a : Addr) (i : Nat) : Addr := match K.lookup a with
  | some ⟨_, _, .seq its _, _⟩ => (match its.toList[i]? with
    | some (.ref b) => b
    | _ => 0)
  | _ => 0
def intB (K : PySem.W.Frag) (d : Addr) (x : Str) (n : Int) : Bool := match PySem.W.nsIn K d x with
  | some (some (.int j _)) => decide (j = n)
  | _ => false
theorem int_raw {K : PySem.W.Frag} {d : Addr} {x : Str} {n : Int} (h : intB K d x n = true) : ∃ t, PySem.W.nsIn K d x = some (some (.int n t)) := by
  unfold intB at h
  split at h
  · rename_i j t e
    rw [← of_decide_eq_true h]
    exact ⟨t, e⟩
  · cases h
def strB (K : PySem.W.Frag) (d : Addr) (x z : Str) : Bool := match PySem.W.nsIn K d x with
  | some (some (.str y _)) => decide (y = z)
  | _ => false
theorem str_raw {K : PySem.W.Frag} {d : Addr} {x z : Str} (h : strB K d x z = true) : ∃ t, PySem.W.nsIn K d x = some (some (.str z t)) := by
  unfold strB at h
  split at h
  · rename_i j t e
    rw [← of_decide_eq_true h]
    exact ⟨t, e⟩
  · cases h
/-- a tuple of the top -/
def tupK (K : PySem.W.Frag) (a : Addr) (vs : List V) : Bool := match K.lookup a with
  | some ⟨.type c, _, .seq its _, _⟩ => decide (c = "tuple") && He.relAll vs its.toList
  | _ => false
theorem tup_raw {K : PySem.W.Frag} {a : Addr} {vs : List V} (h : tupK K a vs = true) : ∃ od its n sl, K.lookup a = some ⟨.type "tuple", od, .seq its n, sl⟩ ∧ Vals vs its.toList := by
  unfold tupK at h
  split at h
  · rename_i c od its n sl e
    obtain ⟨h1, h2⟩ := He.ba h
    have e1 : c = "tuple" := of_decide_eq_true h1
    rw [e1] at e
    exact ⟨od, its, n, sl, e, He.relAll_ok h2⟩
  · cases h
def excB (K : PySem.W.Frag) (C : Addr) (bm : List Value) (newId : String) : Bool := match K.lookup C with
  | some ⟨.type "type", _, .cls cd, sl⟩ => (match cd.mro, sl.toList with
    | .ref C' :: bm', [_, _, _, _, some (.builtin n), _] => C' == C && n == newId && !cd.hasDel && decide (bm' = bm) && cd.hasDict
    | _, _ => false)
  | _ => false
theorem exc_raw {K : PySem.W.Frag} {C : Addr} {bm : List Value} {newId : String} (q : excB K C bm newId = true) : ∃ nm qn N bs sn sub ab col dd k0 k1 k2 k3 k5,
    K.lookup C = some (excClassObj nm qn C N bs bm true sn sub ab col dd k0 k1 k2 k3 k5 newId) := by
  unfold excB at q
  split at q
  · rename_i dd cd sl ho
    split at q
    · rename_i C' bm' k0 k1 k2 k3 n k5 hm hs
      simp only [Bool.and_eq_true, beq_iff_eq, Bool.not_eq_true', decide_eq_true_eq] at q
      obtain ⟨⟨⟨⟨rfl, rfl⟩, hdel⟩, rfl⟩, hd⟩ := q
      obtain ⟨nm, bs, mro, ns, qn, hdd, sn, sub, ab, col, del⟩ := cd
      dsimp only at hm hdel hd
      subst hm hdel hd
      have hsl : sl = #[k0, k1, k2, k3, some (.builtin n), k5] := by
        obtain ⟨l⟩ := sl
        simp only at hs
        rw [hs]
      subst hsl
      exact ⟨nm, qn, ns, bs, sn, sub, ab, col, dd, k0, k1, k2, k3, k5, ho⟩
    · cases q
  · cases q
section
variable {fa : List He.Fa} {fn : List He.DefD} {K : PySem.W.Frag}
theorem fn_one (c : He.SaysD fa fn K) (i : Nat) {d : He.DefD} (h : fn[i]? = some d) : He.fnW K d.at_ = d.val ∧ d.ok K = true := by
  have c2 := (He.ba (show ((fa.all fun f => f.ok K) && fn.all fun d => d.ok K) = true from congrArg (fun z : He.AlD => z.1) c)).2
  have e : fn.map (fun d => He.fnW K d.at_) = fn.map He.DefD.val := congrArg (fun z : He.AlD => z.2) c
  have e2 : (fn.map fun d => He.fnW K d.at_)[i]? = (fn.map He.DefD.val)[i]? := by rw [e]
  rw [List.getElem?_map, List.getElem?_map, h] at e2
  exact ⟨Option.some.inj e2, List.all_eq_true.mp c2 d (List.mem_of_getElem? h)⟩
theorem fn_any (c : He.SaysD fa fn K) (i : Nat) {p : Str × Option Str} {name qual : Str} {st : Stmt} {dl : List He.Dv} (h : fn[i]? = some ⟨p, name, qual, defArgs st, defBody st, defScope st, dl, []⟩) :
    ∃ oc od osl dV kV dc pm an cd ct, K.lookup (He.fAd K p) = some ⟨oc, od, .func (PySem.W.fnOf name qual (defArgs st) (defBody st) (defScope st) dV kV dc pm an cd ct), osl⟩ ∧ PySem.W.codeIn K cd qual = true ∧ He.dflB K dV (dl.map (He.Dv.v K)) = true := by
  obtain ⟨e, c1⟩ := fn_one c i h
  obtain ⟨kp, c2⟩ := He.ba c1
  unfold He.fnW at e
  dsimp only at e c2
  cases q : K.lookup (He.fAd K p) with
  | none =>
    rw [q] at c2
    cases c2
  | some o =>
    obtain ⟨oc, od, dt, osl⟩ := o
    rw [q] at c2 e
    cases dt with
    | func fd =>
      obtain ⟨n1, n2, n3, n4, n5, n6, n7, n8, n9, n10, n11, n12, n13, n14, n15⟩ := fd
      have e2 : (some (n1, n2, n3, n4, n5, n6, n7, n15) : He.FnW) = some (name, qual, defArgs st, .stmts (defBody st), defScope st, mainGlobals, [], builtinsNs) := e
      simp only [Option.some.injEq, Prod.mk.injEq] at e2
      obtain ⟨h1, h2, h3, h4, h5, h6, h7, h8⟩ := e2
      subst h1 h2 h3 h4 h5 h6 h7 h8
      have c3 : (PySem.W.codeIn K n13 n2 && (He.dflB K n8 (dl.map (He.Dv.v K)) && He.kwdB K n9 [])) = true := c2
      obtain ⟨k1, k2⟩ := He.ba c3
      obtain ⟨k3, k4⟩ := He.ba k2
      exact ⟨oc, od, osl, n8, n9, n10, n11, n12, n13, n14, rfl, k1, k3⟩
    | _ => cases c2
/-- a def without defaults -/
theorem fn_raw (c : He.SaysD fa fn K) (i : Nat) (p : Str × Option Str) (name qual : Str) (st : Stmt) (h : fn[i]? = some ⟨p, name, qual, defArgs st, defBody st, defScope st, [], []⟩) :
    ∃ oc od osl kV dc pm an cd ct, K.lookup (He.fAd K p) = some ⟨oc, od, .func (PySem.W.fnOf name qual (defArgs st) (defBody st) (defScope st) .none kV dc pm an cd ct), osl⟩ ∧ PySem.W.codeIn K cd qual = true := by
  obtain ⟨oc, od, osl, dV, kV, dc, pm, an, cd, ct, e, h1, h2⟩ := fn_any c i h
  cases dV with
  | none => exact ⟨oc, od, osl, kV, dc, pm, an, cd, ct, e, h1⟩
  | _ => cases h2
/-- a def with defaults -/
theorem fn_rawD (c : He.SaysD fa fn K) (i : Nat) (p : Str × Option Str) (name qual : Str) (st : Stmt) (v : He.Dv) (vs : List He.Dv) (h : fn[i]? = some ⟨p, name, qual, defArgs st, defBody st, defScope st, v :: vs, []⟩) :
    ∃ oc od osl T kV dc pm an cd ct ot odt its nt slt, K.lookup (He.fAd K p) = some ⟨oc, od, .func (PySem.W.fnOf name qual (defArgs st) (defBody st) (defScope st) (.ref T) kV dc pm an cd ct), osl⟩ ∧ PySem.W.codeIn K cd qual = true ∧
      K.lookup T = some ⟨ot, odt, .seq its nt, slt⟩ ∧ Vals ((v :: vs).map (He.Dv.v K)) its.toList := by
  obtain ⟨oc, od, osl, dV, kV, dc, pm, an, cd, ct, e, h1, h2⟩ := fn_any c i h
  cases dV with
  | ref T =>
    have h3 : (match K.lookup T with
      | some ⟨_, _, .seq its _, _⟩ => He.relAll ((v :: vs).map (He.Dv.v K)) its.toList
      | _ => false) = true := h2
    cases q : K.lookup T with
    | none =>
      rw [q] at h3
      cases h3
    | some o =>
      obtain ⟨ot, odt, dt, slt⟩ := o
      rw [q] at h3
      cases dt with
      | seq its n => exact ⟨oc, od, osl, T, kV, dc, pm, an, cd, ct, ot, odt, its, n, slt, e, h1, q, He.relAll_ok h3⟩
      | _ => cases h3
  | _ => cases h2
end
theorem tab_keys {fa : List He.Fa} {fn : List He.DefD} {ts : List He.Tab} {w : World} {K : PySem.W.Frag} (c : He.SaysT fa fn ts w K) (i : Nat) {t : He.Tab} (h : ts[i]? = some t) : ∃ es n, KDict K w (t.1 K) es n ∧ es.toList.map He.keyOf = He.keysIn w.params t.2 := by
  obtain ⟨es, n, d⟩ := c.tab i h
  refine ⟨es, n, d, ?_⟩
  have e : ts.map (fun t => He.dicW K (t.1 K)) = ts.map fun t => some (He.keysIn w.params t.2) := congrArg (fun z : He.AlT => z.2) c
  have e2 : (ts.map fun t => He.dicW K (t.1 K))[i]? = (ts.map fun t => some (He.keysIn w.params t.2))[i]? := by rw [e]
  rw [List.getElem?_map, List.getElem?_map, h] at e2
  have e3 : He.dicW K (t.1 K) = some (He.keysIn w.params t.2) := Option.some.inj e2
  unfold He.dicW at e3
  rw [d.at_] at e3
  dsimp only at e3
  split at e3
  · exact Option.some.inj e3
  · cases e3
/-! the hook: what stands at some addresses -/
section
variable (as : List Addr) (fn : List He.DefD) (ts : List He.Tab) (ex : PySem.W.Frag → Bool)
def hookC : PySem.W.Hook where
  α := He.AlT × Bool
  obs := fun s => (He.obsT [] fn ts (He.frG s.heap.get? as), ex (He.frG s.heap.get? as))
  val := fun w => (He.valT fn ts w, true)
  says := fun w h => ∃ K : PySem.W.Frag, K.In h ∧ He.SaysT [] fn ts w K ∧ ex K = true
  of := fun _ _ e => ⟨_, He.frG_in, congrArg (fun z : He.AlT × Bool => z.1) e, congrArg (fun z : He.AlT × Bool => z.2) e⟩
  keeps := fun _ _ _ ⟨K, hK, c⟩ k => ⟨K, PySem.W.Frag.In.keeps hK k, c⟩
def obC (s : PySem.W.SharedT) : He.AlT × Bool := (He.obsT [] fn ts (He.frG (HandSHeadRun.getT s) as), ex (He.frG (HandSHeadRun.getT s) as))
theorem obC_eq (s : PySem.W.SharedT) : obC as fn ts ex s = (hookC as fn ts ex).obs s.abs := by
  have e : HandSHeadRun.getT s = s.abs.heap.get? := funext (HandSHeadRun.getT_eq s)
  unfold obC
  rw [e]
  rfl
end
theorem run_join {r : PySem.W.OpenRow} {q : Program} {as : List Addr} {fn : List He.DefD} {ts : List He.Tab} {ex : PySem.W.Frag → Bool} {M : Nat} {loose : List Str} {w : World} (h0 : HandSHeadRun.RunEq r q PySem.W.Hook.none (fun _ => ()) M loose w)
    (h1 : ∀ os : OsState, (HandSHeadRun.endF (HandSHeadRun.stepQ (HandSHeadRun.denQ HandSHeadRun.tabQ) r.prog w) M r.prog w os).map (fun s => He.obsT [] fn ts (He.frG (HandSHeadRun.getT s) as)) = some (He.valT fn ts w))
    (h2 : ∀ os : OsState, (HandSHeadRun.endF (HandSHeadRun.stepQ (HandSHeadRun.denQ HandSHeadRun.tabQ) r.prog w) M r.prog w os).map (fun s => ex (He.frG (HandSHeadRun.getT s) as)) = some true) :
    HandSHeadRun.RunEq r q (hookC as fn ts ex) (obC as fn ts ex) M loose w := by
  intro os
  have a0 := h0 os
  have a1 := h1 os
  have a2 := h2 os
  revert a0 a1 a2
  generalize HandSHeadRun.endF (HandSHeadRun.stepQ (HandSHeadRun.denQ HandSHeadRun.tabQ) r.prog w) M r.prog w os = o
  intro a0 a1 a2
  cases o with
  | none => cases a1
  | some s =>
    have b0 := Option.some.inj a0
    have b1 : He.obsT [] fn ts (He.frG (HandSHeadRun.getT s) as) = He.valT fn ts w := Option.some.inj a1
    have b2 : ex (He.frG (HandSHeadRun.getT s) as) = true := Option.some.inj a2
    obtain ⟨c1, c2⟩ := Prod.mk.inj b0
    obtain ⟨c2, _⟩ := Prod.mk.inj c2
    show some (_, _, (He.obsT [] fn ts (He.frG (HandSHeadRun.getT s) as), ex (He.frG (HandSHeadRun.getT s) as))) = some (true, _, (He.valT fn ts w, true))
    rw [b1, b2, c1, c2]
theorem arr_eq {its : Array Value} {l : List Value} (h : its.toList = l) : its = l.toArray := by
  obtain ⟨l'⟩ := its
  rw [← h]
theorem ex_at {K : PySem.W.Frag} {l : List (PySem.W.Frag → Bool)} (h : (l.all fun f => f K) = true) (i : Nat) {f : PySem.W.Frag → Bool} (e : l[i]? = some f) : f K = true := List.all_eq_true.mp h f (List.mem_of_getElem? e)
end Js

set_option Elab.async false
set_option linter.all false
set_option maxRecDepth 100000
set_option maxHeartbeats 0
namespace Js
open PySem PySem.Spec PyProof.Rows L2
def hnm0 : List Str := ["_wall", "NoText", "NoProgram", "NoStep", "TooGreat", "NoRoom", "NoName", "NoSaying", "MOST_PAIRS", "Thing", "pairs_in", "alike", "signs", "number", "counted", "row", "parts", "MANY_NAMES", "MOST_DEEDS", "MOST_FLOORS", "LETTERS", "FORMS", "Program", "is_name", "fits", "has_form", "names_in", "rows_in", "look_through", "lay_out"]
def hnm1 : List Str := ["row_words", "deed_words", "code_of", "row_code", "deed_code", "part_code", "program_of", "is_code", "row_told", "deed_told", "kind_told", "part_told", "_law_bag", "_law_take", "_law_thing", "_law_name", "_law_deed", "_law_deeds", "_law_top", "_law_number_text", "_law_row_text", "_law_code", "_law_good"]
def hnames : List Str := hnm0 ++ hnm1
def hfn0 : List He.DefD := [
  ⟨("Thing", some "__init__"), "__init__", "Thing.__init__", defArgs (inClass (top 11) 0), defBody (inClass (top 11) 0), defScope (inClass (top 11) 0), [.non, .non], []⟩,
  ⟨("Thing", some "__eq__"), "__eq__", "Thing.__eq__", defArgs (inClass (top 11) 4), defBody (inClass (top 11) 4), defScope (inClass (top 11) 4), [], []⟩,
  ⟨("Thing", some "__len__"), "__len__", "Thing.__len__", defArgs (inClass (top 11) 3), defBody (inClass (top 11) 3), defScope (inClass (top 11) 3), [], []⟩,
  ⟨("Thing", some "__str__"), "__str__", "Thing.__str__", defArgs (inClass (top 11) 5), defBody (inClass (top 11) 5), defScope (inClass (top 11) 5), [], []⟩,
  ⟨("pairs_in", none), "pairs_in", "pairs_in", defArgs (top 12), defBody (top 12), defScope (top 12), [], []⟩,
  ⟨("alike", none), "alike", "alike", defArgs (top 13), defBody (top 13), defScope (top 13), [], []⟩,
  ⟨("signs", none), "signs", "signs", defArgs (top 14), defBody (top 14), defScope (top 14), [], []⟩,
  ⟨("is_name", none), "is_name", "is_name", defArgs (top 26), defBody (top 26), defScope (top 26), [], []⟩,
  ⟨("fits", none), "fits", "fits", defArgs (top 27), defBody (top 27), defScope (top 27), [], []⟩,
  ⟨("has_form", none), "has_form", "has_form", defArgs (top 28), defBody (top 28), defScope (top 28), [], []⟩,
  ⟨("rows_in", none), "rows_in", "rows_in", defArgs (top 30), defBody (top 30), defScope (top 30), [], []⟩,
  ⟨("look_through", none), "look_through", "look_through", defArgs (top 31), defBody (top 31), defScope (top 31), [], []⟩,
  ⟨("lay_out", none), "lay_out", "lay_out", defArgs (top 32), defBody (top 32), defScope (top 32), [], []⟩,
  ⟨("number", none), "number", "number", defArgs (top 15), defBody (top 15), defScope (top 15), [], []⟩,
  ⟨("row", none), "row", "row", defArgs (top 17), defBody (top 17), defScope (top 17), [], []⟩,
  ⟨("code_of", none), "code_of", "code_of", defArgs (top 36), defBody (top 36), defScope (top 36), [], []⟩,
  ⟨("row_code", none), "row_code", "row_code", defArgs (top 37), defBody (top 37), defScope (top 37), [], []⟩,
  ⟨("deed_code", none), "deed_code", "deed_code", defArgs (top 38), defBody (top 38), defScope (top 38), [], []⟩,
  ⟨("part_code", none), "part_code", "part_code", defArgs (top 39), defBody (top 39), defScope (top 39), [], []⟩,
  ⟨("counted", none), "counted", "counted", defArgs (top 16), defBody (top 16), defScope (top 16), [], []⟩]
def hfn1 : List He.DefD := [
  ⟨("parts", none), "parts", "parts", defArgs (top 18), defBody (top 18), defScope (top 18), [], []⟩,
  ⟨("program_of", none), "program_of", "program_of", defArgs (top 40), defBody (top 40), defScope (top 40), [], []⟩,
  ⟨("row_told", none), "row_told", "row_told", defArgs (top 42), defBody (top 42), defScope (top 42), [], []⟩,
  ⟨("deed_told", none), "deed_told", "deed_told", defArgs (top 43), defBody (top 43), defScope (top 43), [], []⟩,
  ⟨("kind_told", none), "kind_told", "kind_told", defArgs (top 44), defBody (top 44), defScope (top 44), [], []⟩,
  ⟨("part_told", none), "part_told", "part_told", defArgs (top 45), defBody (top 45), defScope (top 45), [], []⟩,
  ⟨("is_code", none), "is_code", "is_code", defArgs (top 41), defBody (top 41), defScope (top 41), [], []⟩,
  ⟨("_law_bag", none), "_law_bag", "_law_bag", defArgs (top 47), defBody (top 47), defScope (top 47), [], []⟩,
  ⟨("_law_take", none), "_law_take", "_law_take", defArgs (top 48), defBody (top 48), defScope (top 48), [], []⟩,
  ⟨("_law_thing", none), "_law_thing", "_law_thing", defArgs (top 49), defBody (top 49), defScope (top 49), [], []⟩,
  ⟨("_law_name", none), "_law_name", "_law_name", defArgs (top 50), defBody (top 50), defScope (top 50), [], []⟩,
  ⟨("_law_deed", none), "_law_deed", "_law_deed", defArgs (top 51), defBody (top 51), defScope (top 51), [], []⟩,
  ⟨("_law_deeds", none), "_law_deeds", "_law_deeds", defArgs (top 52), defBody (top 52), defScope (top 52), [], []⟩,
  ⟨("_law_top", none), "_law_top", "_law_top", defArgs (top 53), defBody (top 53), defScope (top 53), [], []⟩,
  ⟨("_law_number_text", none), "_law_number_text", "_law_number_text", defArgs (top 54), defBody (top 54), defScope (top 54), [], []⟩,
  ⟨("_law_row_text", none), "_law_row_text", "_law_row_text", defArgs (top 55), defBody (top 55), defScope (top 55), [], []⟩,
  ⟨("_law_code", none), "_law_code", "_law_code", defArgs (top 56), defBody (top 56), defScope (top 56), [], []⟩,
  ⟨("_law_good", none), "_law_good", "_law_good", defArgs (top 57), defBody (top 57), defScope (top 57), [], []⟩,
  ⟨("law", none), "law", "law", defArgs (top 58), defBody (top 58), defScope (top 58), [], []⟩,
  ⟨("Program", some "__init__"), "__init__", "Program.__init__", defArgs (inClass (top 25) 0), defBody (inClass (top 25) 0), defScope (inClass (top 25) 0), [], []⟩]
def hfn2 : List He.DefD := [
  ⟨("Program", some "__len__"), "__len__", "Program.__len__", defArgs (inClass (top 25) 2), defBody (inClass (top 25) 2), defScope (inClass (top 25) 2), [], []⟩,
  ⟨("Program", some "__eq__"), "__eq__", "Program.__eq__", defArgs (inClass (top 25) 3), defBody (inClass (top 25) 3), defScope (inClass (top 25) 3), [], []⟩,
  ⟨("TooGreat", some "__init__"), "__init__", "TooGreat.__init__", defArgs (inClass (top 5) 0), defBody (inClass (top 5) 0), defScope (inClass (top 5) 0), [], []⟩]
def hfn : List He.DefD := hfn0 ++ hfn1 ++ hfn2
def hts : List He.Tab := [(fun K => He.ga K "FORMS", ["told", "first", "second", "pair", "same", "while", "if"])]
def hex0 : List (PySem.W.Frag → Bool) := [
  fun K => decide (PySem.W.nsIn K mainGlobals "Thing" = some (some (.ref (He.ga K "Thing")))),
  fun K => decide (PySem.W.plainGet K (He.ga K "Thing") Str.empty = true),
  fun K => decide (PySem.W.hasDictIn K (He.ga K "Thing") = true),
  fun K => decide (PySem.W.plainOver K (He.ga K "Thing") = true),
  fun K => decide (PySem.W.findIn K (.ref (He.ga K "Thing")) "__setattr__" = some (some (.builtin "object.__setattr__"))),
  fun K => decide (PySem.W.makesIn K (He.ga K "Thing") = true),
  fun K => decide (PySem.W.keepIn K (.ref (He.ga K "Thing")) = true),
  fun K => decide (PySem.W.findIn K (.ref (He.ga K "Thing")) "first" = some none),
  fun K => decide (PySem.W.findIn K (.ref (He.ga K "Thing")) "second" = some none),
  fun K => decide (PySem.W.findIn K (.ref (He.ga K "Thing")) "size" = some none),
  fun K => decide (PySem.W.findIn K (.ref (He.ga K "Thing")) "__class__" = some (some (.builtin "object.__class__"))),
  fun K => decide (PySem.W.specialIn K (.builtin "object.__class__") "__get__" = some (some (.builtin "getset_descriptor.__get__"))),
  fun K => decide (PySem.W.takesIn K (.builtin "object.__class__") = some true),
  fun K => decide (PySem.W.mroIn K (He.ga K "Thing") (.type "object") = some true),
  fun K => decide (PySem.W.findIn K (.ref (He.ga K "Thing")) "__ne__" = some (some (.builtin "object.__ne__"))),
  fun K => intB K mainGlobals "MOST_PAIRS" 4000,
  fun K => decide (PySem.W.findIn K (.ref (He.ga K "Thing")) "__init__" = some (some (.ref (He.ma K (He.ga K "Thing") "__init__")))),
  fun K => decide (PySem.W.isFn K (.ref (He.ma K (He.ga K "Thing") "__init__")) = true),
  fun K => decide (PySem.W.keepIn K (.ref (He.ma K (He.ga K "Thing") "__init__")) = true),
  fun K => decide (PySem.W.findIn K (.ref (He.ga K "Thing")) "__eq__" = some (some (.ref (He.ma K (He.ga K "Thing") "__eq__"))))]
def hex1 : List (PySem.W.Frag → Bool) := [
  fun K => decide (PySem.W.isFn K (.ref (He.ma K (He.ga K "Thing") "__eq__")) = true),
  fun K => decide (PySem.W.keepIn K (.ref (He.ma K (He.ga K "Thing") "__eq__")) = true),
  fun K => decide (PySem.W.findIn K (.ref (He.ga K "Thing")) "__len__" = some (some (.ref (He.ma K (He.ga K "Thing") "__len__")))),
  fun K => decide (PySem.W.isFn K (.ref (He.ma K (He.ga K "Thing") "__len__")) = true),
  fun K => decide (PySem.W.keepIn K (.ref (He.ma K (He.ga K "Thing") "__len__")) = true),
  fun K => decide (PySem.W.findIn K (.ref (He.ga K "Thing")) "__str__" = some (some (.ref (He.ma K (He.ga K "Thing") "__str__")))),
  fun K => decide (PySem.W.isFn K (.ref (He.ma K (He.ga K "Thing") "__str__")) = true),
  fun K => decide (PySem.W.keepIn K (.ref (He.ma K (He.ga K "Thing") "__str__")) = true),
  fun K => decide (PySem.W.nsIn K mainGlobals "pairs_in" = some (some (.ref (He.ga K "pairs_in")))),
  fun K => decide (PySem.W.keepIn K (.ref (He.ga K "pairs_in")) = true),
  fun K => decide (PySem.W.nsIn K mainGlobals "alike" = some (some (.ref (He.ga K "alike")))),
  fun K => decide (PySem.W.keepIn K (.ref (He.ga K "alike")) = true),
  fun K => decide (PySem.W.nsIn K mainGlobals "signs" = some (some (.ref (He.ga K "signs")))),
  fun K => decide (PySem.W.keepIn K (.ref (He.ga K "signs")) = true),
  fun K => decide (PySem.W.nsIn K mainGlobals "is_name" = some (some (.ref (He.ga K "is_name")))),
  fun K => decide (PySem.W.keepIn K (.ref (He.ga K "is_name")) = true),
  fun K => decide (PySem.W.nsIn K mainGlobals "fits" = some (some (.ref (He.ga K "fits")))),
  fun K => decide (PySem.W.keepIn K (.ref (He.ga K "fits")) = true),
  fun K => decide (PySem.W.nsIn K mainGlobals "has_form" = some (some (.ref (He.ga K "has_form")))),
  fun K => decide (PySem.W.keepIn K (.ref (He.ga K "has_form")) = true)]
def hex2 : List (PySem.W.Frag → Bool) := [
  fun K => decide (PySem.W.nsIn K mainGlobals "rows_in" = some (some (.ref (He.ga K "rows_in")))),
  fun K => decide (PySem.W.keepIn K (.ref (He.ga K "rows_in")) = true),
  fun K => decide (PySem.W.nsIn K mainGlobals "look_through" = some (some (.ref (He.ga K "look_through")))),
  fun K => decide (PySem.W.keepIn K (.ref (He.ga K "look_through")) = true),
  fun K => decide (PySem.W.nsIn K mainGlobals "lay_out" = some (some (.ref (He.ga K "lay_out")))),
  fun K => decide (PySem.W.keepIn K (.ref (He.ga K "lay_out")) = true),
  fun K => decide (PySem.W.nsIn K mainGlobals "number" = some (some (.ref (He.ga K "number")))),
  fun K => decide (PySem.W.keepIn K (.ref (He.ga K "number")) = true),
  fun K => decide (PySem.W.nsIn K mainGlobals "row" = some (some (.ref (He.ga K "row")))),
  fun K => decide (PySem.W.keepIn K (.ref (He.ga K "row")) = true),
  fun K => decide (PySem.W.nsIn K mainGlobals "code_of" = some (some (.ref (He.ga K "code_of")))),
  fun K => decide (PySem.W.keepIn K (.ref (He.ga K "code_of")) = true),
  fun K => decide (PySem.W.nsIn K mainGlobals "row_code" = some (some (.ref (He.ga K "row_code")))),
  fun K => decide (PySem.W.keepIn K (.ref (He.ga K "row_code")) = true),
  fun K => decide (PySem.W.nsIn K mainGlobals "deed_code" = some (some (.ref (He.ga K "deed_code")))),
  fun K => decide (PySem.W.keepIn K (.ref (He.ga K "deed_code")) = true),
  fun K => decide (PySem.W.nsIn K mainGlobals "part_code" = some (some (.ref (He.ga K "part_code")))),
  fun K => decide (PySem.W.keepIn K (.ref (He.ga K "part_code")) = true),
  fun K => decide (PySem.W.nsIn K mainGlobals "counted" = some (some (.ref (He.ga K "counted")))),
  fun K => decide (PySem.W.keepIn K (.ref (He.ga K "counted")) = true)]
def hex3 : List (PySem.W.Frag → Bool) := [
  fun K => decide (PySem.W.nsIn K mainGlobals "parts" = some (some (.ref (He.ga K "parts")))),
  fun K => decide (PySem.W.keepIn K (.ref (He.ga K "parts")) = true),
  fun K => decide (PySem.W.nsIn K mainGlobals "program_of" = some (some (.ref (He.ga K "program_of")))),
  fun K => decide (PySem.W.keepIn K (.ref (He.ga K "program_of")) = true),
  fun K => decide (PySem.W.nsIn K mainGlobals "row_told" = some (some (.ref (He.ga K "row_told")))),
  fun K => decide (PySem.W.keepIn K (.ref (He.ga K "row_told")) = true),
  fun K => decide (PySem.W.nsIn K mainGlobals "deed_told" = some (some (.ref (He.ga K "deed_told")))),
  fun K => decide (PySem.W.keepIn K (.ref (He.ga K "deed_told")) = true),
  fun K => decide (PySem.W.nsIn K mainGlobals "kind_told" = some (some (.ref (He.ga K "kind_told")))),
  fun K => decide (PySem.W.keepIn K (.ref (He.ga K "kind_told")) = true),
  fun K => decide (PySem.W.nsIn K mainGlobals "part_told" = some (some (.ref (He.ga K "part_told")))),
  fun K => decide (PySem.W.keepIn K (.ref (He.ga K "part_told")) = true),
  fun K => decide (PySem.W.nsIn K mainGlobals "is_code" = some (some (.ref (He.ga K "is_code")))),
  fun K => decide (PySem.W.keepIn K (.ref (He.ga K "is_code")) = true),
  fun K => decide (PySem.W.nsIn K mainGlobals "_law_bag" = some (some (.ref (He.ga K "_law_bag")))),
  fun K => decide (PySem.W.keepIn K (.ref (He.ga K "_law_bag")) = true),
  fun K => decide (PySem.W.nsIn K mainGlobals "_law_take" = some (some (.ref (He.ga K "_law_take")))),
  fun K => decide (PySem.W.keepIn K (.ref (He.ga K "_law_take")) = true),
  fun K => decide (PySem.W.nsIn K mainGlobals "_law_thing" = some (some (.ref (He.ga K "_law_thing")))),
  fun K => decide (PySem.W.keepIn K (.ref (He.ga K "_law_thing")) = true)]
def hex4 : List (PySem.W.Frag → Bool) := [
  fun K => decide (PySem.W.nsIn K mainGlobals "_law_name" = some (some (.ref (He.ga K "_law_name")))),
  fun K => decide (PySem.W.keepIn K (.ref (He.ga K "_law_name")) = true),
  fun K => decide (PySem.W.nsIn K mainGlobals "_law_deed" = some (some (.ref (He.ga K "_law_deed")))),
  fun K => decide (PySem.W.keepIn K (.ref (He.ga K "_law_deed")) = true),
  fun K => decide (PySem.W.nsIn K mainGlobals "_law_deeds" = some (some (.ref (He.ga K "_law_deeds")))),
  fun K => decide (PySem.W.keepIn K (.ref (He.ga K "_law_deeds")) = true),
  fun K => decide (PySem.W.nsIn K mainGlobals "_law_top" = some (some (.ref (He.ga K "_law_top")))),
  fun K => decide (PySem.W.keepIn K (.ref (He.ga K "_law_top")) = true),
  fun K => decide (PySem.W.nsIn K mainGlobals "_law_number_text" = some (some (.ref (He.ga K "_law_number_text")))),
  fun K => decide (PySem.W.keepIn K (.ref (He.ga K "_law_number_text")) = true),
  fun K => decide (PySem.W.nsIn K mainGlobals "_law_row_text" = some (some (.ref (He.ga K "_law_row_text")))),
  fun K => decide (PySem.W.keepIn K (.ref (He.ga K "_law_row_text")) = true),
  fun K => decide (PySem.W.nsIn K mainGlobals "_law_code" = some (some (.ref (He.ga K "_law_code")))),
  fun K => decide (PySem.W.keepIn K (.ref (He.ga K "_law_code")) = true),
  fun K => decide (PySem.W.nsIn K mainGlobals "_law_good" = some (some (.ref (He.ga K "_law_good")))),
  fun K => decide (PySem.W.keepIn K (.ref (He.ga K "_law_good")) = true),
  fun K => decide (PySem.W.nsIn K mainGlobals "law" = some (some (.ref (He.ga K "law")))),
  fun K => decide (PySem.W.keepIn K (.ref (He.ga K "law")) = true),
  fun K => decide (PySem.W.nsIn K mainGlobals "Program" = some (some (.ref (He.ga K "Program")))),
  fun K => decide (PySem.W.plainGet K (He.ga K "Program") Str.empty = true)]
def hex5 : List (PySem.W.Frag → Bool) := [
  fun K => decide (PySem.W.hasDictIn K (He.ga K "Program") = true),
  fun K => decide (PySem.W.plainOver K (He.ga K "Program") = true),
  fun K => decide (PySem.W.findIn K (.ref (He.ga K "Program")) "__setattr__" = some (some (.builtin "object.__setattr__"))),
  fun K => decide (PySem.W.makesIn K (He.ga K "Program") = true),
  fun K => decide (PySem.W.keepIn K (.ref (He.ga K "Program")) = true),
  fun K => decide (PySem.W.findIn K (.ref (He.ga K "Program")) "deeds" = some none),
  fun K => decide (PySem.W.findIn K (.ref (He.ga K "Program")) "plan" = some none),
  fun K => decide (PySem.W.findIn K (.ref (He.ga K "Program")) "__class__" = some (some (.builtin "object.__class__"))),
  fun K => decide (PySem.W.mroIn K (He.ga K "Program") (.type "object") = some true),
  fun K => decide (PySem.W.findIn K (.ref (He.ga K "Program")) "__ne__" = some (some (.builtin "object.__ne__"))),
  fun K => decide (PySem.W.nsIn K mainGlobals "FORMS" = some (some (.ref (He.ga K "FORMS")))),
  fun K => intB K mainGlobals "MANY_NAMES" 10,
  fun K => intB K mainGlobals "MOST_DEEDS" 4000,
  fun K => intB K mainGlobals "MOST_FLOORS" 8,
  fun K => decide (PySem.W.kitOne K (.type "int") (.type "int") = some true),
  fun K => decide (PySem.W.kitOne K (.type "int") (.type "bool") = some false),
  fun K => decide (PySem.W.kitOne K (.type "tuple") (.type "tuple") = some true),
  fun K => decide (PySem.W.kitOne K (.type "str") (.type "str") = some true),
  fun K => strB K (He.ga K "FORMS") "told" "nt",
  fun K => strB K (He.ga K "FORMS") "first" "nn"]
def hex6 : List (PySem.W.Frag → Bool) := [
  fun K => strB K (He.ga K "FORMS") "second" "nn",
  fun K => strB K (He.ga K "FORMS") "pair" "nnn",
  fun K => strB K (He.ga K "FORMS") "same" "nnn",
  fun K => strB K (He.ga K "FORMS") "while" "nr",
  fun K => strB K (He.ga K "FORMS") "if" "nrr",
  fun K => decide (PySem.W.findIn K (.ref (He.ga K "Program")) "__init__" = some (some (.ref (He.ma K (He.ga K "Program") "__init__")))),
  fun K => decide (PySem.W.isFn K (.ref (He.ma K (He.ga K "Program") "__init__")) = true),
  fun K => decide (PySem.W.keepIn K (.ref (He.ma K (He.ga K "Program") "__init__")) = true),
  fun K => decide (PySem.W.findIn K (.ref (He.ga K "Program")) "__len__" = some (some (.ref (He.ma K (He.ga K "Program") "__len__")))),
  fun K => decide (PySem.W.isFn K (.ref (He.ma K (He.ga K "Program") "__len__")) = true),
  fun K => decide (PySem.W.keepIn K (.ref (He.ma K (He.ga K "Program") "__len__")) = true),
  fun K => decide (PySem.W.findIn K (.ref (He.ga K "Program")) "__eq__" = some (some (.ref (He.ma K (He.ga K "Program") "__eq__")))),
  fun K => decide (PySem.W.isFn K (.ref (He.ma K (He.ga K "Program") "__eq__")) = true),
  fun K => decide (PySem.W.keepIn K (.ref (He.ma K (He.ga K "Program") "__eq__")) = true),
  fun K => decide (PySem.W.nsIn K mainGlobals "TooGreat" = some (some (.ref (He.ga K "TooGreat")))),
  fun K => excB K (He.ga K "TooGreat") [.type "OverflowError", .type "ArithmeticError", .type "Exception", .type "BaseException", .type "object"] "OverflowError.__new__",
  fun K => decide (PySem.W.excOver K (He.ga K "TooGreat") [.type "OverflowError", .type "ArithmeticError", .type "Exception", .type "BaseException", .type "object"] = true),
  fun K => decide (PySem.W.findIn K (.ref (He.ga K "TooGreat")) "__setattr__" = some (some (.builtin "object.__setattr__"))),
  fun K => decide (PySem.W.subIn K (.ref (He.ga K "TooGreat")) (.type "BaseException") = some true),
  fun K => decide (PySem.W.typeIn K (.ref (He.ga K "TooGreat")) = some (.type "type"))]
def hex7 : List (PySem.W.Frag → Bool) := [
  fun K => decide (PySem.W.keepIn K (.ref (He.ga K "TooGreat")) = true),
  fun K => decide (PySem.W.findIn K (.ref (He.ga K "TooGreat")) "bound" = some none),
  fun K => decide (PySem.W.findIn K (.ref (He.ga K "TooGreat")) "__init__" = some (some (.ref (He.ma K (He.ga K "TooGreat") "__init__")))),
  fun K => decide (PySem.W.typeIn K (.ref (He.ma K (He.ga K "TooGreat") "__init__")) = some (.type "function")),
  fun K => decide (PySem.W.keepIn K (.ref (He.ma K (He.ga K "TooGreat") "__init__")) = true),
  fun K => decide (PySem.W.hasDictIn K (He.ga K "TooGreat") = true),
  fun K => decide (PySem.W.subIn K (.ref (He.ga K "TooGreat")) (.ref (He.ga K "TooGreat")) = some true),
  fun K => decide (PySem.W.findIn K (.ref (He.ga K "TooGreat")) "__getattribute__" = some (some (.builtin "BaseException.__getattribute__"))),
  fun K => decide (PySem.W.findIn K (.ref (He.ga K "TooGreat")) "__getattr__" = some none),
  fun K => decide (PySem.W.isClsIn K (He.ga K "TooGreat") = true),
  fun K => decide (PySem.W.findIn K (.ref (He.ga K "TooGreat")) "__class__" = some (some (.builtin "object.__class__"))),
  fun K => decide (PySem.W.mroIn K (He.ga K "TooGreat") (.type "object") = some true),
  fun K => decide (PySem.W.kitOne K (.ref (He.ga K "TooGreat")) (.type "OverflowError") = some true),
  fun K => decide (PySem.W.nsIn K mainGlobals "NoName" = some (some (.ref (He.ga K "NoName")))),
  fun K => decide (PySem.W.nsIn K mainGlobals "NoProgram" = some (some (.ref (He.ga K "NoProgram")))),
  fun K => decide (PySem.W.nsIn K mainGlobals "NoRoom" = some (some (.ref (He.ga K "NoRoom")))),
  fun K => decide (PySem.W.nsIn K mainGlobals "NoSaying" = some (some (.ref (He.ga K "NoSaying")))),
  fun K => decide (PySem.W.nsIn K mainGlobals "NoStep" = some (some (.ref (He.ga K "NoStep")))),
  fun K => decide (PySem.W.nsIn K mainGlobals "NoText" = some (some (.ref (He.ga K "NoText")))),
  fun K => decide (PySem.W.kitAny K (.ref (He.ga K "TooGreat")) [.ref (He.ga K "NoName"), .ref (He.ga K "NoProgram"), .ref (He.ga K "NoRoom"), .ref (He.ga K "NoSaying"), .ref (He.ga K "NoStep"), .ref (He.ga K "NoText")] = some false)]
def hex8 : List (PySem.W.Frag → Bool) := [
  fun K => decide (PySem.W.kitOne K (.ref (He.ga K "Thing")) (.type "int") = some false),
  fun K => decide (PySem.W.kitOne K (.ref (He.ga K "Thing")) (.type "tuple") = some false),
  fun K => decide (PySem.W.nsIn K mainGlobals "len" = some none),
  fun K => decide (PySem.W.nsIn K mainGlobals "range" = some none),
  fun K => decide (PySem.W.nsIn K mainGlobals "isinstance" = some none),
  fun K => decide (PySem.W.nsIn K mainGlobals "abs" = some none),
  fun K => decide (PySem.W.nsIn K mainGlobals "int" = some none),
  fun K => decide (PySem.W.nsIn K mainGlobals "str" = some none),
  fun K => decide (PySem.W.nsIn K mainGlobals "max" = some none),
  fun K => decide (PySem.W.nsIn K mainGlobals "min" = some none),
  fun K => decide (PySem.W.nsIn K mainGlobals "all" = some none),
  fun K => decide (PySem.W.nsIn K mainGlobals "bool" = some none),
  fun K => decide (PySem.W.nsIn K mainGlobals "tuple" = some none),
  fun K => decide (PySem.W.nsIn K mainGlobals "zip" = some none),
  fun K => decide (PySem.W.nsIn K mainGlobals "enumerate" = some none),
  fun K => decide (PySem.W.nsIn K mainGlobals "list" = some none),
  fun K => decide (PySem.W.nsIn K mainGlobals "OverflowError" = some none),
  fun K => decide (PySem.W.nsIn K mainGlobals "reversed" = some none)]
def hex : List (PySem.W.Frag → Bool) := hex0 ++ hex1 ++ hex2 ++ hex3 ++ hex4 ++ hex5 ++ hex6 ++ hex7 ++ hex8
def has0 : List Addr := [3, 6, 4, 21, 38, 58, 78, 98, 118, 138, 158, 221, 232, 239, 246, 253, 260, 267, 274, 275, 327, 338, 345, 350, 357, 364, 371, 378, 385, 390]
def has1 : List Addr := [397, 402, 409, 416, 423, 430, 435, 440, 447, 454, 461, 468, 473, 480, 487, 494, 501, 508, 513, 520, 527, 534, 20, 37, 57, 77, 97, 117, 137, 157]
def has2 : List Addr := [220, 231, 238, 245, 252, 259, 266, 273, 326, 337, 344, 349, 356, 363, 370, 377, 384, 389, 396, 401, 408, 415, 422, 429, 434, 439, 446, 453, 460, 467]
def has3 : List Addr := [472, 479, 486, 493, 500, 507, 512, 519, 526, 533, 35, 36, 39, 55, 56, 59, 75, 76, 79, 95, 96, 99, 115, 116, 119, 135, 136, 139, 155, 156]
def has4 : List Addr := [159, 176, 183, 190, 197, 204, 211, 218, 219, 222, 223, 289, 296, 303, 310, 317, 324, 325, 328, 329, 34, 54, 74, 94, 114, 134, 154, 175, 169, 182]
def has5 : List Addr := [189, 196, 203, 210, 217, 288, 295, 302, 309, 316, 323]
def has : List Addr := has0 ++ has1 ++ has2 ++ has3 ++ has4 ++ has5
def hexs (K : PySem.W.Frag) : Bool := hex.all fun f => f K
abbrev hR : PySem.W.OpenRow := PySem.W.OpenLaw.row PySem.Challenge.rw_judgeslip_k16_codes
abbrev hkX : PySem.W.Hook := hookC has hfn hts hexs
abbrev hob (s : PySem.W.SharedT) : He.AlT × Bool := obC has hfn hts hexs s
theorem hob_eq (s : PySem.W.SharedT) : hob s = hkX.obs s.abs := obC_eq has hfn hts hexs s
theorem hr0F (w : World) : HandSHeadRun.RunEq hR (PySem.W.view hR.prog [58]) PySem.W.Hook.none (fun _ => ()) 20000 hnames (w.withFollow "special-get-raises" false) := by
  intro os
  kernel_rfl
theorem hr1F (w : World) (os : OsState) : (HandSHeadRun.endF (HandSHeadRun.stepQ (HandSHeadRun.denQ HandSHeadRun.tabQ) hR.prog (w.withFollow "special-get-raises" false)) 20000 hR.prog (w.withFollow "special-get-raises" false) os).map (fun s => He.obsT [] hfn hts (He.frG (HandSHeadRun.getT s) has)) = some (He.valT hfn hts (w.withFollow "special-get-raises" false)) := by
  kernel_rfl
theorem hr2F (w : World) (os : OsState) : (HandSHeadRun.endF (HandSHeadRun.stepQ (HandSHeadRun.denQ HandSHeadRun.tabQ) hR.prog (w.withFollow "special-get-raises" false)) 20000 hR.prog (w.withFollow "special-get-raises" false) os).map (fun s => hexs (He.frG (HandSHeadRun.getT s) has)) = some true := by
  kernel_rfl
theorem hrunF (w : World) : HandSHeadRun.RunEq hR (PySem.W.view hR.prog [58]) hkX hob 20000 hnames (w.withFollow "special-get-raises" false) := run_join (hr0F w) (hr1F w) (hr2F w)
theorem hr0T (w : World) : HandSHeadRun.RunEq hR (PySem.W.view hR.prog [58]) PySem.W.Hook.none (fun _ => ()) 20000 hnames (w.withFollow "special-get-raises" true) := by
  intro os
  kernel_rfl
theorem hr1T (w : World) (os : OsState) : (HandSHeadRun.endF (HandSHeadRun.stepQ (HandSHeadRun.denQ HandSHeadRun.tabQ) hR.prog (w.withFollow "special-get-raises" true)) 20000 hR.prog (w.withFollow "special-get-raises" true) os).map (fun s => He.obsT [] hfn hts (He.frG (HandSHeadRun.getT s) has)) = some (He.valT hfn hts (w.withFollow "special-get-raises" true)) := by
  kernel_rfl
theorem hr2T (w : World) (os : OsState) : (HandSHeadRun.endF (HandSHeadRun.stepQ (HandSHeadRun.denQ HandSHeadRun.tabQ) hR.prog (w.withFollow "special-get-raises" true)) 20000 hR.prog (w.withFollow "special-get-raises" true) os).map (fun s => hexs (He.frG (HandSHeadRun.getT s) has)) = some true := by
  kernel_rfl
theorem hrunT (w : World) : HandSHeadRun.RunEq hR (PySem.W.view hR.prog [58]) hkX hob 20000 hnames (w.withFollow "special-get-raises" true) := run_join (hr0T w) (hr1T w) (hr2T w)
theorem hrun (w : World) : HandSHeadRun.RunEq hR (PySem.W.view hR.prog [58]) hkX hob 20000 hnames w :=
  PySem.W.byRow2 "special-get-raises" (P := fun w => HandSHeadRun.RunEq hR (PySem.W.view hR.prog [58]) hkX hob 20000 hnames w) hrunF hrunT w

end Js

set_option Elab.async false
set_option linter.all false
set_option maxRecDepth 100000
set_option maxHeartbeats 2000000
namespace Js
open PySem L2
def spAlike (C : Addr) : Sp := spEqT C
section
variable {P : Program} {w : World} {K : PySem.W.Frag} {mg : Str → Option Value} {base : Heap} {C : Addr}
theorem scA : FnScope ["one", "other", "waiting", "left", "right"] ["one", "other"] (defScope sAlike) := ⟨rfl, rfl, rfl, by decide +kernel, rfl, by decide +kernel, by decide +kernel⟩
theorem ok_alike {f : Addr} {fd : FuncData} (F : Fun K "alike" "alike" sAlike f fd) (T : Txt K mg C) : FnOk P w K mg base CX0 1 f fd ["one", "other"] (spAlike C) := by
  refine F.ok scA (fun vs H Q E h => ?_) (fun cdv A outer s H vs Q E hr h => ?_)
  · obtain ⟨a, b, t, u, rfl, _⟩ := h
    rfl
  · obtain ⟨a, b, t, u, rfl, ha, hb, hz, k⟩ := h
    refine ⟨_, pss_cons (ps_set (i := 2) scA.nd rfl (Or.inl rfl) (pe_lst (pa_cons (pe_tup (pa_cons (pv 0) (pa_cons (pv 1) pa_nil))) pa_nil)))
      (pss_cons (ps_while PassesOwn.never (pt_truth (pv 2) (by intro _; rfl))
        (pss_cons (ps_asg (pe_bm0 PySem.F.plainAttrs_list PySem.F.slot_list_pop PySem.F.type_list_pop mt_pop (pv 2)) (pg_tup rfl (pgs_cons (pg_name (i := 3) scA.nd rfl (Or.inl rfl)) (pgs_cons (pg_name (i := 4) scA.nd rfl (Or.inl rfl)) pgs_nil))))
        (pss_cons (ps_if (pt_cmpR op_ne (pe_fld (pv 3) rfl) (pe_fld (pv 4) rfl) (nomark _)) (pss_one (ps_ret pe_bl)) pss_nil)
        (pss_one (ps_if (pt_cmpR op_gt (pe_fld (pv 3) rfl) pe_int (nomark _))
          (pss_cons (ps_expr (pe_bm PySem.F.plainAttrs_list PySem.F.slot_list_append PySem.F.type_list_append mt_append (pv 2) (pa_cons (pe_tup (pa_cons (pe_fld (pv 3) rfl) (pa_cons (pe_fld (pv 4) rfl) pa_nil))) pa_nil)))
          (pss_one (ps_expr (pe_bm PySem.F.plainAttrs_list PySem.F.slot_list_append PySem.F.type_list_append mt_append (pv 2) (pa_cons (pe_tup (pa_cons (pe_fld (pv 3) rfl) (pa_cons (pe_fld (pv 4) rfl) pa_nil))) pa_nil))))) pss_nil)))))
      (pss_one (ps_ret pe_bl))), ?_⟩
    refine ⟨_, rfl, _, rfl, (by show 2 ≤ sizeLine; decide), fun q0 nq0 => ?_⟩
    refine ⟨(by show 1 ≤ sizeLine; decide), fun wl nwl => ?_⟩
    have hwl : H wl = none := by
      have := nwl
      unfold upd at this
      split at this
      · cases this
      · exact this
    have nqw : q0 ≠ wl := ne_of_none (o := .tup [.ref a, .ref b]) upd_same nwl
    -- the loop
    refine ⟨fun m σ H' => ∃ (rs : List V) (ps : List (Tr × Tr)) (x3 x4 : Option V), σ = [some (.ref a), some (.ref b), some (.ref wl), x3, x4] ∧ Same H H' ∧ H' wl = some (.lst rs.reverse) ∧ Paired (PrAt C H') rs ps ∧
      ((∀ p ∈ ps, p.1 = p.2) ↔ t = u) ∧ m = pm ps ∧ m ≤ 2 * t.size + 1, ?_, ?_⟩
    · have s1 : Same H (upd (upd H q0 (.tup [.ref a, .ref b])) wl (.lst [.ref q0])) := (Same.new nq0).set hwl
      refine ⟨_, [.ref q0], [(t, u)], none, none, rfl, s1, upd_same, .cons ⟨q0, a, b, rfl, ?_, ha.same s1, hb.same s1⟩ .nil, ?_, rfl, ?_⟩
      · exact (upd_ne nqw).trans upd_same
      · simp
      · simp [pm]
    · rintro m σ H' ⟨rs, ps, x3, x4, rfl, s1, hw, hps, hiff, rfl, hm⟩
      refine ⟨_, rfl, !rs.reverse.isEmpty, .inl ⟨_, SqL.of hw, rfl⟩, ?_⟩
      cases hps with
      | nil =>
        refine iteF ?_
        have : t = u := hiff.mp (fun p hp => by cases hp)
        have z := k H' s1
        rw [decide_eq_true this] at z
        exact z
      | @cons v p rs ps hv hps =>
        have e1 : (!(v :: rs).reverse.isEmpty) = true := by simp
        rw [e1]
        refine iteT ⟨fun σ' H2 => ∃ m', m' < pm (p :: ps) ∧ _, fun σ' H2 z => z, ?_⟩
        obtain ⟨q, x, y, rfl, hq, hx, hy⟩ := hv
        have hlen : rs.length ≤ pm ps := by rw [Paired.length hps]; exact pm_len ps
        rw [pm_cons] at hm
        refine ⟨_, rfl, .inl ⟨rfl, _, SqL.of hw⟩, wl, _, _, rfl, rfl, hw, last_rev _ _, ?_⟩
        rw [drop_rev]
        have nqwl : q ≠ wl := ne_of hq hw (by intro z; cases z)
        have k1 : KT H' (upd H' wl (.lst rs.reverse)) := KT.lst hw
        have s2 : Same H (upd H' wl (.lst rs.reverse)) := s1.set hwl
        have hx2 := hx.kt k1
        have hy2 := hy.kt k1
        have hps2 := prs_kt k1 hps
        obtain ⟨dx, f1, g1, h1⟩ := hx2.obj
        obtain ⟨dy, f2, g2, h2⟩ := hy2.obj
        refine ⟨q, _, rfl, SqT.of ((upd_ne nqwl).trans hq), rfl, _, _, rfl, _, _, rfl, rfl, ?_⟩
        refine ⟨_, rfl, _, _, _, _, _, rfl, h1, T.cl, T.nZ, tf_size _ _ _, _, rfl, _, _, _, _, _, rfl, h2, T.cl, T.nZ, tf_size _ _ _, rfl, _, rfl, ?_⟩
        by_cases hsz : p.1.size = p.2.size
        · have ed : (!decide (V.int (p.1.size : Nat) = V.int (p.2.size : Nat))) = false := by rw [hsz]; simp
          rw [ed]
          refine iteF ?_
          refine ⟨_, rfl, _, _, _, _, _, rfl, h1, T.cl, T.nZ, tf_size _ _ _, _, _, rfl, rfl, _, rfl, ?_⟩
          by_cases h1z : 1 < p.1.size
          · have ed2 : decide ((1 : Int) < (p.1.size : Nat)) = true := decide_eq_true (by omega)
            rw [ed2]
            refine iteT ?_
            obtain ⟨t1, u1⟩ := p
            cases t1 with
            | nil => simp [Tr.size] at h1z
            | pr l1 r1 =>
            cases u1 with
            | nil => simp [Tr.size] at hsz
            | pr l2 r2 =>
            obtain ⟨dx', b1, c1, hX, hb1, hc1⟩ := hx2.pair
            obtain ⟨dy', b2, c2, hY, hb2, hc2⟩ := hy2.pair
            -- waiting.append((left.second, right.second))
            refine ⟨_, rfl, .inl ⟨rfl, _, SqL.of upd_same⟩, _, rfl, _, _, _, _, _, rfl, hX, T.cl, T.nS, tf_second _ _ _, _, rfl, _, _, _, _, _, rfl, hY, T.cl, T.nS, tf_second _ _ _, (by show 2 ≤ sizeLine; decide), fun q1 nq1 => ?_⟩
            have nq1w : wl ≠ q1 := ne_of_none (o := .lst rs.reverse) upd_same nq1
            have hsl := line4
            simp only [Tr.size] at hm
            refine ⟨wl, _, _, rfl, rfl, (upd_ne nq1w).trans upd_same, (by rw [List.length_reverse]; omega), ?_⟩
            have k2 : KT (upd H' wl (.lst rs.reverse)) (upd (upd (upd H' wl (.lst rs.reverse)) q1 (.tup [.ref c1, .ref c2])) wl (.lst (rs.reverse ++ [.ref q1]))) := (KT.new nq1).trans (KT.lst ((upd_ne nq1w).trans upd_same))
            have s3 : Same H (upd (upd (upd H' wl (.lst rs.reverse)) q1 (.tup [.ref c1, .ref c2])) wl (.lst (rs.reverse ++ [.ref q1]))) := (s2.trans (Same.new nq1)).set hwl
            have hq1 : (upd (upd (upd H' wl (.lst rs.reverse)) q1 (.tup [.ref c1, .ref c2])) wl (.lst (rs.reverse ++ [.ref q1]))) q1 = some (.tup [.ref c1, .ref c2]) := (upd_ne (Ne.symm nq1w)).trans upd_same
            have hw3 : (upd (upd (upd H' wl (.lst rs.reverse)) q1 (.tup [.ref c1, .ref c2])) wl (.lst (rs.reverse ++ [.ref q1]))) wl = some (.lst (rs.reverse ++ [.ref q1])) := upd_same
            have hX3 := k2 _ _ hX (fun _ e => nomatch e)
            have hY3 := k2 _ _ hY (fun _ e => nomatch e)
            have hps3 := prs_kt k2 hps2
            have hb1' := hb1.kt k2
            have hc1' := hc1.kt k2
            have hb2' := hb2.kt k2
            have hc2' := hc2.kt k2
            revert s3 hq1 hw3 hX3 hY3 hps3 hb1' hc1' hb2' hc2'
            generalize (upd (upd (upd H' wl (.lst rs.reverse)) q1 (.tup [.ref c1, .ref c2])) wl (.lst (rs.reverse ++ [.ref q1]))) = H3
            intro s3 hq1 hw3 hX3 hY3 hps3 hb1' hc1' hb2' hc2'
            -- waiting.append((left.first, right.first))
            refine ⟨_, rfl, .inl ⟨rfl, _, SqL.of hw3⟩, _, rfl, _, _, _, _, _, rfl, hX3, T.cl, T.nF, tf_first _ _ _, _, rfl, _, _, _, _, _, rfl, hY3, T.cl, T.nF, tf_first _ _ _, (by show 2 ≤ sizeLine; decide), fun q2 nq2 => ?_⟩
            have nq2w : wl ≠ q2 := ne_of_none hw3 nq2
            refine ⟨wl, _, _, rfl, rfl, (upd_ne nq2w).trans hw3, (by rw [List.length_append, List.length_reverse, List.length_singleton]; omega), ?_⟩
            have k4 : KT H3 (upd (upd H3 q2 (.tup [.ref b1, .ref b2])) wl (.lst (rs.reverse ++ [.ref q1] ++ [.ref q2]))) := (KT.new nq2).trans (KT.lst ((upd_ne nq2w).trans hw3))
            refine ⟨pm ((l1, l2) :: (r1, r2) :: ps), ?_, .ref q2 :: .ref q1 :: rs, (l1, l2) :: (r1, r2) :: ps, _, _, rfl, (s3.trans (Same.new nq2)).set hwl, ?_, .cons ⟨q2, b1, b2, rfl, (upd_ne (Ne.symm nq2w)).trans upd_same, hb1'.kt k4, hb2'.kt k4⟩ (.cons ⟨q1, c1, c2, rfl, k4 _ _ hq1 (fun _ e => nomatch e), hc1'.kt k4, hc2'.kt k4⟩ (prs_kt k4 hps3)), ?_, rfl, ?_⟩
            · rw [pm_cons, pm_cons, pm_cons]
              simp only [Tr.size]
              omega
            · rw [upd_same, push_rev, push_rev]
            · rw [← hiff]
              simp only [List.mem_cons, forall_eq_or_imp, Tr.pr.injEq]
              constructor
              · rintro ⟨h1, h2, h3⟩
                exact ⟨⟨h1, h2⟩, h3⟩
              · rintro ⟨⟨h1, h2⟩, h3⟩
                exact ⟨h1, h2, h3⟩
            · rw [pm_cons, pm_cons]
              show 2 * l1.size + 1 + (2 * r1.size + 1 + pm ps) ≤ _
              omega
          · have ed2 : decide ((1 : Int) < (p.1.size : Nat)) = false := decide_eq_false (by omega)
            rw [ed2]
            refine iteF ?_
            have ep : p.1 = p.2 := Tr.small_eq hsz (by omega)
            refine ⟨pm ps, by rw [pm_cons]; omega, rs, ps, _, _, rfl, s2, upd_same, hps2, ?_, rfl, by omega⟩
            rw [← hiff]
            simp [ep]
        · have ed : (!decide (V.int (p.1.size : Nat) = V.int (p.2.size : Nat))) = true := by
            simp
            omega
          rw [ed]
          refine iteT ?_
          have : ¬ t = u := fun z => hsz (by rw [hiff.mpr z p (by simp)])
          have z := k _ s2
          rw [decide_eq_false this] at z
          exact z
theorem scE : FnScope ["self", "other"] ["self", "other"] (defScope sEq) := ⟨rfl, rfl, rfl, by decide +kernel, rfl, by decide +kernel, by decide +kernel⟩
theorem kit_self (K : PySem.W.Frag) (C : Addr) : PySem.W.kitOne K (.ref C) (.ref C) = some true := by
  unfold PySem.W.kitOne
  rw [if_pos (by simp)]
theorem ok_eq {f fA : Addr} {fd fdA : FuncData} (F : Fun K "__eq__" "Thing.__eq__" sEq f fd) (T : Txt K mg C) (AA : At K mg "alike" sAlike ["one", "other"] fA fdA) : FnOk P w K mg base CX0 2 f fd ["self", "other"] (spEqT C) := by
  have GA : FnOk P w K mg base CX0 1 fA fdA ["one", "other"] (spAlike C) := ok_alike AA.F T
  refine F.ok scE (fun vs H Q E h => ?_) (fun cdv A outer s H vs Q E hr h => ?_)
  · obtain ⟨a, b, t, u, rfl, _⟩ := h
    rfl
  · obtain ⟨a, b, t, u, rfl, ha, hb, hz, k⟩ := h
    refine ⟨_, pss_one (ps_ret (pe_and (pe_callB call_isi (by rfl) T.isi PyProof.Rows.boot_isinstance (pa_cons (pv 1) (pa_cons (pe_glob (v := .ref C) rfl T.mgC rfl) pa_nil)))
      (pe_one (pe_call GA hr rfl AA.mgf AA.F.kp AA.b .nil pass0 (pa_cons (pv 0) (pa_cons (pv 1) pa_nil)))))), ?_⟩
    obtain ⟨dy, f2, g2, h2⟩ := hb.obj
    refine ⟨_, rfl, _, _, _, _, true, rfl, ClsV.own C, .base (.ins h2 T.cl T.ca T.cn T.ct T.cm), kit_self _ _, true, rfl, ?_⟩
    refine iteT ?_
    exact ⟨_, rfl, _, rfl, a, b, t, u, rfl, ha, hb, hz, k⟩
theorem e41 : ((")" : Str)) = ⟨#[41]⟩ := by decide +kernel
theorem e40 : (("(" : Str)) = ⟨#[40]⟩ := by decide +kernel
theorem e46 : (("." : Str)) = ⟨#[46]⟩ := by decide +kernel
theorem scS : FnScope ["thing", "found", "waiting", "part"] ["thing"] (defScope sSigns) := ⟨rfl, rfl, rfl, by decide +kernel, rfl, by decide +kernel, by decide +kernel⟩
theorem ok_signs {f : Addr} {fd : FuncData} (F : Fun K "signs" "signs" sSigns f fd) (T : Txt K mg C) : FnOk P w K mg base CX0 1 f fd ["thing"] (spSigns C) := by
  refine F.ok scS (fun vs H Q E h => ?_) (fun cdv A outer s H vs Q E hr h => ?_)
  · obtain ⟨a, t, rfl, _⟩ := h
    rfl
  · obtain ⟨a, t, rfl, ha, hz, k⟩ := h
    refine ⟨_, pss_cons (ps_set (i := 1) scS.nd rfl (Or.inl rfl) (pe_lst pa_nil)) (pss_cons (ps_set (i := 2) scS.nd rfl (Or.inl rfl) (pe_lst (pa_cons (pv 0) pa_nil)))
      (pss_cons (ps_while PassesOwn.never (pt_truth (pv 2) (by intro _; rfl))
        (pss_cons (ps_set (i := 3) scS.nd rfl (Or.inl rfl) (pe_bm0 PySem.F.plainAttrs_list PySem.F.slot_list_pop PySem.F.type_list_pop mt_pop (pv 2)))
        (pss_one (ps_if (pt_cmp (pc_isN (pv 3)))
          (pss_one (ps_expr (pe_bm PySem.F.plainAttrs_list PySem.F.slot_list_append PySem.F.type_list_append mt_append (pv 1) (pa_cons pe_str pa_nil))))
          (pss_one (ps_if (pt_cmpR op_eq (pe_fld (pv 3) rfl) pe_int (nomark _))
            (pss_one (ps_expr (pe_bm PySem.F.plainAttrs_list PySem.F.slot_list_append PySem.F.type_list_append mt_append (pv 1) (pa_cons pe_str pa_nil))))
            (pss_cons (ps_expr (pe_bm PySem.F.plainAttrs_list PySem.F.slot_list_append PySem.F.type_list_append mt_append (pv 1) (pa_cons pe_str pa_nil)))
              (pss_one (ps_expr (pe_bm PySem.F.plainAttrs_list PySem.F.slot_list_extend PySem.F.type_list_extend mt_extend (pv 2) (pa_cons (pe_lst (pa_cons pe_non (pa_cons (pe_fld (pv 3) rfl) (pa_cons (pe_fld (pv 3) rfl) pa_nil)))) pa_nil)))))))))))
      (pss_one (ps_ret (pv 1))))), ?_⟩
    refine ⟨Nat.zero_le _, fun fl nfl => ?_⟩
    refine ⟨_, rfl, (by show 1 ≤ sizeLine; decide), fun wl nwl => ?_⟩
    have nfw : fl ≠ wl := ne_of_none (o := .lst []) upd_same nwl
    have hwl : H wl = none := by
      have := nwl
      rw [upd_ne (Ne.symm nfw)] at this
      exact this
    have hsl := line4
    refine ⟨fun m σ H' => ∃ (rs : List V) (ps : List (Option Tr)) (dn : List Nat) (x3 : Option V), σ = [some (.ref a), some (.ref fl), some (.ref wl), x3] ∧ Same H H' ∧ H' fl = some (.lst (dn.map sgn)) ∧ H' wl = some (.lst rs.reverse) ∧ Paired (WtAt C H') rs ps ∧
      dn ++ wouts ps = t.codes ∧ m = wm ps ∧ m ≤ 3 * t.size + 1, ?_, ?_⟩
    · have s1 : Same H (upd (upd H fl (.lst [])) wl (.lst [.ref a])) := (Same.new nfl).set hwl
      refine ⟨_, [.ref a], [some t], [], none, rfl, s1, (upd_ne nfw).trans upd_same, upd_same, .cons (.inr ⟨a, t, rfl, rfl, ha.same s1⟩) .nil, ?_, rfl, ?_⟩
      · simp [wouts, wout]
      · simp [wm, wm1]
    · rintro m σ H' ⟨rs, ps, dn, x3, rfl, s1, hf, hw, hps, hc, rfl, hm⟩
      have hcl := congrArg List.length hc
      rw [List.length_append, Tr.codes_len] at hcl
      refine ⟨_, rfl, !rs.reverse.isEmpty, .inl ⟨_, SqL.of hw, rfl⟩, ?_⟩
      cases hps with
      | nil =>
        refine iteF ?_
        have e : dn = t.codes := by simpa [wouts] using hc
        subst e
        exact ⟨_, rfl, k fl H' s1 nfl hf⟩
      | @cons v p rs ps hv hps =>
        have e1 : (!(v :: rs).reverse.isEmpty) = true := by simp
        rw [e1]
        refine iteT ⟨fun σ' H2 => ∃ m', m' < wm (p :: ps) ∧ _, fun σ' H2 z => z, ?_⟩
        have hlen : rs.length ≤ wm ps := by rw [Paired.length hps]; exact wm_len ps
        rw [wm_cons] at hm
        rw [wouts_cons] at hc
        refine ⟨_, rfl, .inl ⟨rfl, _, SqL.of hw⟩, wl, _, _, rfl, rfl, hw, last_rev _ _, ?_⟩
        rw [drop_rev]
        have k1 : KT H' (upd H' wl (.lst rs.reverse)) := KT.lst hw
        have s2 : Same H (upd H' wl (.lst rs.reverse)) := s1.set hwl
        have hf2 : (upd H' wl (.lst rs.reverse)) fl = some (.lst (dn.map sgn)) := (upd_ne nfw).trans hf
        have hw2 : (upd H' wl (.lst rs.reverse)) wl = some (.lst rs.reverse) := upd_same
        have hv2 := hv.kt k1
        have hps2 := wts_kt k1 hps
        revert s2 hf2 hw2 hv2 hps2
        generalize (upd H' wl (.lst rs.reverse)) = H2
        intro s2 hf2 hw2 hv2 hps2
        have hd : (dn.map sgn).length < sizeLine := by rw [List.length_map]; omega
        rcases hv2 with ⟨rfl, rfl⟩ | ⟨x, t1, rfl, rfl, hx⟩
        · refine ⟨_, rfl, _, rfl, ?_⟩
          refine iteT ?_
          refine ⟨_, rfl, .inl ⟨rfl, _, SqL.of hf2⟩, fl, _, _, rfl, rfl, hf2, hd, ?_⟩
          refine ⟨wm ps, by rw [wm_cons]; simp only [wm1]; omega, rs, ps, dn ++ [41], _, rfl, s2.set nfl, ?_, (upd_ne (Ne.symm nfw)).trans hw2, wts_kt (KT.lst hf2) hps2, ?_, rfl, by omega⟩
          · rw [upd_same, List.map_append, e41]
            rfl
          · rw [← hc]
            simp [wout]
        · refine ⟨_, rfl, _, rfl, ?_⟩
          refine iteF ?_
          obtain ⟨dx, f1, g1, h1⟩ := hx.obj
          refine ⟨_, rfl, _, _, _, _, _, rfl, h1, T.cl, T.nZ, tf_size _ _ _, rfl, _, rfl, ?_⟩
          have hx' := hx
          cases hx with
          | nil h =>
            refine iteT ?_
            refine ⟨_, rfl, .inl ⟨rfl, _, SqL.of hf2⟩, fl, _, _, rfl, rfl, hf2, hd, ?_⟩
            refine ⟨wm ps, by rw [wm_cons]; simp only [wm1]; omega, rs, ps, dn ++ [46], _, rfl, s2.set nfl, ?_, (upd_ne (Ne.symm nfw)).trans hw2, wts_kt (KT.lst hf2) hps2, ?_, rfl, by omega⟩
            · rw [upd_same, List.map_append, e46]
              rfl
            · rw [← hc]
              simp [wout, Tr.codes]
          | @pr _ dx' b c l r h hl hr' =>
            have ed : decide (V.int ((Tr.pr l r).size : Nat) = V.int 0) = false := by
              simp only [Tr.size, decide_eq_false_iff_not, V.int.injEq]
              omega
            rw [ed]
            refine iteF ?_
            refine ⟨_, rfl, .inl ⟨rfl, _, SqL.of hf2⟩, fl, _, _, rfl, rfl, hf2, hd, ?_⟩
            have k3 : KT H2 (upd H2 fl (.lst (dn.map sgn ++ [.str "("]))) := KT.lst hf2
            have s3 : Same H (upd H2 fl (.lst (dn.map sgn ++ [.str "("]))) := s2.set nfl
            have hf3 : (upd H2 fl (.lst (dn.map sgn ++ [.str "("]))) fl = some (.lst ((dn ++ [40]).map sgn)) := by
              rw [upd_same, List.map_append, e40]
              rfl
            have hw3 : (upd H2 fl (.lst (dn.map sgn ++ [.str "("]))) wl = some (.lst rs.reverse) := (upd_ne (Ne.symm nfw)).trans hw2
            have h3 := k3 _ _ h (fun _ e => nomatch e)
            have hl3 := hl.kt k3
            have hr3 := hr'.kt k3
            have hps3 := wts_kt k3 hps2
            revert s3 hf3 hw3 h3 hl3 hr3 hps3
            generalize (upd H2 fl (.lst (dn.map sgn ++ [.str "("]))) = H3
            intro s3 hf3 hw3 h3 hl3 hr3 hps3
            refine ⟨_, rfl, .inl ⟨rfl, _, SqL.of hw3⟩, _, rfl, _, _, _, _, _, rfl, h3, T.cl, T.nS, tf_second _ _ _, _, rfl, _, _, _, _, _, rfl, h3, T.cl, T.nF, tf_first _ _ _, (by show 3 ≤ sizeLine; decide), fun q nq => ?_⟩
            have nqw : wl ≠ q := ne_of_none hw3 nq
            have nqf : fl ≠ q := ne_of_none hf3 nq
            simp only [wm1, Tr.size] at hm
            refine ⟨wl, q, _, _, rfl, rfl, (upd_ne nqw).trans hw3, upd_same, (by rw [List.length_reverse]; show rs.length + 3 ≤ sizeLine; omega), ?_⟩
            have k4 : KT H3 (upd (upd H3 q (.lst [.non, .ref c, .ref b])) wl (.lst (rs.reverse ++ [.non, .ref c, .ref b]))) := (KT.new nq).trans (KT.lst ((upd_ne nqw).trans hw3))
            refine ⟨wm (some l :: some r :: none :: ps), ?_, .ref b :: .ref c :: .non :: rs, some l :: some r :: none :: ps, dn ++ [40], _, rfl, (s3.trans (Same.new nq)).set hwl, (upd_ne nfw).trans ((upd_ne nqf).trans hf3), ?_,
              .cons (.inr ⟨b, l, rfl, rfl, hl3.kt k4⟩) (.cons (.inr ⟨c, r, rfl, rfl, hr3.kt k4⟩) (.cons (.inl ⟨rfl, rfl⟩) (wts_kt k4 hps3))), ?_, rfl, ?_⟩
            · rw [wm_cons, wm_cons, wm_cons, wm_cons]
              simp only [wm1, Tr.size]
              omega
            · rw [upd_same]
              simp
            · rw [← hc, wouts_cons, wouts_cons, wouts_cons]
              simp [wout, Tr.codes]
            · rw [wm_cons, wm_cons, wm_cons]
              simp only [wm1]
              omega
theorem joinL_signs : ∀ cs : List Nat, TL.joinL [] ((cs.map fun c => (⟨#[c]⟩ : Str)).map TL.tl) = cs
  | [] => rfl
  | [c] => rfl
  | c :: d :: r => by
    have ih := joinL_signs (d :: r)
    show [c] ++ ([] ++ TL.joinL [] (((d :: r).map fun c => (⟨#[c]⟩ : Str)).map TL.tl)) = c :: d :: r
    rw [ih]
    rfl
theorem join_signs (cs : List Nat) : (PySem.Txt.join ("" : Str) (cs.map fun c => (⟨#[c]⟩ : Str))) = ⟨cs.toArray⟩ := by
  rw [TL.join_eq]
  apply PyProof.Rows.ext_toList
  exact (TL.tl_join _ _).trans (joinL_signs cs)
theorem sum_signs : ∀ cs : List Nat, ((cs.map fun c => (⟨#[c]⟩ : Str)).map (·.length)).sum = cs.length
  | [] => rfl
  | c :: r => by
    have ih := sum_signs r
    rw [List.map_cons, List.map_cons, List.sum_cons, ih, List.length_cons]
    show 1 + _ = _
    omega
theorem scSt : FnScope ["self"] ["self"] (defScope sStr) := ⟨rfl, rfl, rfl, by decide +kernel, rfl, by decide +kernel, by decide +kernel⟩
theorem ok_str {f fS : Addr} {fd fdS : FuncData} (F : Fun K "__str__" "Thing.__str__" sStr f fd) (T : Txt K mg C) (AS : At K mg "signs" sSigns ["thing"] fS fdS) : FnOk P w K mg base CX0 2 f fd ["self"] (spStr C) := by
  have GS : FnOk P w K mg base CX0 1 fS fdS ["thing"] (spSigns C) := ok_signs AS.F T
  refine F.ok scSt (fun vs H Q E h => ?_) (fun cdv A outer s H vs Q E hr h => ?_)
  · obtain ⟨a, t, rfl, _⟩ := h
    rfl
  · obtain ⟨a, t, rfl, ha, hz, k⟩ := h
    refine ⟨_, pss_one (ps_ret (pe_join pe_str (pe_call GS hr rfl AS.mgf AS.F.kp AS.b .nil pass0 (pa_cons (pv 0) pa_nil)))), ?_⟩
    refine ⟨⟨_, rfl⟩, _, rfl, a, t, rfl, ha, hz, fun p H' s1 np hp => ?_⟩
    refine ⟨_, p, t.codes.map (fun c => (⟨#[c]⟩ : Str)), rfl, rfl, .inl (SqL.of (by rw [hp, List.map_map]; rfl)), ?_, ?_⟩
    · rw [sum_signs, Tr.codes_len, List.length_map, Tr.codes_len]
      show 3 * t.size + 1 + (3 * t.size + 1) * 0 ≤ 16777216
      omega
    · show Q (.str (PySem.Txt.join ("" : Str) (t.codes.map fun c => (⟨#[c]⟩ : Str)))) H'
      rw [join_signs]
      exact k H' s1
end
end Js

set_option Elab.async false
set_option linter.all false
set_option maxRecDepth 100000
set_option maxHeartbeats 2000000
namespace Js
open PySem L2
/-- how a Thing is made -/
structure Maker (P : Program) (w : World) (K : PySem.W.Frag) (mg : Str → Option Value) (base : Heap) (C fI : Addr) (fdI : FuncData) : Prop where
  M : Mk K C fI
  G : FnOk P w K mg base CX0 2 fI fdI ["self", "first", "second"] (spInit C)
  mgC : mg "Thing" = some (.ref C)
  b2 : Binds K fdI ["self", "first", "second"] []
  b0 : ∃ ds, Vals [V.non, V.non] ds ∧ Binds K fdI ["self", "first", "second"] ds
/-- Thing(x, y) -/
def tT (C : Addr) (t : TA) : TE := fun σ H Q => t σ H fun vs H1 => ∃ a b t u, vs = [.ref a, .ref b] ∧ Th C H1 a t ∧ Th C H1 b u ∧ 1 + t.size + u.size ≤ 4000 ∧ ∀ z H', Same H1 H' → H1 z = none → Th C H' z (.pr t u) → Q (.ref z) H'
/-- Thing() -/
def tT0 (C : Addr) : TE := fun _ H Q => ∀ z H', Same H H' → H z = none → Th C H' z .nil → Q (.ref z) H'
section
open PyProof.Rows
variable {X : Cx} {C fI : Addr} {fdI : FuncData} {p pos : Pos} {e : Expr} {es : List Expr} {t : TA}
theorem pe_T2 (mk : Maker X.prog X.w X.K X.mg X.base C fI fdI) (hr : Room 3 X.A) (hg : Gl X "Thing") (ha : PA X (e :: es) t)
    (he : starEach (e :: es) X.env = (false, eval e X.env) :: starEach es X.env := by rfl) (hpl : (backTo pos (starEach es X.env)).any (·.1) = false := by rfl) : PE X (.Call (.Name "Thing" p) (e :: es) [] pos) (tT C t) := by
  refine ⟨fun pins s σ H Q I h => ?_⟩
  refine wpAny_Call_Name_kw (ld_glob I hg mk.mgC ?_ (by decide))
  refine PySem.W.callWith_K (h₀ := X.base) I.ok.mod.kin mk.M.kp (thn (ha.run pos pins s σ H _ I h) fun us s1 ⟨vs, H1, I1, r, q⟩ => ⟨I1.kIn, ?_⟩) he hpl
  obtain ⟨a, b, t, u, rfl, h1, h2, hz, k⟩ := q
  exact run_make mk.M mk.G hr mk.b2 .nil pass0 I1 r (mk_pr h1 h2 hz k)
theorem pe_T0 (mk : Maker X.prog X.w X.K X.mg X.base C fI fdI) (hr : Room 3 X.A) (hg : Gl X "Thing") : PE X (.Call (.Name "Thing" p) [] [] pos) (tT0 C) := by
  obtain ⟨ds, hv, hb⟩ := mk.b0
  refine ⟨fun pins s σ H Q I h => ?_⟩
  refine wpAny_Call_Name_kw (ld_glob I hg mk.mgC ?_ (by decide))
  exact PySem.W.callWith_K0 I.kIn mk.M.kp (run_make (us := []) mk.M mk.G hr hb hv pass0 I .nil (mk_nil h))
end
def ThV (C : Addr) (H : Hp) (v : V) (t : Tr) : Prop := ∃ a, v = .ref a ∧ Th C H a t
theorem ThV.kt {C : Addr} {H H' : Hp} (k : KT H H') {v : V} {t : Tr} (h : ThV C H v t) : ThV C H' v t := by
  obtain ⟨a, e, h⟩ := h
  exact ⟨a, e, h.kt k⟩
theorem ths_kt {C : Addr} {H H' : Hp} (k : KT H H') : ∀ {vs : List V} {ts : List Tr}, Paired (ThV C H) vs ts → Paired (ThV C H') vs ts
  | _, _, .nil => .nil
  | _, _, .cons h t => .cons (h.kt k) (ths_kt k t)
theorem paired_get {α β : Type} {F : α → β → Prop} : ∀ {xs : List α} {ys : List β}, Paired F xs ys → ∀ {i : Nat} {x : α}, xs[i]? = some x → ∃ y, ys[i]? = some y ∧ F x y
  | _, _, .nil, i, x, h => by simp at h
  | _, _, .cons h t, 0, x, e => by
    simp at e
    subst e
    exact ⟨_, rfl, h⟩
  | _, _, .cons h t, i + 1, x, e => by
    simp at e
    obtain ⟨y, e1, e2⟩ := paired_get t e
    exact ⟨y, by simpa using e1, e2⟩
theorem paired_snoc {α β : Type} {F : α → β → Prop} : ∀ {xs : List α} {ys : List β} {x : α} {y : β}, Paired F xs ys → F x y → Paired F (xs ++ [x]) (ys ++ [y])
  | _, _, _, _, .nil, h => .cons h .nil
  | _, _, _, _, .cons h t, h' => .cons h (paired_snoc t h')
end Js

set_option Elab.async false
set_option linter.all false
set_option maxRecDepth 100000
set_option maxHeartbeats 2000000
namespace Js
open PySem L2
abbrev sNumber : Stmt := top 15
abbrev sRow : Stmt := top 17
def num : Nat → Tr
  | 0 => .nil
  | n + 1 => .pr .nil (num n)
theorem num_size : ∀ n, (num n).size = n
  | 0 => rfl
  | n + 1 => by simp only [num, Tr.size, num_size n]; omega
def rowT : List Tr → Tr
  | [] => .nil
  | t :: r => .pr t (rowT r)
def spNumber (C : Addr) : Sp := fun vs H Q _ => ∃ n : Nat, vs = [.int (n : Nat)] ∧ n ≤ 4000 ∧ ∀ a H', Same H H' → Th C H' a (num n) → Q (.ref a) H'
def spRow (C : Addr) : Sp := fun vs H Q _ => ∃ l xs ts, vs = [.ref l] ∧ H l = some (.lst xs) ∧ Paired (ThV C H) xs ts ∧ (rowT ts).size ≤ 4000 ∧ ∀ a H', Same H H' → Th C H' a (rowT ts) → Q (.ref a) H'
theorem row_drop (ts : List Tr) (i : Nat) (t : Tr) (h : ts[i]? = some t) : rowT (ts.drop i) = .pr t (rowT (ts.drop (i + 1))) := by
  have hi := (List.getElem?_eq_some_iff.mp h).1
  have e := (List.getElem?_eq_some_iff.mp h).2
  rw [List.drop_eq_getElem_cons hi, e, rowT]
theorem row_drop_size : ∀ (ts : List Tr) (i : Nat), (rowT (ts.drop i)).size ≤ (rowT ts).size
  | [], i => by simp
  | t :: r, 0 => by simp
  | t :: r, i + 1 => by
    have := row_drop_size r i
    simp only [List.drop_succ_cons, rowT, Tr.size]
    omega
section
variable {P : Program} {w : World} {K : PySem.W.Frag} {mg : Str → Option Value} {base : Heap} {C fI : Addr} {fdI : FuncData}
theorem scN : FnScope ["n", "told", "step"] ["n"] (defScope sNumber) := ⟨rfl, rfl, rfl, by decide +kernel, rfl, by decide +kernel, by decide +kernel⟩
theorem ok_number {f : Addr} {fd : FuncData} (F : Fun K "number" "number" sNumber f fd) (T : Txt K mg C) (mk : Maker P w K mg base C fI fdI) : FnOk P w K mg base CX0 4 f fd ["n"] (spNumber C) := by
  refine F.ok scN (fun vs H Q E h => ?_) (fun cdv A outer s H vs Q E hr h => ?_)
  · obtain ⟨n, rfl, _⟩ := h
    rfl
  · obtain ⟨n, rfl, hn, k⟩ := h
    refine ⟨_, pss_cons (ps_set (i := 1) scN.nd rfl (Or.inl rfl) (pe_T0 mk hr rfl))
      (pss_cons (ps_for PassesOwn.never rfl (pi_range1 rfl T.range (pa_cons (pv 0) pa_nil)) (pg_name (i := 2) scN.nd rfl (Or.inl rfl))
        (pss_one (ps_set (i := 1) scN.nd rfl (Or.inl rfl) (pe_T2 mk hr rfl (pa_cons (pe_T0 mk hr rfl) (pa_cons (pv 1) pa_nil))))))
      (pss_one (ps_ret (pv 1)))), ?_⟩
    intro x0 H1 s1 _ h1
    refine ⟨_, rfl, _, rfl, by omega, by omega, for_range (n := ((n : Nat) : Int).toNat) (fun i σ H' => ∃ x a, σ = [some (.int (n : Nat)), some (.ref a), x] ∧ Same H H' ∧ Th C H' a (num i)) ⟨none, x0, rfl, s1, h1⟩ ?_ ?_⟩
    · rintro i σ H2 hi ⟨x, a, rfl, s2, h2⟩
      intro x1 H3 s3 _ h3
      refine ⟨_, rfl, _, _, _, _, rfl, h3, h2.same s3, ?_, fun x2 H4 s4 _ h4 => ?_⟩
      · rw [num_size]
        simp only [Tr.size]
        omega
      · exact ⟨_, x2, rfl, (s2.trans s3).trans s4, h4⟩
    · rintro σ H2 ⟨x, a, rfl, s2, h2⟩
      refine ⟨_, rfl, k a H2 s2 ?_⟩
      have e : ((n : Nat) : Int).toNat = n := by omega
      rw [e] at h2
      exact h2
theorem scR : FnScope ["things", "told", "part"] ["things"] (defScope sRow) := ⟨rfl, rfl, rfl, by decide +kernel, rfl, by decide +kernel, by decide +kernel⟩
theorem ok_row {f : Addr} {fd : FuncData} (F : Fun K "row" "row" sRow f fd) (T : Txt K mg C) (mrev : mg "reversed" = none) (mk : Maker P w K mg base C fI fdI) : FnOk P w K mg base CX0 4 f fd ["things"] (spRow C) := by
  refine F.ok scR (fun vs H Q E h => ?_) (fun cdv A outer s H vs Q E hr h => ?_)
  · obtain ⟨l, xs, ts, rfl, _⟩ := h
    rfl
  · obtain ⟨l, xs, ts, rfl, hl, hps, hz, k⟩ := h
    refine ⟨_, pss_cons (ps_set (i := 1) scR.nd rfl (Or.inl rfl) (pe_T0 mk hr rfl))
      (pss_cons (ps_for PassesOwn.never rfl (pi_reversed rfl mrev (pa_cons (pv 0) pa_nil)) (pg_name (i := 2) scR.nd rfl (Or.inl rfl))
        (pss_one (ps_set (i := 1) scR.nd rfl (Or.inl rfl) (pe_T2 mk hr rfl (pa_cons (pv 2) (pa_cons (pv 1) pa_nil))))))
      (pss_one (ps_ret (pv 1)))), ?_⟩
    have hlen := Paired.length hps
    intro x0 H1 s1 _ h1
    refine ⟨_, rfl, l, xs, rfl, SqL.of (s1 _ _ hl), for_it (walk_rev (K := K) (a := l) (xs := xs)) (fun i σ H' => ∃ x a, σ = [some (.ref l), some (.ref a), x] ∧ Same H H' ∧ Th C H' a (rowT (ts.drop (xs.length - i)))) ⟨none, x0, rfl, s1, ?_⟩ ?_ ?_ ?_⟩
    · rw [Nat.sub_zero, hlen, List.drop_length]
      exact h1
    · rintro i σ H2 _ ⟨x, a, rfl, s2, h2⟩
      exact SqL.of (s2 _ _ hl)
    · rintro i y σ H2 H3 hi ⟨x, a, rfl, s2, h2⟩ ⟨rfl, hy⟩
      obtain ⟨ty, e1, b, rfl, hb⟩ := paired_get hps hy
      have e2 := row_drop ts _ _ e1
      have e3 : xs.length - 1 - i + 1 = xs.length - i := by omega
      have e4 : xs.length - 1 - i = xs.length - (i + 1) := by omega
      have hsz := row_drop_size ts (xs.length - 1 - i)
      rw [e2, e3] at hsz
      refine ⟨_, rfl, _, rfl, _, _, _, _, rfl, hb.same s2, h2, ?_, fun x2 H4 s4 _ h4 => ?_⟩
      · simp only [Tr.size] at hsz
        omega
      · refine ⟨_, x2, rfl, s2.trans s4, ?_⟩
        rw [← e4, e2, e3]
        exact h4
    · rintro σ H2 ⟨x, a, rfl, s2, h2⟩
      rw [Nat.sub_self, List.drop_zero] at h2
      exact ⟨_, rfl, k a H2 s2 h2⟩
end
end Js

set_option Elab.async false
set_option linter.all false
set_option maxRecDepth 100000
set_option maxHeartbeats 2000000
namespace Js
open PySem L2
abbrev sBag : Stmt := top 47
abbrev sTake : Stmt := top 48
/-- which built-ins are as they were -/
structure Blt (mg : Str → Option Value) : Prop where
  len : mg "len" = none
  range : mg "range" = none
  abs : mg "abs" = none
  int : mg "int" = none
  str : mg "str" = none
  max : mg "max" = none
  min : mg "min" = none
  all : mg "all" = none
structure BagOk (H : Hp) (p : Addr) : Prop where
  ex : ∃ x0 x1 pr x3 : Int, H p = some (.lst [.int x0, .int x1, .int pr, .int x3]) ∧ 0 ≤ x0 ∧ 0 ≤ x1 ∧ x1 < 2147483648 ∧ 0 < pr ∧ pr < 2147483648
/-- all but what stands at p stays -/
def KB (p : Addr) (H H' : Hp) : Prop := ∀ a o, a ≠ p → H a = some o → H' a = some o
theorem KB.refl (p : Addr) (H : Hp) : KB p H H := fun _ _ _ h => h
theorem KB.of {p : Addr} {H H' : Hp} (s : Same H H') : KB p H H' := fun _ _ _ h => s _ _ h
theorem KB.trans {p : Addr} {H H1 H2 : Hp} (a : KB p H H1) (b : KB p H1 H2) : KB p H H2 := fun x o n h => b x o n (a x o n h)
theorem KB.set {p : Addr} {H : Hp} {o : HO} : KB p H (upd H p o) := fun x u n h => by rw [upd_ne n]; exact h
theorem KB.kt {p : Addr} {H H' : Hp} (k : KB p H H') {xs : List V} (hp : H p = some (.lst xs)) : KT H H' := fun a o h n => k a o (fun z => by subst z; exact n _ (Option.some.inj (h.symm.trans hp))) h
theorem BagOk.kt {p : Addr} {H H' : Hp} (b : BagOk H p) (k : KB p H H') : KT H H' := by
  obtain ⟨x0, x1, pr, x3, h, _⟩ := b.ex
  exact k.kt h
theorem BagOk.same {p : Addr} {H H' : Hp} (b : BagOk H p) (s : Same H H') : BagOk H' p := by
  obtain ⟨x0, x1, pr, x3, h, r⟩ := b.ex
  exact ⟨x0, x1, pr, x3, s _ _ h, r⟩
theorem BagOk.some {p : Addr} {H : Hp} (b : BagOk H p) : ∃ xs, H p = some (.lst xs) := by
  obtain ⟨x0, x1, pr, x3, h, r⟩ := b.ex
  exact ⟨_, h⟩
def spBag (K : PySem.W.Frag) : Sp := fun vs H Q _ => ∃ (a : Addr) (ns : List Int) (k : Nat), vs = [.ref a, .int (k : Nat)] ∧ SqL K H a (ns.map V.int) ∧ k < 8 ∧ ∀ p H', Same H H' → H p = none → BagOk H' p → Q (.ref p) H'
def spTake : Sp := fun vs H Q _ => ∃ (p : Addr) (m : Int), vs = [.ref p, .int m] ∧ BagOk H p ∧ 0 < m ∧ m < 1073741824 ∧ ∀ (d : Int) H', KB p H H' → BagOk H' p → 0 ≤ d → d < m → Q (.int d) H'
def primes : List V := [.int 2147483629, .int 2147483587, .int 2147483579, .int 2147483563, .int 2147483549, .int 2147483543, .int 2147483497, .int 2147483489]
theorem prime_at (k : Nat) (hk : k < 8) : ∃ pr : Int, atI primes ((k : Int) % 8) = some (.int pr) ∧ 0 < pr ∧ pr < 2147483648 := by
  have e : ((k : Int) % 8) = (k : Nat) := by omega
  rw [e]
  match k, hk with
  | 0, _ => exact ⟨_, atI_nat rfl, by decide, by decide⟩
  | 1, _ => exact ⟨_, atI_nat rfl, by decide, by decide⟩
  | 2, _ => exact ⟨_, atI_nat rfl, by decide, by decide⟩
  | 3, _ => exact ⟨_, atI_nat rfl, by decide, by decide⟩
  | 4, _ => exact ⟨_, atI_nat rfl, by decide, by decide⟩
  | 5, _ => exact ⟨_, atI_nat rfl, by decide, by decide⟩
  | 6, _ => exact ⟨_, atI_nat rfl, by decide, by decide⟩
  | 7, _ => exact ⟨_, atI_nat rfl, by decide, by decide⟩
section
variable {P : Program} {w : World} {K : PySem.W.Frag} {mg : Str → Option Value} {base : Heap} {C fI : Addr} {fdI : FuncData}
theorem scB : FnScope ["_law_script", "_law_at", "_law_cell", "_law_prime"] ["_law_script", "_law_at"] (defScope sBag) := ⟨rfl, rfl, rfl, by decide +kernel, rfl, by decide +kernel, by decide +kernel⟩
theorem ok_bag {f : Addr} {fd : FuncData} (F : Fun K "_law_bag" "_law_bag" sBag f fd) (B : Blt mg) : FnOk P w K mg base CX0 1 f fd ["_law_script", "_law_at"] (spBag K) := by
  refine F.ok scB (fun vs H Q E h => ?_) (fun cdv A outer s H vs Q E hr h => ?_)
  · obtain ⟨a, ns, k, rfl, _⟩ := h
    rfl
  · obtain ⟨a, ns, kk, rfl, hS, hk, k⟩ := h
    refine ⟨_, pss_cons (ps_set (i := 2) scB.nd rfl (Or.inl rfl) pe_int)
      (pss_cons (ps_if (pt_cmpR op_lt (pv 1) (pe_callB call_len_seq (by rfl) B.len PySem.boot_len (pa_cons (pv 0) pa_nil)) (nomark _))
        (pss_one (ps_set (i := 2) scB.nd rfl (Or.inl rfl) (pe_callB call_abs (by rfl) B.abs PyProof.Rows.boot_abs (pa_cons (pe_ix ix_list (pv 0) (pv 1) (fun _ _ => rfl)) pa_nil)))) pss_nil)
      (pss_cons (ps_set (i := 3) scB.nd rfl (Or.inl rfl) (pe_ix ix_list (pe_lst (pa_cons pe_int (pa_cons pe_int (pa_cons pe_int (pa_cons pe_int (pa_cons pe_int (pa_cons pe_int (pa_cons pe_int (pa_cons pe_int pa_nil))))))))) (pe_op op_mod (pv 1) pe_int) (fun _ _ => rfl)))
      (pss_one (ps_ret (pe_lst (pa_cons (pe_op op_mul (pv 2) (pe_callTy call_int1 (by rfl) B.int PyProof.Rows.boot_int (pa_cons (pe_cmpR op_ge (pv 2) (pe_op op_pow pe_int pe_int) (nomark _)) pa_nil)))
        (pa_cons (pe_op op_mod (pe_op op_pow (pe_op op_add (pe_op op_add (pe_op op_mod (pv 2) pe_int) (pe_op op_mul pe_int (pv 1))) pe_int) pe_int) (pv 3)) (pa_cons (pv 3) (pa_cons pe_int pa_nil))))))))), ?_⟩
    -- behind the first if
    have rest : ∀ (cell : Int), 0 ≤ cell → tSeq (tAsg (tOp (rIxL K) (tLst (tCons (tC (V.int 2147483629)) (tCons (tC (V.int 2147483587)) (tCons (tC (V.int 2147483579)) (tCons (tC (V.int 2147483563)) (tCons (tC (V.int 2147483549)) (tCons (tC (V.int 2147483543)) (tCons (tC (V.int 2147483497)) (tCons (tC (V.int 2147483489)) tNil))))))))) (tOp (rI (fun _ j => 0 < j) fun i j => .int (i % j)) (tVar 1) (tC (V.int 8)))) (gName 3))
        (tRet (tLst (tCons (tOp (rI CMul fun i j => .int (i * j)) (tVar 2) (tCB (fun xs H Q => (∃ i, xs = [.int i] ∧ Q (.int i) H) ∨ ∃ k, xs = [.bl k] ∧ Q (.int (if k then 1 else 0)) H) (tCons (tOp (rI0 fun i j => .bl (decide (j ≤ i))) (tVar 2) (tOp (rI CPow fun i j => .int (i ^ j.toNat)) (tC (.int 10)) (tC (.int 18)))) tNil)))
          (tCons (tOp (rI (fun _ j => 0 < j) fun i j => .int (i % j)) (tOp (rI CPow fun i j => .int (i ^ j.toNat)) (tOp (rI0 fun i j => .int (i + j)) (tOp (rI0 fun i j => .int (i + j)) (tOp (rI (fun _ j => 0 < j) fun i j => .int (i % j)) (tVar 2) (tC (.int 2147483647))) (tOp (rI CMul fun i j => .int (i * j)) (tC (.int 104729)) (tVar 1))) (tC (.int 7))) (tC (.int 5))) (tVar 3)) (tCons (tVar 3) (tCons (tC (.int 0)) tNil))))))
        { nx := fun _ H' => Q .non H', rt := Q } [some (.ref a), some (.int (kk : Nat)), some (.int cell), none] H := by
      intro cell hc
      refine ⟨(by show 8 ≤ sizeLine; decide), fun pl npl => ?_⟩
      obtain ⟨pr, e1, e2, e3⟩ := prime_at kk hk
      refine ⟨_, rfl, _, _, rfl, rfl, (by show (0 : Int) < 8; decide), pl, _, _, _, rfl, rfl, SqL.of upd_same, e1, ?_⟩
      refine ⟨_, rfl, _, rfl, _, _, rfl, rfl, ⟨by decide, by decide, by decide⟩, _, _, rfl, rfl, .inr ⟨_, rfl, _, _, rfl, rfl, .inr ?_, ?_⟩⟩
      · split
        · exact ⟨by decide, by decide⟩
        · exact ⟨by decide, by decide⟩
      · refine ⟨_, rfl, _, _, rfl, rfl, (by show (0 : Int) < 2147483647; decide), _, rfl, _, _, rfl, rfl, .inl ⟨by decide, by decide⟩, _, _, rfl, rfl, _, _, rfl, rfl, _, _, rfl, rfl, ⟨by decide, by decide, ?_⟩, _, rfl, _, _, rfl, rfl, e2, _, rfl, (by show 4 ≤ sizeLine; decide), fun p np => ?_⟩
        · have h1 : 0 ≤ cell % 2147483647 := Int.emod_nonneg _ (by decide)
          have h2 : cell % 2147483647 < 2147483647 := Int.emod_lt_of_pos _ (by decide)
          show (cell % 2147483647 + 104729 * (kk : Int) + 7).natAbs < 2 ^ 64
          omega
        · have hne : H p = none := (Same.new npl).free np
          refine k p _ ((Same.new npl).trans (Same.new np)) hne ⟨_, _, pr, 0, upd_same, ?_, ?_, ?_, e2, e3⟩
          · split
            · simpa using hc
            · simp
          · exact Int.emod_nonneg _ (by omega)
          · exact Int.lt_trans (Int.emod_lt_of_pos _ e2) e3
    refine ⟨_, rfl, _, rfl, a, _, rfl, .inl hS, _, _, rfl, rfl, _, rfl, ?_⟩
    refine ite2 (fun hlt => ?_) (fun _ => rest 0 (by decide))
    have hlt' : kk < ns.length := by
      have := of_decide_eq_true hlt
      rw [List.length_map] at this
      omega
    refine ⟨_, rfl, _, rfl, a, _, _, _, rfl, rfl, hS, atI_nat (v := .int ns[kk]) (by rw [List.getElem?_map, List.getElem?_eq_getElem hlt']; rfl), _, rfl, ?_⟩
    exact rest _ (by split <;> omega)
theorem scTk : FnScope ["_law_bag_here", "_law_many", "_law_digit"] ["_law_bag_here", "_law_many"] (defScope sTake) := ⟨rfl, rfl, rfl, by decide +kernel, rfl, by decide +kernel, by decide +kernel⟩
theorem ok_take {f : Addr} {fd : FuncData} (F : Fun K "_law_take" "_law_take" sTake f fd) : FnOk P w K mg base CX0 1 f fd ["_law_bag_here", "_law_many"] spTake := by
  refine F.ok scTk (fun vs H Q E h => ?_) (fun cdv A outer s H vs Q E hr h => ?_)
  · obtain ⟨p, m, rfl, _⟩ := h
    rfl
  · obtain ⟨p, m, rfl, ⟨x0, x1, pr, x3, hp, h0, h1, h1', hp0, hp1⟩, hm0, hm1, k⟩ := h
    refine ⟨_, pss_cons (ps_if (pt_cmpR op_gt (pe_ix ix_list (pv 0) pe_int (fun _ _ => rfl)) pe_int (nomark _))
        (pss_cons (ps_set (i := 2) scTk.nd rfl (Or.inl rfl) (pe_op op_mod (pe_ix ix_list (pv 0) pe_int (fun _ _ => rfl)) (pv 1)))
        (pss_cons (ps_asg (pe_op op_fdiv (pe_ix ix_list (pv 0) pe_int (fun _ _ => rfl)) (pv 1)) (pg_sub (pv 0) pe_int set_list)) (pss_one (ps_ret (pv 2))))) pss_nil)
      (pss_cons (ps_asg (pe_op op_add (pe_ix ix_list (pv 0) pe_int (fun _ _ => rfl)) pe_int) (pg_sub (pv 0) pe_int set_list))
      (pss_cons (ps_asg (pe_op op_mod (pe_op op_add (pe_op op_add (pe_op op_mul (pe_ix ix_list (pv 0) pe_int (fun _ _ => rfl)) pe_int) (pe_op op_mul pe_int (pe_ix ix_list (pv 0) pe_int (fun _ _ => rfl)))) pe_int) (pe_ix ix_list (pv 0) pe_int (fun _ _ => rfl))) (pg_sub (pv 0) pe_int set_list))
      (pss_one (ps_ret (pe_op op_mod (pe_op op_mod (pe_op op_pow (pe_op op_fdiv (pe_ix ix_list (pv 0) pe_int (fun _ _ => rfl)) pe_int) pe_int) pe_int) (pv 1)))))), ?_⟩
    refine ⟨_, rfl, p, _, _, .int x0, rfl, rfl, SqL.of hp, rfl, _, _, rfl, rfl, _, rfl, ?_⟩
    refine ite2 (fun hlt => ?_) (fun _ => ?_)
    · refine ⟨_, rfl, p, _, _, .int x0, rfl, rfl, SqL.of hp, rfl, _, rfl, _, _, rfl, rfl, hm0, ?_⟩
      refine ⟨_, rfl, p, _, _, .int x0, rfl, rfl, SqL.of hp, rfl, _, rfl, _, _, rfl, rfl, ⟨hm0, hm1⟩, _, rfl, p, _, _, 0, rfl, rfl, hp, rfl, ?_⟩
      refine ⟨_, rfl, k _ _ KB.set ⟨x0 / m, x1, pr, x3, upd_same, ?_, h1, h1', hp0, hp1⟩ ?_ ?_⟩
      · exact Int.ediv_nonneg h0 (by omega)
      · exact Int.emod_nonneg _ (by omega)
      · exact Int.emod_lt_of_pos _ hm0
    · refine ⟨_, rfl, p, _, _, .int x3, rfl, rfl, SqL.of hp, rfl, _, _, rfl, rfl, _, rfl, p, _, _, 3, rfl, rfl, hp, rfl, ?_⟩
      have hp2 : (upd H p (.lst [.int x0, .int x1, .int pr, .int (x3 + 1)])) p = some (.lst [.int x0, .int x1, .int pr, .int (x3 + 1)]) := upd_same
      refine ⟨_, rfl, p, _, _, .int x1, rfl, rfl, SqL.of hp2, rfl, _, _, rfl, rfl, .inr ⟨by decide, by decide⟩, _, rfl, p, _, _, .int (x3 + 1), rfl, rfl, SqL.of hp2, rfl, _, _, rfl, rfl, .inl ⟨by decide, by decide⟩, _, _, rfl, rfl, _, _, rfl, rfl, _, rfl, p, _, _, .int pr, rfl, rfl, SqL.of hp2, rfl, _, _, rfl, rfl, hp0, _, rfl, p, _, _, 1, rfl, rfl, hp2, rfl, ?_⟩
      have g0 : 0 ≤ (x1 * 48271 + 7919 * (x3 + 1) + 11) % pr := Int.emod_nonneg _ (by omega)
      have g1 : (x1 * 48271 + 7919 * (x3 + 1) + 11) % pr < pr := Int.emod_lt_of_pos _ hp0
      have hp3 : (upd (upd H p (.lst [.int x0, .int x1, .int pr, .int (x3 + 1)])) p (.lst [.int x0, .int ((x1 * 48271 + 7919 * (x3 + 1) + 11) % pr), .int pr, .int (x3 + 1)])) p = some (.lst [.int x0, .int ((x1 * 48271 + 7919 * (x3 + 1) + 11) % pr), .int pr, .int (x3 + 1)]) := upd_same
      refine ⟨_, rfl, p, _, _, .int ((x1 * 48271 + 7919 * (x3 + 1) + 11) % pr), rfl, rfl, SqL.of hp3, rfl, _, _, rfl, rfl, ⟨by decide, by decide⟩, _, _, rfl, rfl, ⟨by decide, by decide, ?_⟩, _, _, rfl, rfl, (by show (0 : Int) < 2147483629; decide), _, rfl, _, _, rfl, rfl, hm0, ?_⟩
      · generalize (x1 * 48271 + 7919 * (x3 + 1) + 11) % pr = y at g0 g1
        show (y / 8).natAbs < 2 ^ 64
        omega
      · refine k _ _ (KB.set.trans KB.set) ⟨x0, _, pr, x3 + 1, hp3, h0, g0, by omega, hp0, hp1⟩ ?_ ?_
        · exact Int.emod_nonneg _ (by omega)
        · exact Int.emod_lt_of_pos _ hm0
end
end Js

set_option Elab.async false
set_option linter.all false
set_option maxRecDepth 100000
set_option maxHeartbeats 2000000
namespace Js
open PySem L2
/-- a def of the top keeps its promise -/
def Def (P : Program) (w : World) (K : PySem.W.Frag) (mg : Str → Option Value) (base : Heap) (x : Str) (k : Nat) (ps : List Str) (sp : Sp) : Prop :=
  ∃ f fd, mg x = some (.ref f) ∧ PySem.W.keepIn K (.ref f) = true ∧ FnOk P w K mg base CX0 k f fd ps sp ∧ Binds K fd ps []
/-- a special method of the class -/
def Spc (P : Program) (w : World) (K : PySem.W.Frag) (mg : Str → Option Value) (base : Heap) (C : Addr) (x : Str) (k : Nat) (ps : List Str) (sp : Sp) : Prop :=
  ∃ f fd, Own K C x f ∧ FnOk P w K mg base CX0 k f fd ps sp ∧ Binds K fd ps []
/-- a method of the class -/
def Mth (P : Program) (w : World) (K : PySem.W.Frag) (mg : Str → Option Value) (base : Heap) (C : Addr) (x : Str) (k : Nat) (ps : List Str) (sp : Sp) : Prop :=
  ∃ f fd, Meth K C x f ∧ FnOk P w K mg base CX0 k f fd ps sp ∧ Binds K fd ps []
section
open PyProof.Rows
variable {X : Cx} {C : Addr} {p pos apos : Pos} {e o : Expr} {es : List Expr} {t : TA} {ta : TE} {x : Str} {k : Nat} {ps : List Str} {sp : Sp}
theorem pe_def (D : Def X.prog X.w X.K X.mg X.base x k ps sp) (hr : Room k X.A) (hg : Gl X x) (ha : PA X (e :: es) t) (hdb : (x == ("__debug__" : Str)) = false := by decide)
    (he : starEach (e :: es) X.env = (false, eval e X.env) :: starEach es X.env := by rfl) (hpl : (backTo pos (starEach es X.env)).any (·.1) = false := by rfl) : PE X (.Call (.Name x p) (e :: es) [] pos) (tCall sp [] E0 t) := by
  obtain ⟨f, fd, hm, hk, F, hb⟩ := D
  exact pe_call F hr hg hm hk hb .nil pass0 ha hdb he hpl
/-- == of things -/
def rEqT (C : Addr) : R2 := fun x y H Q => ∃ a b t u, x = .ref a ∧ y = .ref b ∧ Th C H a t ∧ Th C H b u ∧ t.size ≤ 4000 ∧ ∀ H', Same H H' → Q (.bl (decide (t = u))) H'
def rNeT (C : Addr) : R2 := fun x y H Q => ∃ a b t u, x = .ref a ∧ y = .ref b ∧ Th C H a t ∧ Th C H b u ∧ t.size ≤ 4000 ∧ ∀ H', Same H H' → Q (.bl (!decide (t = u))) H'
theorem OpR.imp {f : Value → Value → Sem Value} {r r' : R2} (h : OpR X f r) (hi : ∀ x y H Q, r' x y H Q → r x y H Q) : OpR X f r' := fun pins s σ H x y v u Q I rx ry q => h pins s σ H x y v u Q I rx ry (hi x y H Q q)
theorem CallR.imp {f : Value} {r r' : List V → Hp → VK → Prop} (h : CallR X f r) (hi : ∀ xs H Q, r' xs H Q → r xs H Q) : CallR X f r' := fun pins s σ H xs us Q I rx q => h pins s σ H xs us Q I rx (hi xs H Q q)
theorem op_eqT (S : Spc X.prog X.w X.K X.mg X.base C "__eq__" 2 ["self", "other"] (spEqT C)) (hr : Room 2 X.A) : OpR X (compareOp .Eq) (rEqT C) := by
  obtain ⟨f, fd, ow, F, hb⟩ := S
  refine OpR.imp (op_eqOwn ow F hb hr (pass0)) fun x y H Q h => ?_
  obtain ⟨a, b, t, u, rfl, rfl, ha, hb', hz, q⟩ := h
  obtain ⟨dx, f1, g1, h1⟩ := ha.obj
  obtain ⟨dy, f2, g2, h2⟩ := hb'.obj
  exact ⟨a, dx, _, b, dy, _, rfl, rfl, h1, h2, a, b, t, u, rfl, ha, hb', hz, fun H' s => ⟨_, rfl, q H' s⟩⟩
theorem op_neT (S : Spc X.prog X.w X.K X.mg X.base C "__eq__" 2 ["self", "other"] (spEqT C)) (T : Txt X.K X.mg C) (hr : Room 3 X.A) : OpR X (compareOp .NotEq) (rNeT C) := by
  obtain ⟨f, fd, ow, F, hb⟩ := S
  refine OpR.imp (op_neOwn ow ⟨T.ne, T.cm⟩ F hb hr (pass0)) fun x y H Q h => ?_
  obtain ⟨a, b, t, u, rfl, rfl, ha, hb', hz, q⟩ := h
  obtain ⟨dx, f1, g1, h1⟩ := ha.obj
  obtain ⟨dy, f2, g2, h2⟩ := hb'.obj
  exact ⟨a, dx, _, b, dy, _, rfl, rfl, h1, h2, a, b, t, u, rfl, ha, hb', hz, fun H' s => ⟨_, rfl, q H' s⟩⟩
theorem call_lenT (S : Spc X.prog X.w X.K X.mg X.base C "__len__" 1 ["self"] (spLen C)) (hr : Room 2 X.A) : CallR X (.builtin "len") (fun xs H Q => ∃ a t, xs = [.ref a] ∧ Th C H a t ∧ t.size ≤ 4000 ∧ Q (.int (t.size : Nat)) H) := by
  obtain ⟨f, fd, ow, F, hb⟩ := S
  refine CallR.imp (call_lenOwn ow F hb hr (pass0)) fun xs H Q h => ?_
  obtain ⟨a, t, rfl, ha, hz, q⟩ := h
  obtain ⟨dx, f1, g1, h1⟩ := ha.obj
  exact ⟨a, dx, _, rfl, h1, a, t, rfl, ha, hz, _, rfl, by omega, q⟩
theorem call_strT (S : Spc X.prog X.w X.K X.mg X.base C "__str__" 2 ["self"] (spStr C)) (hr : Room 4 X.A) : CallR X (.type "str") (fun xs H Q => ∃ a t, xs = [.ref a] ∧ Th C H a t ∧ t.size ≤ 4000 ∧ ∀ H', Same H H' → Q (.str t.text) H') := by
  obtain ⟨f, fd, ow, F, hb⟩ := S
  refine CallR.imp (call_strOwn ow F hb hr (pass0)) fun xs H Q h => ?_
  obtain ⟨a, t, rfl, ha, hz, q⟩ := h
  obtain ⟨dx, f1, g1, h1⟩ := ha.obj
  exact ⟨a, dx, _, rfl, h1, a, t, rfl, ha, hz, fun H' s => ⟨_, rfl, q H' s⟩⟩
/-- a thing in a list of things -/
def rInTh (C : Addr) : R2 := fun x y H Q => ∃ b u p xs ts, x = .ref b ∧ Th C H b u ∧ y = .ref p ∧ H p = some (.lst xs) ∧ Paired (ThV C H) xs ts ∧ (∀ t ∈ ts, t.size ≤ 4000) ∧ ∀ H', Same H H' → Q (.bl (ts.any fun t => decide (t = u))) H'
def DTh (C : Addr) : Tells := fun x y r H => ∃ a b t u, x = .ref a ∧ y = .ref b ∧ Th C H a t ∧ Th C H b u ∧ t.size ≤ 4000 ∧ r = decide (t = u)
theorem op_inTh (S : Spc X.prog X.w X.K X.mg X.base C "__eq__" 2 ["self", "other"] (spEqT C)) (hr : Room 3 X.A) : OpR X (compareOp .In) (rInTh C) := by
  obtain ⟨f, fd, ow, F, hb⟩ := S
  have ET : EqT X 2 (DTh C) := eqT_own ow F hb (pass0) fun x y r H d => by
    obtain ⟨a, b, t, u, rfl, rfl, ha, hb', hz, rfl⟩ := d
    obtain ⟨dx, f1, g1, h1⟩ := ha.obj
    obtain ⟨dy, f2, g2, h2⟩ := hb'.obj
    refine ⟨a, b, dx, dy, _, _, rfl, rfl, h1, h2, fun e => ?_, a, b, t, u, rfl, ha, hb', hz, fun H' s => ⟨_, rfl, rfl, s⟩⟩
    subst e
    exact decide_eq_true (ha.inj hb')
  refine OpR.imp (op_inT ET (fun x y r H H' s d => ?_) hr) fun x y H Q h => ?_
  · obtain ⟨a, b, t, u, e1, e2, ha, hb', hz, e3⟩ := d
    exact ⟨a, b, t, u, e1, e2, ha.same s, hb'.same s, hz, e3⟩
  · obtain ⟨b, u, p, xs, ts, rfl, hb', rfl, hp, hps, hz, q⟩ := h
    refine ⟨p, xs, ts.map fun t => decide (t = u), rfl, hp, by rw [List.length_map]; exact (Paired.length hps).symm, fun i z r h1 h2 => ?_, fun H' s => ?_⟩
    · obtain ⟨ty, e1, a, rfl, ha⟩ := paired_get hps h1
      rw [List.getElem?_map, e1] at h2
      exact ⟨a, b, ty, u, rfl, rfl, ha, hb', hz ty (List.mem_of_getElem? e1), (Option.some.inj h2).symm⟩
    · have := q H' s
      rw [List.any_map]
      exact this
theorem pe_mth {pl : Sem Bool} (M : Mth X.prog X.w X.K X.mg X.base C x k ps sp) (T : Txt X.K X.mg C) (hr : Room k X.A) (he : PE X o ta)
    (ht : eval (.Call (.Attribute o x apos) [] [] pos) X.env = (do
      let ov ← eval o X.env
      standAt apos.atName
      let (f, first) ← holding [ov] (getMethod ov x pl)
      callWith pos f first (backTo pos (starEach [] X.env)) (backToKw pos (keywordEach [] X.env))) := by rfl) :
    PE X (.Call (.Attribute o x apos) [] [] pos) (tMeth C x sp [] E0 ta tNil) := by
  obtain ⟨f, fd, hm, F, hb⟩ := M
  exact pe_meth0 he T.cl hm F hr hb .nil pass0 ht
end
/-- what the law's defs lean on -/
structure Lib (P : Program) (w : World) (K : PySem.W.Frag) (mg : Str → Option Value) (base : Heap) (C fI : Addr) (fdI : FuncData) : Prop where
  T : Txt K mg C
  B : Blt mg
  made : Maker P w K mg base C fI fdI
  eq : Spc P w K mg base C "__eq__" 2 ["self", "other"] (spEqT C)
  str : Spc P w K mg base C "__str__" 2 ["self"] (spStr C)
  len : Spc P w K mg base C "__len__" 1 ["self"] (spLen C)
  bag : Def P w K mg base "_law_bag" 1 ["_law_script", "_law_at"] (spBag K)
  take : Def P w K mg base "_law_take" 1 ["_law_bag_here", "_law_many"] spTake
theorem n_hd1 : ¬ (("head" : Str) = "size") := by decide +kernel
theorem n_hd2 : ¬ (("head" : Str) = "second") := by decide +kernel
theorem n_hd3 : ¬ (("head" : Str) = "first") := by decide +kernel
theorem n_tl1 : ¬ (("tail" : Str) = "size") := by decide +kernel
theorem n_tl2 : ¬ (("tail" : Str) = "second") := by decide +kernel
theorem n_tl3 : ¬ (("tail" : Str) = "first") := by decide +kernel
theorem tf_head (f s : V) (n : Int) : (tf f s n).lookup ("head" : Str) = none := tf_no f s n n_hd1 n_hd2 n_hd3
theorem tf_tail (f s : V) (n : Int) : (tf f s n).lookup ("tail" : Str) = none := tf_no f s n n_tl1 n_tl2 n_tl3
end Js

set_option Elab.async false
set_option linter.all false
set_option maxRecDepth 100000
set_option maxHeartbeats 2000000
/-! == and != of lists and of tuples whose items have an own ==: what comes of them, alike or not -/
namespace JsQ
open PySem PySem.SeqAt
open AutoSeq1 (wpAny_loadPart')
open MeetsSeq MeetsSeq2 MeetsSeq3 SeqRoads2
section
variable {prog : Program} {w : World} {A : Around} {R : Result → Shared → Prop}
def TwoL (l b : Addr) (N : Nat) (us vs : Array Value) (s : Shared) : Prop := (∃ n, s.heap.get? l = some { cls := .type "list", data := .seq us n }) ∧ (∃ m, s.heap.get? b = some { cls := .type "list", data := .seq vs m }) ∧ us.size = N ∧ vs.size = N
/-- two lists of N items: J i behind i that are alike, F i where the next two are unlike -/
structure Goes (prog : Program) (w : World) (A : Around) (X : Value → Shared → Prop) (l b : Addr) (N : Nat) (J Fa : Nat → Shared → Prop) : Prop where
  turn : ∀ i s, J i s → ∃ us vs : Array Value, TwoL l b N us vs s ∧ ∀ (h1 : i < us.size) (h2 : i < vs.size), wpAny (model prog w) A.in1 (eqBool us[i] vs[i]) (fun r s' => if r = true then J (i + 1) s' else Fa i s') X s
  stay : ∀ i s, Fa i s → ∃ us vs : Array Value, TwoL l b N us vs s

theorem loop_eq (l b : Addr) (N : Nat) (J Fa : Nat → Shared → Prop) (g : Goes prog w A (fun e s' => R (.error e) s') l b N J Fa) (fin : ∀ s, J N s → R (.ok (.ret (.bool true))) s) (brk : ∀ i s, Fa i s → R (.ok (.ret (.bool false))) s) (k : Nat) :
    ∀ i : Nat, N - i = k → i ≤ N → ∀ s, J i s → wpAny (model prog w) A.in1 (Builtin.«list.__eq__.loop» ⟨[.ref l, .ref b, rawInt i, rawInt 2], []⟩) (GQ.FinOf prog w A R) (fun e s' => R (.error e) s') s := by
  induction k with
  | zero =>
    intro i hk hi s h
    obtain ⟨us, vs, ⟨⟨n, c1⟩, ⟨m, c2⟩, z1, z2⟩, _⟩ := g.turn _ _ h
    have ei : i = N := by omega
    have hR : R (.ok (.ret (.bool true))) s := fin s (ei ▸ h)
    obtain ⟨hp, gg, d, tk, os⟩ := s
    wp_walk using wpAny_loadPart' c1, wpAny_loadPart' c2
    have q1 : us[((i : Nat) : Int).toNat]? = none := by simp; omega
    have q2 : vs[((i : Nat) : Int).toNat]? = none := by simp; omega
    rw [q1, q2]
    wp_walk using wpAny_loadPart' c1, wpAny_loadPart' c2
    first
    | (show R (.ok (.ret (.bool (us.size == vs.size)))) _; rw [z1, z2]; simpa using hR)
    | (show R (.ok (.ret (.bool (us.size != vs.size)))) _; rw [z1, z2]; simpa using hR)
  | succ k ih =>
    intro i hk hi s h
    obtain ⟨us, vs, ⟨⟨n, c1⟩, ⟨m, c2⟩, z1, z2⟩, turn⟩ := g.turn _ _ h
    have l1 : i < us.size := by omega
    have l2 : i < vs.size := by omega
    have ht := turn l1 l2
    obtain ⟨hp, gg, d, tk, os⟩ := s
    wp_walk using wpAny_loadPart' c1, wpAny_loadPart' c2
    have q1 : us[((i : Nat) : Int).toNat]? = some us[i] := by simp [l1]
    have q2 : vs[((i : Nat) : Int).toNat]? = some vs[i] := by simp [l2]
    have ec : ((i : Int) + 1) = ((i + 1 : Nat) : Int) := by omega
    rw [q1, q2]
    refine wpAny_bind (wpAny_mono ht (fun r s2 h2 => ?_) fun _ _ x => x)
    cases r with
    | true =>
      rw [if_pos rfl] at h2
      have again := ih (i + 1) (by omega) (by omega) s2 h2
      obtain ⟨hp2, g2, d2, tk2, os2⟩ := s2
      wp_walk
      rw [ec]
      exact ⟨plainId_quiet plain_eq_loop _, codeAny_builtin entry_eq_loop (by rw [Around.under_plainId plain_eq_loop _]; exact again)⟩
    | false =>
      rw [if_neg Bool.false_ne_true] at h2
      obtain ⟨us', vs', ⟨n', c1'⟩, ⟨m', c2'⟩, z1', z2'⟩ := g.stay _ _ h2
      have hR := brk i s2 h2
      obtain ⟨hp2, g2, d2, tk2, os2⟩ := s2
      have p1 : us'[((i : Nat) : Int).toNat]? = some (us'[i]'(by omega)) := by first | (simp; done) | (simp; omega)
      have p2 : vs'[((i : Nat) : Int).toNat]? = some (vs'[i]'(by omega)) := by first | (simp; done) | (simp; omega)
      wp_walk using wpAny_loadPart' c1', wpAny_loadPart' c2'
      first
      | exact hR
      | (rw [p1, p2]; wp_walk; simpa using hR)
theorem list_eq (l b : Addr) (N : Nat) (J Fa : Nat → Shared → Prop) (g : Goes prog w A (fun e s' => R (.error e) s') l b N J Fa) (fin : ∀ s, J N s → R (.ok (.ret (.bool true))) s) (brk : ∀ i s, Fa i s → R (.ok (.ret (.bool false))) s) {s : Shared} (h : J 0 s) :
    wpAny (model prog w) A.in1 (Builtin.«list.__eq__» ⟨[.ref l, .ref b], []⟩) (GQ.FinOf prog w A R) (fun e s' => R (.error e) s') s := by
  obtain ⟨us, vs, ⟨⟨n, c1⟩, ⟨m, c2⟩, z1, z2⟩, _⟩ := g.turn _ _ h
  have go := loop_eq (A := A) (R := R) l b N J Fa g fin brk _ 0 rfl (Nat.zero_le _) s h
  obtain ⟨hp, gg, d, tk, os⟩ := s
  have f3 := AutoSeq1.sub_list_list
  have ne : ¬ (us.size != vs.size) = true := by simp [z1, z2]
  wp_walk using wpAny_loadPart' c1, wpAny_loadPart' c2
  exact ⟨plainId_quiet plain_eq_loop _, codeAny_builtin entry_eq_loop (by rw [Around.under_plainId plain_eq_loop _]; exact go)⟩
theorem far_eq (l b : Addr) (us vs : Array Value) (n m : Nat) (hz : (us.size != vs.size) = true) {s : Shared} (c1 : s.heap.get? l = some { cls := .type "list", data := .seq us n }) (c2 : s.heap.get? b = some { cls := .type "list", data := .seq vs m }) (h : R (.ok (.ret (.bool false))) s) :
    wpAny (model prog w) A.in1 (Builtin.«list.__eq__» ⟨[.ref l, .ref b], []⟩) (GQ.FinOf prog w A R) (fun e s' => R (.error e) s') s := by
  obtain ⟨hp, gg, d, tk, os⟩ := s
  have f3 := AutoSeq1.sub_list_list
  wp_walk using wpAny_loadPart' c1, wpAny_loadPart' c2
  exact h
theorem tup_eq (l b : Addr) (us vs : Array Value) (n m : Nat) (dd dd2 : Option Addr) (sl sl2 : Array (Option Value)) (J Fa : Nat → Shared → Prop)
    (turn : ∀ i (h1 : i < us.size) (h2 : i < vs.size) s, J i s → wpAny (model prog w) A.in1 (eqBool us[i] vs[i]) (fun r s' => if r = true then J (i + 1) s' else Fa i s') (fun e s' => R (.error e) s') s)
    (fin : ∀ s, J (min us.size vs.size) s → R (.ok (.ret (.bool (if us.size = vs.size then true else false)))) s) (brk : ∀ i s, Fa i s → R (.ok (.ret (.bool false))) s) {s : Shared} (c1 : s.heap.get? l = some { cls := .type "tuple", dict := dd, data := .seq us n, slots := sl })
    (c2 : s.heap.get? b = some { cls := .type "tuple", dict := dd2, data := .seq vs m, slots := sl2 }) (h : J 0 s) :
    wpAny (model prog w) A.in1 (Builtin.«tuple.__eq__» ⟨[.ref l, .ref b], []⟩) (GQ.FinOf prog w A R) (fun e s' => R (.error e) s') s := by
  have f2 := AutoSeq1.sub_tuple_tuple
  have zip_len : (us.toList.zip vs.toList).length = min us.size vs.size := by simp
  have h0 := h
  obtain ⟨hp, gg, d, tk, os⟩ := s
  wp_walk using wpAny_loadPart' c1, wpAny_loadPart' c2, wpAny_forIn_list _ (fun rest b s' => b.1 = none ∧ ∃ i, rest = (us.toList.zip vs.toList).drop i ∧ i ≤ min us.size vs.size ∧ J i s') _
  case turn =>
    rintro ⟨y, x⟩ rest b s' ⟨hb', i, hz, hi, hI⟩
    have lt : i < (us.toList.zip vs.toList).length := by
      rcases Nat.lt_or_ge i (us.toList.zip vs.toList).length with q | q
      · exact q
      · rw [List.drop_of_length_le q] at hz; cases hz
    have h1 : i < us.size := by omega
    have h2 : i < vs.size := by omega
    rw [List.drop_eq_getElem_cons lt] at hz
    injection hz with eyx er
    have ey : y = us[i] := by have := congrArg Prod.fst eyx; simpa using this
    have ex : x = vs[i] := by have := congrArg Prod.snd eyx; simpa using this
    subst ey ex
    refine wpAny_bind (wpAny_mono (turn i h1 h2 s' hI) (fun r s2 q2 => ?_) fun _ _ x => x)
    cases r with
    | true =>
      rw [if_pos rfl] at q2
      wp_walk
      exact ⟨rfl, i + 1, er, by omega, q2⟩
    | false =>
      rw [if_neg Bool.false_ne_true] at q2
      have hR := brk i s2 q2
      wp_walk
      first
      | exact ⟨_, rfl, hR⟩
      | exact hR
      | simpa using hR
  case fin =>
    rintro ⟨b1, b2⟩ s' ⟨hb', i, hz, hi, hI⟩
    simp only at hb'
    subst hb'
    have ge : min us.size vs.size ≤ i := by
      rcases Nat.lt_or_ge i (us.toList.zip vs.toList).length with q | q
      · rw [List.drop_eq_getElem_cons q] at hz; cases hz
      · exact zip_len ▸ q
    have ei : i = min us.size vs.size := by omega
    have hR := fin s' (ei ▸ hI)
    wp_walk
    by_cases hs : us.size = vs.size
    · rw [if_pos hs] at hR
      first
      | exact ⟨_, rfl, by simpa [Builtin.Tuple.tupleCompareSizes, bne, hs] using hR⟩
      | simpa [Builtin.Tuple.tupleCompareSizes, bne, hs] using hR
    · rw [if_neg hs] at hR
      have hs' : (us.size == vs.size) = false := beq_eq_false_iff_ne.mpr hs
      first
      | exact ⟨_, rfl, by simpa [Builtin.Tuple.tupleCompareSizes, bne, hs'] using hR⟩
      | (simp only [Builtin.Tuple.tupleCompareSizes, bne, hs']; exact hR)
  case h =>
    exact ⟨rfl, 0, rfl, Nat.zero_le _, h0⟩

theorem loop_ne (l b : Addr) (N : Nat) (J Fa : Nat → Shared → Prop) (g : Goes prog w A (fun e s' => R (.error e) s') l b N J Fa) (fin : ∀ s, J N s → R (.ok (.ret (.bool false))) s) (brk : ∀ i s, Fa i s → R (.ok (.ret (.bool true))) s) (k : Nat) :
    ∀ i : Nat, N - i = k → i ≤ N → ∀ s, J i s → wpAny (model prog w) A.in1 (Builtin.«list.__eq__.loop» ⟨[.ref l, .ref b, rawInt i, rawInt 3], []⟩) (GQ.FinOf prog w A R) (fun e s' => R (.error e) s') s := by
  induction k with
  | zero =>
    intro i hk hi s h
    obtain ⟨us, vs, ⟨⟨n, c1⟩, ⟨m, c2⟩, z1, z2⟩, _⟩ := g.turn _ _ h
    have ei : i = N := by omega
    have hR : R (.ok (.ret (.bool false))) s := fin s (ei ▸ h)
    obtain ⟨hp, gg, d, tk, os⟩ := s
    wp_walk using wpAny_loadPart' c1, wpAny_loadPart' c2
    have q1 : us[((i : Nat) : Int).toNat]? = none := by simp; omega
    have q2 : vs[((i : Nat) : Int).toNat]? = none := by simp; omega
    rw [q1, q2]
    wp_walk using wpAny_loadPart' c1, wpAny_loadPart' c2
    first
    | (show R (.ok (.ret (.bool (us.size == vs.size)))) _; rw [z1, z2]; simpa using hR)
    | (show R (.ok (.ret (.bool (us.size != vs.size)))) _; rw [z1, z2]; simpa using hR)
  | succ k ih =>
    intro i hk hi s h
    obtain ⟨us, vs, ⟨⟨n, c1⟩, ⟨m, c2⟩, z1, z2⟩, turn⟩ := g.turn _ _ h
    have l1 : i < us.size := by omega
    have l2 : i < vs.size := by omega
    have ht := turn l1 l2
    obtain ⟨hp, gg, d, tk, os⟩ := s
    wp_walk using wpAny_loadPart' c1, wpAny_loadPart' c2
    have q1 : us[((i : Nat) : Int).toNat]? = some us[i] := by simp [l1]
    have q2 : vs[((i : Nat) : Int).toNat]? = some vs[i] := by simp [l2]
    have ec : ((i : Int) + 1) = ((i + 1 : Nat) : Int) := by omega
    rw [q1, q2]
    refine wpAny_bind (wpAny_mono ht (fun r s2 h2 => ?_) fun _ _ x => x)
    cases r with
    | true =>
      rw [if_pos rfl] at h2
      have again := ih (i + 1) (by omega) (by omega) s2 h2
      obtain ⟨hp2, g2, d2, tk2, os2⟩ := s2
      wp_walk
      rw [ec]
      exact ⟨plainId_quiet plain_eq_loop _, codeAny_builtin entry_eq_loop (by rw [Around.under_plainId plain_eq_loop _]; exact again)⟩
    | false =>
      rw [if_neg Bool.false_ne_true] at h2
      obtain ⟨us', vs', ⟨n', c1'⟩, ⟨m', c2'⟩, z1', z2'⟩ := g.stay _ _ h2
      have hR := brk i s2 h2
      obtain ⟨hp2, g2, d2, tk2, os2⟩ := s2
      have p1 : us'[((i : Nat) : Int).toNat]? = some (us'[i]'(by omega)) := by first | (simp; done) | (simp; omega)
      have p2 : vs'[((i : Nat) : Int).toNat]? = some (vs'[i]'(by omega)) := by first | (simp; done) | (simp; omega)
      wp_walk using wpAny_loadPart' c1', wpAny_loadPart' c2'
      first
      | exact hR
      | (rw [p1, p2]; wp_walk; simpa using hR)
theorem list_ne (l b : Addr) (N : Nat) (J Fa : Nat → Shared → Prop) (g : Goes prog w A (fun e s' => R (.error e) s') l b N J Fa) (fin : ∀ s, J N s → R (.ok (.ret (.bool false))) s) (brk : ∀ i s, Fa i s → R (.ok (.ret (.bool true))) s) {s : Shared} (h : J 0 s) :
    wpAny (model prog w) A.in1 (Builtin.«list.__ne__» ⟨[.ref l, .ref b], []⟩) (GQ.FinOf prog w A R) (fun e s' => R (.error e) s') s := by
  obtain ⟨us, vs, ⟨⟨n, c1⟩, ⟨m, c2⟩, z1, z2⟩, _⟩ := g.turn _ _ h
  have go := loop_ne (A := A) (R := R) l b N J Fa g fin brk _ 0 rfl (Nat.zero_le _) s h
  obtain ⟨hp, gg, d, tk, os⟩ := s
  have f3 := AutoSeq1.sub_list_list
  have ne : ¬ (us.size != vs.size) = true := by simp [z1, z2]
  wp_walk using wpAny_loadPart' c1, wpAny_loadPart' c2
  exact ⟨plainId_quiet plain_eq_loop _, codeAny_builtin entry_eq_loop (by rw [Around.under_plainId plain_eq_loop _]; exact go)⟩
theorem far_ne (l b : Addr) (us vs : Array Value) (n m : Nat) (hz : (us.size != vs.size) = true) {s : Shared} (c1 : s.heap.get? l = some { cls := .type "list", data := .seq us n }) (c2 : s.heap.get? b = some { cls := .type "list", data := .seq vs m }) (h : R (.ok (.ret (.bool true))) s) :
    wpAny (model prog w) A.in1 (Builtin.«list.__ne__» ⟨[.ref l, .ref b], []⟩) (GQ.FinOf prog w A R) (fun e s' => R (.error e) s') s := by
  obtain ⟨hp, gg, d, tk, os⟩ := s
  have f3 := AutoSeq1.sub_list_list
  wp_walk using wpAny_loadPart' c1, wpAny_loadPart' c2
  exact h
theorem tup_ne (l b : Addr) (us vs : Array Value) (n m : Nat) (dd dd2 : Option Addr) (sl sl2 : Array (Option Value)) (J Fa : Nat → Shared → Prop)
    (turn : ∀ i (h1 : i < us.size) (h2 : i < vs.size) s, J i s → wpAny (model prog w) A.in1 (eqBool us[i] vs[i]) (fun r s' => if r = true then J (i + 1) s' else Fa i s') (fun e s' => R (.error e) s') s)
    (fin : ∀ s, J (min us.size vs.size) s → R (.ok (.ret (.bool (if us.size = vs.size then false else true)))) s) (brk : ∀ i s, Fa i s → R (.ok (.ret (.bool true))) s) {s : Shared} (c1 : s.heap.get? l = some { cls := .type "tuple", dict := dd, data := .seq us n, slots := sl })
    (c2 : s.heap.get? b = some { cls := .type "tuple", dict := dd2, data := .seq vs m, slots := sl2 }) (h : J 0 s) :
    wpAny (model prog w) A.in1 (Builtin.«tuple.__ne__» ⟨[.ref l, .ref b], []⟩) (GQ.FinOf prog w A R) (fun e s' => R (.error e) s') s := by
  have f2 := AutoSeq1.sub_tuple_tuple
  have zip_len : (us.toList.zip vs.toList).length = min us.size vs.size := by simp
  have h0 := h
  obtain ⟨hp, gg, d, tk, os⟩ := s
  wp_walk using wpAny_loadPart' c1, wpAny_loadPart' c2, wpAny_forIn_list _ (fun rest b s' => b.1 = none ∧ ∃ i, rest = (us.toList.zip vs.toList).drop i ∧ i ≤ min us.size vs.size ∧ J i s') _
  case turn =>
    rintro ⟨y, x⟩ rest b s' ⟨hb', i, hz, hi, hI⟩
    have lt : i < (us.toList.zip vs.toList).length := by
      rcases Nat.lt_or_ge i (us.toList.zip vs.toList).length with q | q
      · exact q
      · rw [List.drop_of_length_le q] at hz; cases hz
    have h1 : i < us.size := by omega
    have h2 : i < vs.size := by omega
    rw [List.drop_eq_getElem_cons lt] at hz
    injection hz with eyx er
    have ey : y = us[i] := by have := congrArg Prod.fst eyx; simpa using this
    have ex : x = vs[i] := by have := congrArg Prod.snd eyx; simpa using this
    subst ey ex
    refine wpAny_bind (wpAny_mono (turn i h1 h2 s' hI) (fun r s2 q2 => ?_) fun _ _ x => x)
    cases r with
    | true =>
      rw [if_pos rfl] at q2
      wp_walk
      exact ⟨rfl, i + 1, er, by omega, q2⟩
    | false =>
      rw [if_neg Bool.false_ne_true] at q2
      have hR := brk i s2 q2
      wp_walk
      first
      | exact ⟨_, rfl, hR⟩
      | exact hR
      | simpa using hR
  case fin =>
    rintro ⟨b1, b2⟩ s' ⟨hb', i, hz, hi, hI⟩
    simp only at hb'
    subst hb'
    have ge : min us.size vs.size ≤ i := by
      rcases Nat.lt_or_ge i (us.toList.zip vs.toList).length with q | q
      · rw [List.drop_eq_getElem_cons q] at hz; cases hz
      · exact zip_len ▸ q
    have ei : i = min us.size vs.size := by omega
    have hR := fin s' (ei ▸ hI)
    wp_walk
    by_cases hs : us.size = vs.size
    · rw [if_pos hs] at hR
      first
      | exact ⟨_, rfl, by simpa [Builtin.Tuple.tupleCompareSizes, bne, hs] using hR⟩
      | simpa [Builtin.Tuple.tupleCompareSizes, bne, hs] using hR
    · rw [if_neg hs] at hR
      have hs' : (us.size == vs.size) = false := beq_eq_false_iff_ne.mpr hs
      first
      | exact ⟨_, rfl, by simpa [Builtin.Tuple.tupleCompareSizes, bne, hs'] using hR⟩
      | (simp only [Builtin.Tuple.tupleCompareSizes, bne, hs']; exact hR)
  case h =>
    exact ⟨rfl, 0, rfl, Nat.zero_le _, h0⟩
end
section
variable {prog : Program} {w : World} {A : Around} {E : Value → Shared → Prop} {s : Shared}

theorem rc_list_eq {l b : Addr} {N : Nat} {Q : Value → Shared → Prop} (hu : A.units < cLine) (J Fa : Nat → Shared → Prop) (g : Goes prog w A E l b N J Fa) (fin : ∀ s, J N s → Q (.bool true) s) (brk : ∀ i s, Fa i s → Q (.bool false) s) (h : J 0 s) : wpAny (model prog w) A (richCompare .Eq (.ref l) (.ref b)) Q E s := by
  obtain ⟨us, vs, ⟨⟨n, c1⟩, ⟨m, c2⟩, _, _⟩, _⟩ := g.turn _ _ h
  refine wpAny_richCompare_same_room (op := .Eq) ⟨_, c1, rfl⟩ ⟨_, c2, rfl⟩ PySem.F.slot_list_eq (GQ.call_here PySem.F.slot_list_eq ⟨_, c1, rfl⟩ PySem.F.entry_list_eq (PySem.F.args_list_eq_2 _ _) ?_) hu
  exact list_eq (R := wants (fun v s' => v ≠ .notImplemented ∧ Q v s') E) l b N J Fa g (fun s' q => ⟨(fun x => nomatch x), fin s' q⟩) (fun i s' q => ⟨(fun x => nomatch x), brk i s' q⟩) h
theorem rc_far_eq {l b : Addr} {us vs : Array Value} {n m : Nat} {Q : Value → Shared → Prop} (hu : A.units < cLine) (hz : (us.size != vs.size) = true) (c1 : s.heap.get? l = some { cls := .type "list", data := .seq us n }) (c2 : s.heap.get? b = some { cls := .type "list", data := .seq vs m }) (h : Q (.bool false) s) : wpAny (model prog w) A (richCompare .Eq (.ref l) (.ref b)) Q E s := by
  refine wpAny_richCompare_same_room (op := .Eq) ⟨_, c1, rfl⟩ ⟨_, c2, rfl⟩ PySem.F.slot_list_eq (GQ.call_here PySem.F.slot_list_eq ⟨_, c1, rfl⟩ PySem.F.entry_list_eq (PySem.F.args_list_eq_2 _ _) ?_) hu
  exact far_eq (R := wants (fun v s' => v ≠ .notImplemented ∧ Q v s') E) l b us vs n m hz c1 c2 ⟨(fun x => nomatch x), h⟩
theorem rc_tup_eq {l b : Addr} {us vs : Array Value} {Q : Value → Shared → Prop} (hu : A.units < cLine) (J Fa : Nat → Shared → Prop) (hl : s.heap.IsTuple l us) (hb : s.heap.IsTuple b vs)
    (turn : ∀ i (h1 : i < us.size) (h2 : i < vs.size) s, J i s → wpAny (model prog w) A.in1 (eqBool us[i] vs[i]) (fun r s' => if r = true then J (i + 1) s' else Fa i s') E s)
    (fin : ∀ s, J (min us.size vs.size) s → Q (.bool (if us.size = vs.size then true else false)) s) (brk : ∀ i s, Fa i s → Q (.bool false) s) (h : J 0 s) : wpAny (model prog w) A (richCompare .Eq (.ref l) (.ref b)) Q E s := by
  obtain ⟨⟨cls, dd, data, sl⟩, c1, hc, n, hd⟩ := id hl
  obtain ⟨⟨cls2, dd2, data2, sl2⟩, c2, hc2, n2, hd2⟩ := id hb
  simp only at hc hd hc2 hd2
  subst hc hd hc2 hd2
  refine wpAny_richCompare_same_room (op := .Eq) ⟨_, c1, rfl⟩ ⟨_, c2, rfl⟩ PySem.F.slot_tuple_eq (GQ.call_here PySem.F.slot_tuple_eq ⟨_, c1, rfl⟩ PySem.F.entry_tuple_eq (PySem.F.args_tuple_eq_2 _ _) ?_) hu
  exact tup_eq (R := wants (fun v s' => v ≠ .notImplemented ∧ Q v s') E) l b us vs n n2 dd dd2 sl sl2 J Fa turn (fun s' q => ⟨(fun x => nomatch x), fin s' q⟩) (fun i s' q => ⟨(fun x => nomatch x), brk i s' q⟩) c1 c2 h

theorem rc_list_ne {l b : Addr} {N : Nat} {Q : Value → Shared → Prop} (hu : A.units < cLine) (J Fa : Nat → Shared → Prop) (g : Goes prog w A E l b N J Fa) (fin : ∀ s, J N s → Q (.bool false) s) (brk : ∀ i s, Fa i s → Q (.bool true) s) (h : J 0 s) : wpAny (model prog w) A (richCompare .NotEq (.ref l) (.ref b)) Q E s := by
  obtain ⟨us, vs, ⟨⟨n, c1⟩, ⟨m, c2⟩, _, _⟩, _⟩ := g.turn _ _ h
  refine wpAny_richCompare_same_room (op := .NotEq) ⟨_, c1, rfl⟩ ⟨_, c2, rfl⟩ PySem.F.slot_list_ne (GQ.call_here PySem.F.slot_list_ne ⟨_, c1, rfl⟩ PySem.F.entry_list_ne (PySem.F.args_list_ne_2 _ _) ?_) hu
  exact list_ne (R := wants (fun v s' => v ≠ .notImplemented ∧ Q v s') E) l b N J Fa g (fun s' q => ⟨(fun x => nomatch x), fin s' q⟩) (fun i s' q => ⟨(fun x => nomatch x), brk i s' q⟩) h
theorem rc_far_ne {l b : Addr} {us vs : Array Value} {n m : Nat} {Q : Value → Shared → Prop} (hu : A.units < cLine) (hz : (us.size != vs.size) = true) (c1 : s.heap.get? l = some { cls := .type "list", data := .seq us n }) (c2 : s.heap.get? b = some { cls := .type "list", data := .seq vs m }) (h : Q (.bool true) s) : wpAny (model prog w) A (richCompare .NotEq (.ref l) (.ref b)) Q E s := by
  refine wpAny_richCompare_same_room (op := .NotEq) ⟨_, c1, rfl⟩ ⟨_, c2, rfl⟩ PySem.F.slot_list_ne (GQ.call_here PySem.F.slot_list_ne ⟨_, c1, rfl⟩ PySem.F.entry_list_ne (PySem.F.args_list_ne_2 _ _) ?_) hu
  exact far_ne (R := wants (fun v s' => v ≠ .notImplemented ∧ Q v s') E) l b us vs n m hz c1 c2 ⟨(fun x => nomatch x), h⟩
theorem rc_tup_ne {l b : Addr} {us vs : Array Value} {Q : Value → Shared → Prop} (hu : A.units < cLine) (J Fa : Nat → Shared → Prop) (hl : s.heap.IsTuple l us) (hb : s.heap.IsTuple b vs)
    (turn : ∀ i (h1 : i < us.size) (h2 : i < vs.size) s, J i s → wpAny (model prog w) A.in1 (eqBool us[i] vs[i]) (fun r s' => if r = true then J (i + 1) s' else Fa i s') E s)
    (fin : ∀ s, J (min us.size vs.size) s → Q (.bool (if us.size = vs.size then false else true)) s) (brk : ∀ i s, Fa i s → Q (.bool true) s) (h : J 0 s) : wpAny (model prog w) A (richCompare .NotEq (.ref l) (.ref b)) Q E s := by
  obtain ⟨⟨cls, dd, data, sl⟩, c1, hc, n, hd⟩ := id hl
  obtain ⟨⟨cls2, dd2, data2, sl2⟩, c2, hc2, n2, hd2⟩ := id hb
  simp only at hc hd hc2 hd2
  subst hc hd hc2 hd2
  refine wpAny_richCompare_same_room (op := .NotEq) ⟨_, c1, rfl⟩ ⟨_, c2, rfl⟩ PySem.F.slot_tuple_ne (GQ.call_here PySem.F.slot_tuple_ne ⟨_, c1, rfl⟩ PySem.F.entry_tuple_ne (PySem.F.args_tuple_ne_2 _ _) ?_) hu
  exact tup_ne (R := wants (fun v s' => v ≠ .notImplemented ∧ Q v s') E) l b us vs n n2 dd dd2 sl sl2 J Fa turn (fun s' q => ⟨(fun x => nomatch x), fin s' q⟩) (fun i s' q => ⟨(fun x => nomatch x), brk i s' q⟩) c1 c2 h
end
end JsQ
namespace L2
open PySem PySem.Spec PyProof.Rows
section
variable {X : Cx} {n m : Nat} {D D' : Tells}
def MonT (D : Tells) : Prop := ∀ x y r H H', Same H H' → D x y r H → D x y r H'
/-- the same object is alike -/
def SelfT (D : Tells) : Prop := ∀ x r H, D x x r H → r = true
theorem EqT.mono (h : EqT X n D) (hn : n ≤ m) : EqT X m D := fun A pins s σ H x y u v r sb => h A pins s σ H x y u v r (sb.mono hn)
theorem EqT.imp (h : EqT X n D) (hd : ∀ x y r H, D' x y r H → D x y r H) : EqT X n D' := fun A pins s σ H x y u v r sb I rx ry d => h A pins s σ H x y u v r sb I rx ry (hd x y r H d)
theorem EqT.or (h : EqT X n D) (h' : EqT X n D') : EqT X n (fun x y r H => D x y r H ∨ D' x y r H) := fun A pins s σ H x y u v r sb I rx ry d => by
  rcases d with d | d
  · exact h A pins s σ H x y u v r sb I rx ry d
  · exact h' A pins s σ H x y u v r sb I rx ry d
/-- flat values -/
def TFlat : Tells := fun x y r _ => flatV x = true ∧ flatV y = true ∧ eqV x y = r
theorem eqT_flat : EqT X 0 TFlat := by
  intro A pins s σ H x y u v r sb I rx ry d
  obtain ⟨fx, fy, e⟩ := d
  have q := eqAt_V (A := A) (s := s) rx ry fx fy
  rw [e] at q
  exact q X.prog X.w X.xe _ ⟨rfl, H, I, Same.refl H⟩
/-- what is told item by item -/
def PrsT (D : Tells) (xs ys : List V) (bs : List Bool) (H : Hp) : Prop := bs.length = min xs.length ys.length ∧ ∀ (i : Nat) x y b, xs[i]? = some x → ys[i]? = some y → bs[i]? = some b → (bs.take i).all id = true → D x y b H
theorem PrsT.mon (hD : MonT D) {xs ys : List V} {bs : List Bool} {H H' : Hp} (e : Same H H') (p : PrsT D xs ys bs H) : PrsT D xs ys bs H' := ⟨p.1, fun i x y b h1 h2 h3 h4 => hD x y b H H' e (p.2 i x y b h1 h2 h3 h4)⟩
theorem PrsT.self {xs : List V} {bs : List Bool} {H : Hp} (hS : ∀ x r, D x x r H → r = true) (p : PrsT D xs xs bs H) : bs.all id = true := by
  have go : ∀ n, n ≤ bs.length → (bs.take n).all id = true := by
    intro n
    induction n with
    | zero => intro _; rfl
    | succ n ih =>
      intro hn
      have hi : n < bs.length := hn
      have hx : n < xs.length := by have := p.1; omega
      have al := ih (by omega)
      have e := hS _ _ (p.2 n _ _ _ (List.getElem?_eq_getElem hx) (List.getElem?_eq_getElem hx) (List.getElem?_eq_getElem hi) al)
      rw [List.take_succ_eq_append_getElem hi, List.all_append, al, e]
      rfl
  have := go bs.length (Nat.le_refl _)
  rwa [List.take_length] at this
def tells (xs ys : List V) (bs : List Bool) : Bool := decide (xs.length = ys.length) && bs.all id
def TList (D : Tells) : Tells := fun x y r H => ∃ a b xs ys bs, x = .ref a ∧ y = .ref b ∧ H a = some (.lst xs) ∧ H b = some (.lst ys) ∧ PrsT D xs ys bs H ∧ r = tells xs ys bs
def TTup (K : PySem.W.Frag) (D : Tells) : Tells := fun x y r H => ∃ a b xs ys bs, x = .ref a ∧ y = .ref b ∧ SqT K H a xs ∧ SqT K H b ys ∧ PrsT D xs ys bs H ∧ r = tells xs ys bs
theorem monT_list (hD : MonT D) : MonT (TList D) := fun x y r H H' e d => by
  obtain ⟨a, b, xs, ys, bs, hx, hy, h1, h2, p, er⟩ := d
  exact ⟨a, b, xs, ys, bs, hx, hy, e _ _ h1, e _ _ h2, p.mon hD e, er⟩
theorem monT_tup {K : PySem.W.Frag} (hD : MonT D) : MonT (TTup K D) := fun x y r H H' e d => by
  obtain ⟨a, b, xs, ys, bs, hx, hy, h1, h2, p, er⟩ := d
  exact ⟨a, b, xs, ys, bs, hx, hy, h1.ext e, h2.ext e, p.mon hD e, er⟩
/-- behind i items that are alike -/
def JT (X : Cx) (pins : List (Addr × Obj)) (σ : St) (H : Hp) (bs : List Bool) (i : Nat) (s' : Shared) : Prop := (∃ H', Inv X pins σ H' s' ∧ Same H H') ∧ (bs.take i).all id = true
def FT (X : Cx) (pins : List (Addr × Obj)) (σ : St) (H : Hp) (bs : List Bool) (i : Nat) (s' : Shared) : Prop := (∃ H', Inv X pins σ H' s' ∧ Same H H') ∧ bs.all id = false
theorem turnT (hD : MonT D) (h : EqT X n D) {A : Around} (sb : Sub X (n + 1) A) {pins : List (Addr × Obj)} {σ : St} {H : Hp} {xs ys : List V} {bs : List Bool} {us vs : List Value} (p : PrsT D xs ys bs H) (r : Vals xs us) (r2 : Vals ys vs)
    (i : Nat) (h1 : i < us.toArray.size) (h2 : i < vs.toArray.size) (s' : Shared) (l : JT X pins σ H bs i s') :
    wpAny (model X.prog X.w) A.in1 (eqBool us.toArray[i] vs.toArray[i]) (fun r s2 => if r = true then JT X pins σ H bs (i + 1) s2 else FT X pins σ H bs i s2) X.xe s' := by
  obtain ⟨⟨H1, I1, e1⟩, al⟩ := l
  have l1 : i < us.length := by simpa using h1
  have l2 : i < vs.length := by simpa using h2
  have g1 : us[i]? = some us.toArray[i] := by rw [List.getElem?_eq_getElem l1] <;> simp
  have g2 : vs[i]? = some vs.toArray[i] := by rw [List.getElem?_eq_getElem l2] <;> simp
  have k1 : i < xs.length := by rw [r.length]; exact l1
  have k2 : i < ys.length := by rw [r2.length]; exact l2
  have k3 : i < bs.length := by have := p.1; omega
  obtain ⟨u, hu, ru⟩ := r.get (List.getElem?_eq_getElem k1)
  obtain ⟨v, hv, rv⟩ := r2.get (List.getElem?_eq_getElem k2)
  rw [g1] at hu
  rw [g2] at hv
  rw [Option.some.inj hu, Option.some.inj hv]
  refine wpAny_mono (h A.in1 pins s' σ H1 _ _ u v _ sb.in1 I1 ru rv (hD _ _ _ _ _ e1 (p.2 i _ _ _ (List.getElem?_eq_getElem k1) (List.getElem?_eq_getElem k2) (List.getElem?_eq_getElem k3) al))) (fun q s2 z => ?_) fun _ _ x => x
  obtain ⟨rfl, H2, I2, e2⟩ := z
  cases hb : bs[i] with
  | true =>
    rw [if_pos rfl]
    refine ⟨⟨H2, I2, e1.trans e2⟩, ?_⟩
    rw [List.take_succ_eq_append_getElem k3, List.all_append, al, hb]
    rfl
  | false =>
    rw [if_neg Bool.false_ne_true]
    refine ⟨⟨H2, I2, e1.trans e2⟩, ?_⟩
    rw [List.all_eq_false]
    exact ⟨bs[i], List.getElem_mem k3, by rw [hb]; decide⟩
def RcT (X : Cx) (op : CmpOp) (f : Bool → Bool) (n : Nat) (D : Tells) : Prop :=
  ∀ (A : Around) (pins : List (Addr × Obj)) (s : Shared) (σ : St) (H : Hp) (x y : V) (u v : Value) (r : Bool), Sub X n A → Inv X pins σ H s → RelV x u → RelV y v → D x y r H →
    wpAny (model X.prog X.w) A (richCompare op u v) (fun z s' => z = .bool (f r) ∧ ∃ H', Inv X pins σ H' s' ∧ Same H H') X.xe s
theorem rcT_list_eq (hD : MonT D) (h : EqT X n D) : RcT X .Eq id (n + 1) (TList D) := by
  intro A pins s σ H x y u v r sb I rx ry d
  obtain ⟨a, b, xs, ys, bs, rfl, rfl, ha, hb, p, rfl⟩ := d
  cases rx
  cases ry
  by_cases hl : xs.length = ys.length
  · have el : bs.length = xs.length := by have := p.1; omega
    refine JsQ.rc_list_eq (N := xs.length) sb.room.units0 (JT X pins σ H bs) (FT X pins σ H bs) ⟨fun i s' q => ?_, fun i s' q => ?_⟩ (fun s' q => ⟨?_, q.1⟩) (fun i s' q => ⟨?_, q.1⟩) ⟨⟨H, I, Same.refl H⟩, by simp⟩
    · obtain ⟨H1, I1, e1⟩ := q.1
      obtain ⟨z, us, k, r1, e⟩ := I1.hok a _ (e1 _ _ ha)
      obtain ⟨z2, vs, k2, r2, e2⟩ := I1.hok b _ (e1 _ _ hb)
      exact ⟨us.toArray, vs.toArray, ⟨⟨k, e⟩, ⟨k2, e2⟩, by rw [List.size_toArray, ← r1.length], by rw [List.size_toArray, ← r2.length, ← hl]⟩, fun h1 h2 => turnT hD h sb p r1 r2 i h1 h2 s' q⟩
    · obtain ⟨H1, I1, e1⟩ := q.1
      obtain ⟨z, us, k, r1, e⟩ := I1.hok a _ (e1 _ _ ha)
      obtain ⟨z2, vs, k2, r2, e2⟩ := I1.hok b _ (e1 _ _ hb)
      exact ⟨us.toArray, vs.toArray, ⟨k, e⟩, ⟨k2, e2⟩, by rw [List.size_toArray, ← r1.length], by rw [List.size_toArray, ← r2.length, ← hl]⟩
    · have q2 := q.2
      rw [← el, List.take_length] at q2
      rw [tells, q2, decide_eq_true hl]
      rfl
    · rw [tells, q.2, decide_eq_true hl]
      rfl
  · obtain ⟨z, us, k, r1, e⟩ := I.hok a _ ha
    obtain ⟨z2, vs, k2, r2, e2⟩ := I.hok b _ hb
    refine JsQ.rc_far_eq sb.room.units0 ?_ e e2 ⟨?_, H, I, Same.refl H⟩
    · rw [List.size_toArray, List.size_toArray, ← r1.length, ← r2.length]
      simpa using hl
    · rw [tells, decide_eq_false hl]
      rfl
theorem rcT_tup_eq (hD : MonT D) (h : EqT X n D) : RcT X .Eq id (n + 1) (TTup X.K D) := by
  intro A pins s σ H x y u v r sb I rx ry d
  obtain ⟨a, b, xs, ys, bs, rfl, rfl, ha, hb, p, rfl⟩ := d
  cases rx
  cases ry
  obtain ⟨us, r1, e, z⟩ := I.tuple ha
  obtain ⟨vs, r2, e2, z2⟩ := I.tuple hb
  have lu : us.toArray.size = xs.length := by rw [List.size_toArray, ← r1.length]
  have lv : vs.toArray.size = ys.length := by rw [List.size_toArray, ← r2.length]
  refine JsQ.rc_tup_eq sb.room.units0 (JT X pins σ H bs) (FT X pins σ H bs) e e2 (fun i h1 h2 s' q => turnT hD h sb p r1 r2 i h1 h2 s' q) (fun s' q => ⟨?_, q.1⟩) (fun i s' q => ⟨?_, q.1⟩) ⟨⟨H, I, Same.refl H⟩, by simp⟩
  · have q2 := q.2
    rw [lu, lv, ← p.1, List.take_length] at q2
    rw [lu, lv, tells, q2]
    by_cases hl : xs.length = ys.length
    · rw [if_pos hl, decide_eq_true hl]
      rfl
    · rw [if_neg hl, decide_eq_false hl]
      rfl
  · rw [tells, q.2, Bool.and_false]
    rfl
theorem rcT_list_ne (hD : MonT D) (h : EqT X n D) : RcT X .NotEq not (n + 1) (TList D) := by
  intro A pins s σ H x y u v r sb I rx ry d
  obtain ⟨a, b, xs, ys, bs, rfl, rfl, ha, hb, p, rfl⟩ := d
  cases rx
  cases ry
  by_cases hl : xs.length = ys.length
  · have el : bs.length = xs.length := by have := p.1; omega
    refine JsQ.rc_list_ne (N := xs.length) sb.room.units0 (JT X pins σ H bs) (FT X pins σ H bs) ⟨fun i s' q => ?_, fun i s' q => ?_⟩ (fun s' q => ⟨?_, q.1⟩) (fun i s' q => ⟨?_, q.1⟩) ⟨⟨H, I, Same.refl H⟩, by simp⟩
    · obtain ⟨H1, I1, e1⟩ := q.1
      obtain ⟨z, us, k, r1, e⟩ := I1.hok a _ (e1 _ _ ha)
      obtain ⟨z2, vs, k2, r2, e2⟩ := I1.hok b _ (e1 _ _ hb)
      exact ⟨us.toArray, vs.toArray, ⟨⟨k, e⟩, ⟨k2, e2⟩, by rw [List.size_toArray, ← r1.length], by rw [List.size_toArray, ← r2.length, ← hl]⟩, fun h1 h2 => turnT hD h sb p r1 r2 i h1 h2 s' q⟩
    · obtain ⟨H1, I1, e1⟩ := q.1
      obtain ⟨z, us, k, r1, e⟩ := I1.hok a _ (e1 _ _ ha)
      obtain ⟨z2, vs, k2, r2, e2⟩ := I1.hok b _ (e1 _ _ hb)
      exact ⟨us.toArray, vs.toArray, ⟨k, e⟩, ⟨k2, e2⟩, by rw [List.size_toArray, ← r1.length], by rw [List.size_toArray, ← r2.length, ← hl]⟩
    · have q2 := q.2
      rw [← el, List.take_length] at q2
      rw [tells, q2, decide_eq_true hl]
      rfl
    · rw [tells, q.2, decide_eq_true hl]
      rfl
  · obtain ⟨z, us, k, r1, e⟩ := I.hok a _ ha
    obtain ⟨z2, vs, k2, r2, e2⟩ := I.hok b _ hb
    refine JsQ.rc_far_ne sb.room.units0 ?_ e e2 ⟨?_, H, I, Same.refl H⟩
    · rw [List.size_toArray, List.size_toArray, ← r1.length, ← r2.length]
      simpa using hl
    · rw [tells, decide_eq_false hl]
      rfl
theorem rcT_tup_ne (hD : MonT D) (h : EqT X n D) : RcT X .NotEq not (n + 1) (TTup X.K D) := by
  intro A pins s σ H x y u v r sb I rx ry d
  obtain ⟨a, b, xs, ys, bs, rfl, rfl, ha, hb, p, rfl⟩ := d
  cases rx
  cases ry
  obtain ⟨us, r1, e, z⟩ := I.tuple ha
  obtain ⟨vs, r2, e2, z2⟩ := I.tuple hb
  have lu : us.toArray.size = xs.length := by rw [List.size_toArray, ← r1.length]
  have lv : vs.toArray.size = ys.length := by rw [List.size_toArray, ← r2.length]
  refine JsQ.rc_tup_ne sb.room.units0 (JT X pins σ H bs) (FT X pins σ H bs) e e2 (fun i h1 h2 s' q => turnT hD h sb p r1 r2 i h1 h2 s' q) (fun s' q => ⟨?_, q.1⟩) (fun i s' q => ⟨?_, q.1⟩) ⟨⟨H, I, Same.refl H⟩, by simp⟩
  · have q2 := q.2
    rw [lu, lv, ← p.1, List.take_length] at q2
    rw [lu, lv, tells, q2]
    by_cases hl : xs.length = ys.length
    · rw [if_pos hl, decide_eq_true hl]
      rfl
    · rw [if_neg hl, decide_eq_false hl]
      rfl
  · rw [tells, q.2, Bool.and_false]
    rfl

theorem RcT.eqT (h : RcT X .Eq id n D) (hr : ∀ x y r H, D x y r H → ∃ a b, x = .ref a ∧ y = .ref b) (hS : ∀ (pins : List (Addr × Obj)) (s : Shared) (σ : St) (H : Hp) x r, Inv X pins σ H s → D x x r H → r = true) : EqT X n D := by
  intro A pins s σ H x y u v r sb I rx ry d
  obtain ⟨a, b, rfl, rfl⟩ := hr _ _ _ _ d
  cases rx
  cases ry
  by_cases hab : a = b
  · subst hab
    rw [hS _ _ _ _ _ _ I d]
    exact SeqAt.EqAt.same (A := A) (s := s) (.ref a) X.prog X.w X.xe _ ⟨rfl, H, I, Same.refl H⟩
  · refine GQ.eqBool_refG hab (wpAny_mono (h A pins s σ H (.ref a) (.ref b) _ _ _ sb I rfl rfl d) (fun z s' q => ?_) fun _ _ x => x)
    obtain ⟨hz, q⟩ := q
    exact ⟨r, hz, rfl, q⟩
theorem selfT_list (hS : SelfT D) : SelfT (TList D) := fun x r H d => by
  obtain ⟨a, b, xs, ys, bs, rfl, e, h1, h2, p, rfl⟩ := d
  cases e
  cases Option.some.inj (h1.symm.trans h2)
  rw [tells, p.self (hS · · _), decide_eq_true rfl]
  rfl
theorem eqT_list (hD : MonT D) (hS : SelfT D) (h : EqT X n D) : EqT X (n + 1) (TList D) := (rcT_list_eq hD h).eqT (fun _ _ _ _ d => let ⟨a, b, _, _, _, hx, hy, _⟩ := d; ⟨a, b, hx, hy⟩) fun _ _ _ _ _ _ _ d => selfT_list hS _ _ _ d
/-- x == y, x != y -/
def rCmpT (D : Tells) (f : Bool → Bool) : R2 := fun x y H Q => ∃ r, D x y r H ∧ ∀ H', Same H H' → Q (.bl (f r)) H'
theorem op_eqTl (h : RcT X .Eq id n D) (hr : Room n X.A) : OpR X (compareOp .Eq) (rCmpT D id) := by
  intro pins s σ H x y v u Q I rx ry hq
  obtain ⟨r, d, q⟩ := hq
  show wpAny (model X.prog X.w) X.A (richCompare .Eq v u) (EP X pins σ Q) X.xe s
  refine wpAny_mono (h X.A pins s σ H x y v u r ⟨hr, rfl⟩ I rx ry d) (fun z s' q1 => ?_) fun _ _ x => x
  obtain ⟨rfl, H', I', e⟩ := q1
  exact ⟨.bl _, H', I', rfl, q H' e⟩
theorem op_neTl (h : RcT X .NotEq not n D) (hr : Room n X.A) : OpR X (compareOp .NotEq) (rCmpT D not) := by
  intro pins s σ H x y v u Q I rx ry hq
  obtain ⟨r, d, q⟩ := hq
  show wpAny (model X.prog X.w) X.A (richCompare .NotEq v u) (EP X pins σ Q) X.xe s
  refine wpAny_mono (h X.A pins s σ H x y v u r ⟨hr, rfl⟩ I rx ry d) (fun z s' q1 => ?_) fun _ _ x => x
  obtain ⟨rfl, H', I', e⟩ := q1
  exact ⟨.bl _, H', I', rfl, q H' e⟩
end
end L2

set_option Elab.async false
set_option linter.all false
set_option maxRecDepth 100000
set_option maxHeartbeats 2000000
/-! deeds: what they are, how they stand in the heap, how they are numbered and where they lead -/
namespace Js
open PySem L2
inductive Dd where
  | told (a : Nat) (t : Tr)
  | take (s : Bool) (a b : Nat)
  | two (s : Bool) (a b c : Nat)
  | wh (a : Nat) (r : List Dd)
  | iff (a : Nat) (r o : List Dd)
def takeS : Bool → Str
  | false => "first"
  | true => "second"
def twoS : Bool → Str
  | false => "pair"
  | true => "same"
/-! how many, how deep, in their order -/
mutual
def Dd.flat : Dd → List Dd
  | .told a t => [.told a t]
  | .take s a b => [.take s a b]
  | .two s a b c => [.two s a b c]
  | .wh a r => .wh a r :: flatR r
  | .iff a r o => .iff a r o :: (flatR r ++ flatR o)
def flatR : List Dd → List Dd
  | [] => []
  | d :: r => d.flat ++ flatR r
end
def Dd.many (d : Dd) : Nat := d.flat.length
def manyR (r : List Dd) : Nat := (flatR r).length
mutual
def Dd.deep : Dd → Nat
  | .told _ _ => 0
  | .take _ _ _ => 0
  | .two _ _ _ _ => 0
  | .wh _ r => deepR r + 1
  | .iff _ r o => max (deepR r) (deepR o) + 1
def deepR : List Dd → Nat
  | [] => 0
  | d :: r => max d.deep (deepR r)
end
theorem many_nil : manyR [] = 0 := rfl
theorem many_cons (d : Dd) (r : List Dd) : manyR (d :: r) = d.many + manyR r := by
  rw [manyR, flatR, List.length_append]
  rfl
theorem many_wh (a : Nat) (r : List Dd) : (Dd.wh a r).many = manyR r + 1 := by
  rw [Dd.many, Dd.flat, List.length_cons]
  rfl
theorem many_iff (a : Nat) (r o : List Dd) : (Dd.iff a r o).many = manyR r + manyR o + 1 := by
  rw [Dd.many, Dd.flat, List.length_cons, List.length_append]
  rfl
theorem many_told (a : Nat) (t : Tr) : (Dd.told a t).many = 1 := rfl
theorem many_take (s : Bool) (a b : Nat) : (Dd.take s a b).many = 1 := rfl
theorem many_two (s : Bool) (a b c : Nat) : (Dd.two s a b c).many = 1 := rfl
theorem many_pos : ∀ d : Dd, 0 < d.many
  | .told _ _ => Nat.zero_lt_one
  | .take _ _ _ => Nat.zero_lt_one
  | .two _ _ _ _ => Nat.zero_lt_one
  | .wh a r => by rw [many_wh]; omega
  | .iff a r o => by rw [many_iff]; omega
/-- the rows of a deed -/
def Dd.rows : Dd → List (List Dd)
  | .wh _ r => [r]
  | .iff _ r o => [r, o]
  | _ => []
/-! where the deeds end -/
mutual
def Dd.ends : Dd → Nat → List Nat
  | .told _ _, n => [n + 1]
  | .take _ _ _, n => [n + 1]
  | .two _ _ _ _, n => [n + 1]
  | .wh _ r, n => (n + 1 + manyR r) :: endsR r (n + 1)
  | .iff _ r o, n => (n + 1 + manyR r + manyR o) :: (endsR r (n + 1) ++ endsR o (n + 1 + manyR r))
def endsR : List Dd → Nat → List Nat
  | [], _ => []
  | d :: r, n => d.ends n ++ endsR r (n + d.many)
end
/-! where they lead -/
mutual
def Dd.lay : Dd → Nat → Nat → List (Dd × List Nat)
  | .told a t, f, _ => [(.told a t, [f])]
  | .take s a b, f, _ => [(.take s a b, [f])]
  | .two s a b c, f, _ => [(.two s a b c, [f])]
  | .wh a r, f, n => (.wh a r, [if r.isEmpty then n else n + 1, f]) :: layR r n (n + 1)
  | .iff a r o, f, n => (.iff a r o, [if r.isEmpty then f else n + 1, if o.isEmpty then f else n + 1 + manyR r]) :: (layR r f (n + 1) ++ layR o f (n + 1 + manyR r))
def layR : List Dd → Nat → Nat → List (Dd × List Nat)
  | [], _, _ => []
  | d :: r, f, n => d.lay (if r.isEmpty then f else n + d.many) n ++ layR r f (n + d.many)
end
mutual
theorem ends_len : ∀ (d : Dd) (n : Nat), (d.ends n).length = d.many
  | .told _ _, _ => rfl
  | .take _ _ _, _ => rfl
  | .two _ _ _ _, _ => rfl
  | .wh a r, n => by rw [Dd.ends, List.length_cons, endsR_len r, many_wh]
  | .iff a r o, n => by rw [Dd.ends, List.length_cons, List.length_append, endsR_len r, endsR_len o, many_iff]
theorem endsR_len : ∀ (r : List Dd) (n : Nat), (endsR r n).length = manyR r
  | [], _ => rfl
  | d :: r, n => by rw [endsR, List.length_append, ends_len d, endsR_len r, many_cons]
end
mutual
theorem lay_len : ∀ (d : Dd) (f n : Nat), (d.lay f n).length = d.many
  | .told _ _, _, _ => rfl
  | .take _ _ _, _, _ => rfl
  | .two _ _ _ _, _, _ => rfl
  | .wh a r, f, n => by rw [Dd.lay, List.length_cons, layR_len r, many_wh]
  | .iff a r o, f, n => by rw [Dd.lay, List.length_cons, List.length_append, layR_len r, layR_len o, many_iff]
theorem layR_len : ∀ (r : List Dd) (f n : Nat), (layR r f n).length = manyR r
  | [], _, _ => rfl
  | d :: r, f, n => by rw [layR, List.length_append, lay_len d, layR_len r, many_cons]
end
/-! how they stand -/
mutual
def DAt (K : PySem.W.Frag) (C : Addr) (H : Hp) : V → Dd → Prop
  | v, .told a t => ∃ p x, v = .ref p ∧ SqT K H p [.str "told", .int (a : Nat), .ref x] ∧ a < 10 ∧ Th C H x t ∧ t.size ≤ 4000
  | v, .take s a b => ∃ p, v = .ref p ∧ SqT K H p [.str (takeS s), .int (a : Nat), .int (b : Nat)] ∧ a < 10 ∧ b < 10
  | v, .two s a b c => ∃ p, v = .ref p ∧ SqT K H p [.str (twoS s), .int (a : Nat), .int (b : Nat), .int (c : Nat)] ∧ a < 10 ∧ b < 10 ∧ c < 10
  | v, .wh a r => ∃ p q vs, v = .ref p ∧ SqT K H p [.str "while", .int (a : Nat), .ref q] ∧ a < 10 ∧ SqT K H q vs ∧ DsAt K C H vs r
  | v, .iff a r o => ∃ p q vs q2 vs2, v = .ref p ∧ SqT K H p [.str "if", .int (a : Nat), .ref q, .ref q2] ∧ a < 10 ∧ SqT K H q vs ∧ DsAt K C H vs r ∧ SqT K H q2 vs2 ∧ DsAt K C H vs2 o
def DsAt (K : PySem.W.Frag) (C : Addr) (H : Hp) : List V → List Dd → Prop
  | vs, [] => vs = []
  | vs, d :: r => ∃ v us, vs = v :: us ∧ DAt K C H v d ∧ DsAt K C H us r
end
/-- a row at q -/
def RAt (K : PySem.W.Frag) (C : Addr) (H : Hp) (q : Addr) (r : List Dd) : Prop := ∃ vs, SqT K H q vs ∧ DsAt K C H vs r
theorem sqt_kt {K : PySem.W.Frag} {H H' : Hp} (k : KT H H') {a : Addr} {xs : List V} (h : SqT K H a xs) : SqT K H' a xs :=
  h.elim (fun h => .inl (h.elim (fun h => .inl (k _ _ h (fun _ e => nomatch e))) fun ⟨o, h⟩ => .inr ⟨o, k _ _ h (fun _ e => nomatch e)⟩)) fun h => .inr h
mutual
theorem DAt_kt {K : PySem.W.Frag} {C : Addr} {H H' : Hp} (k : KT H H') : ∀ (d : Dd) (v : V), DAt K C H v d → DAt K C H' v d
  | .told a t, v, h => by
    obtain ⟨p, x, e, h1, h2, h3, h4⟩ := h
    exact ⟨p, x, e, sqt_kt k h1, h2, h3.kt k, h4⟩
  | .take s a b, v, h => by
    obtain ⟨p, e, h1, h2⟩ := h
    exact ⟨p, e, sqt_kt k h1, h2⟩
  | .two s a b c, v, h => by
    obtain ⟨p, e, h1, h2⟩ := h
    exact ⟨p, e, sqt_kt k h1, h2⟩
  | .wh a r, v, h => by
    obtain ⟨p, q, vs, e, h1, h2, h3, h4⟩ := h
    exact ⟨p, q, vs, e, sqt_kt k h1, h2, sqt_kt k h3, DsAt_kt k r vs h4⟩
  | .iff a r o, v, h => by
    obtain ⟨p, q, vs, q2, vs2, e, h1, h2, h3, h4, h5, h6⟩ := h
    exact ⟨p, q, vs, q2, vs2, e, sqt_kt k h1, h2, sqt_kt k h3, DsAt_kt k r vs h4, sqt_kt k h5, DsAt_kt k o vs2 h6⟩
theorem DsAt_kt {K : PySem.W.Frag} {C : Addr} {H H' : Hp} (k : KT H H') : ∀ (r : List Dd) (vs : List V), DsAt K C H vs r → DsAt K C H' vs r
  | [], vs, h => h
  | d :: r, vs, h => by
    obtain ⟨v, us, e, h1, h2⟩ := h
    exact ⟨v, us, e, DAt_kt k d v h1, DsAt_kt k r us h2⟩
end
theorem RAt.kt {K : PySem.W.Frag} {C : Addr} {H H' : Hp} (k : KT H H') {q : Addr} {r : List Dd} (h : RAt K C H q r) : RAt K C H' q r := by
  obtain ⟨vs, h1, h2⟩ := h
  exact ⟨vs, sqt_kt k h1, DsAt_kt k r vs h2⟩
theorem RAt.same {K : PySem.W.Frag} {C : Addr} {H H' : Hp} (s : Same H H') {q : Addr} {r : List Dd} (h : RAt K C H q r) : RAt K C H' q r := h.kt (KT.of s)
theorem DsAt.length {K : PySem.W.Frag} {C : Addr} {H : Hp} : ∀ (r : List Dd) (vs : List V), DsAt K C H vs r → vs.length = r.length
  | [], vs, h => by
    have e : vs = [] := h
    rw [e]
    rfl
  | d :: r, vs, h => by
    obtain ⟨v, us, e, h1, h2⟩ := h
    rw [e, List.length_cons, List.length_cons, DsAt.length r us h2]
theorem DsAt.get {K : PySem.W.Frag} {C : Addr} {H : Hp} : ∀ (r : List Dd) (vs : List V) (i : Nat) (v : V), DsAt K C H vs r → vs[i]? = some v → ∃ d, r[i]? = some d ∧ DAt K C H v d
  | [], vs, i, v, h, e => by
    have e' : vs = [] := h
    rw [e'] at e
    cases e
  | d :: r, vs, i, v, h, e => by
    obtain ⟨w, us, e', h1, h2⟩ := h
    rw [e'] at e
    cases i with
    | zero =>
      cases Option.some.inj e
      exact ⟨d, rfl, h1⟩
    | succ i =>
      obtain ⟨d', g1, g2⟩ := DsAt.get r us i v h2 e
      exact ⟨d', g1, g2⟩
/-- of what type a tuple is -/
theorem sqt_ty {K : PySem.W.Frag} {H : Hp} {a : Addr} {xs : List V} (h : SqT K H a xs) : TyX K H (.ref a) (.type "tuple") := by
  rcases h with (h | ⟨o, h⟩) | ⟨o, its, n, h, c, _⟩
  · exact .base (.tup h)
  · exact .fTuple h
  · exact .kTuple h c
end Js

set_option Elab.async false
set_option linter.all false
set_option maxRecDepth 100000
set_option maxHeartbeats 2000000
/-! for a, b in zip(tuple, text) -/
namespace JsZ
open PySem PySem.Spec PyProof.Rows L2
abbrev zs1 (h : Heap) (l : Addr) : Heap := h.push { cls := .type "tuple_iterator", data := .fields #[.ref l, .int 0 0] }
abbrev zs2 (h : Heap) (l : Addr) (x : Str) (t : Tok) : Heap := (zs1 h l).push { cls := .type (strIterType x), data := .fields #[.str x t, .int 0 0] }
abbrev zs3 (h : Heap) (l : Addr) (x : Str) (t : Tok) : Heap := (zs2 h l x t).push { cls := .type "tuple", data := .seq #[.ref h.objs.size, .ref (zs1 h l).objs.size] }
abbrev zs4 (h : Heap) (l : Addr) (x : Str) (t : Tok) : Heap := (zs3 h l x t).push { cls := .type "tuple", data := .seq #[.none, .none] }
abbrev zs5 (h : Heap) (l : Addr) (x : Str) (t : Tok) : Heap := (zs4 h l x t).push { cls := .type "zip", data := .fields #[.none, .bool false, .bool false, .ref (zs2 h l x t).objs.size, .ref (zs3 h l x t).objs.size] }
theorem new_zipTS (l : Addr) (x : Str) (t : Tok) (us : Array Value) :
    Meets (Builtin.«zip.__new__» ⟨[.type "zip", .ref l, .str x t], []⟩) (fun _ R s => s.heap.IsTuple l us ∧ R (.ok (.ret (.ref (zs4 s.heap l x t).objs.size))) { s with heap := zs5 s.heap l x t }) :=
  .of_wp fun prog w A R s h => by
    obtain ⟨hp, g, d, tk, os⟩ := s; obtain ⟨h1, h⟩ := h
    have hsub := sub_zip
    have hL : Heap.IsTuple (Shared.heap ⟨hp, g, d, tk, os⟩) l us := h1
    wp_walk using wpAny_pyIter_tuple hL, wpAny_pyIter_strU
    exact ⟨_, rfl, h⟩
section
variable {prog : Program} {w : World} {A : Around} {E : Value → Shared → Prop} {s : Shared}
theorem call_zipTS {l : Addr} {x : Str} {t : Tok} {us : Array Value} {Q : Value → Shared → Prop} (hl : s.heap.IsTuple l us)
    (h : ∀ h', IsZip h' (s.heap.objs.size + 4) (s.heap.objs.size + 2) (s.heap.objs.size + 3) .none → IsPair h' (s.heap.objs.size + 2) (.ref s.heap.objs.size) (.ref (s.heap.objs.size + 1)) →
      IsPair h' (s.heap.objs.size + 3) .none .none → h'.IsTupleIter s.heap.objs.size l 0 → h'.IsStrIter (s.heap.objs.size + 1) (strIterType x) x t 0 → h'.objs.size = s.heap.objs.size + 5 →
      (∀ c o, s.heap.get? c = some o → h'.get? c = some o) → Q (.ref (s.heap.objs.size + 4)) { s with heap := h' }) :
    wpAny (model prog w) A (call (.type "zip") [.ref l, .str x t]) Q E s := by
  refine callType_new F.called_zip (by decide) (F.typeCall_zip_2 _ _) (F.newCall_zip_2 _ _) (fun obj => F.args_object_init_3 obj _ _) F.entry_zip_new (new_zipTS l x t us) ⟨hl, ?_⟩
  have z1 : (zs1 s.heap l).objs.size = s.heap.objs.size + 1 := Heap.size_push ..
  have z2 : (zs2 s.heap l x t).objs.size = s.heap.objs.size + 2 := by rw [Heap.size_push, z1]
  have z3 : (zs3 s.heap l x t).objs.size = s.heap.objs.size + 3 := by rw [Heap.size_push, z2]
  have z4 : (zs4 s.heap l x t).objs.size = s.heap.objs.size + 4 := by rw [Heap.size_push, z3]
  have z5 : (zs5 s.heap l x t).objs.size = s.heap.objs.size + 5 := by rw [Heap.size_push, z4]
  have g5 : (zs5 s.heap l x t).get? (zs4 s.heap l x t).objs.size = some _ := Heap.get?_push_size _ rfl
  have g4 : (zs5 s.heap l x t).get? (zs3 s.heap l x t).objs.size = some _ := Heap.get?_push_of_some _ (Heap.get?_push_size _ rfl)
  have g3 : (zs5 s.heap l x t).get? (zs2 s.heap l x t).objs.size = some _ := Heap.get?_push_of_some _ (Heap.get?_push_of_some _ (Heap.get?_push_size _ rfl))
  have g2 : (zs5 s.heap l x t).get? (zs1 s.heap l).objs.size = some _ := Heap.get?_push_of_some _ (Heap.get?_push_of_some _ (Heap.get?_push_of_some _ (Heap.get?_push_size _ rfl)))
  have g1 : (zs5 s.heap l x t).get? s.heap.objs.size = some _ := Heap.get?_push_of_some _ (Heap.get?_push_of_some _ (Heap.get?_push_of_some _ (Heap.get?_push_of_some _ (Heap.get?_push_size _ rfl))))
  show _ ∧ _
  rw [z2, z3, z4] at g5
  rw [z1, z2] at g3
  rw [z3] at g4
  rw [z1] at g2
  rw [z4]
  exact ⟨⟨_, g5, rfl⟩, h _ g5 g3 g4 ⟨_, g1, rfl, rfl⟩ ⟨_, g2, rfl, rfl⟩ z5 fun c o q => Heap.get?_push_of_some _ (Heap.get?_push_of_some _ (Heap.get?_push_of_some _ (Heap.get?_push_of_some _ (Heap.get?_push_of_some _ q))))⟩
end
/-- the tuple at a as it stands at each turn, and the text's signs -/
def ItTS (K : PySem.W.Frag) (a : Addr) (t : Str) : It :=
  ⟨fun i H => ∃ (xs : List V) (x : V) (c : Nat), SqT K H a xs ∧ xs[i]? = some x ∧ t.cps[i]? = some c,
    fun i H v H' => ∃ T x c, v = .ref T ∧ H T = none ∧ H' = upd H T (.tup [x, .str ⟨#[c]⟩]) ∧ (∀ xs, SqT K H a xs → xs[i]? = some x) ∧ t.cps[i]? = some c,
    fun i H => ∃ xs : List V, SqT K H a xs ∧ i ≤ xs.length ∧ i ≤ t.cps.size ∧ (i = xs.length ∨ i = t.cps.size)⟩
theorem turn_TS {P : Program} {w : World} {K : PySem.W.Frag} {elts : List Expr} {kk : Nat} {tpos : Pos} {a z TI TO i1 i2 : Addr} (t : Str) (tk : Tok) (D : ZipSep2 z TI TO i1 i2 [i1, a] [i2]) (ha : a ≠ i1) :
    Turn P w K (.Tuple elts kk tpos) (ItTS K a t) [z, TI, TO, i1, i2] z (fun i h => IsZip h z TI TO .none ∧ IsPair h TI (.ref i1) (.ref i2) ∧ (∃ x y, IsPair h TO x y) ∧ h.IsTupleIter i1 a i ∧ h.IsStrIter i2 (strIterType t) t tk i) where
  mem := by simp
  obj := fun i h st c hc => by
    obtain ⟨hz, hTI, ⟨x, y, hTO⟩, ⟨o1, e1, _, d1⟩, ⟨o2, e2, _, d2⟩⟩ := st
    have e' : c = z ∨ c = TI ∨ c = TO ∨ c = i1 ∨ c = i2 := by simpa using hc
    rcases e' with q | q | q | q | q
    · rw [q]; exact ⟨_, hz, fun v q => nomatch q⟩
    · rw [q]; exact ⟨_, hTI, fun v q => nomatch q⟩
    · rw [q]; exact ⟨_, hTO, fun v q => nomatch q⟩
    · rw [q]; exact ⟨o1, e1, fun v q => by rw [d1] at q; cases q⟩
    · rw [q]; exact ⟨o2, e2, fun v q => by rw [d2] at q; cases q⟩
  keep := fun i h h' st k => by
    obtain ⟨hz, hTI, ⟨x, y, hTO⟩, h1, ⟨o, ho, r⟩⟩ := st
    exact ⟨k z (by simp) _ hz, k TI (by simp) _ hTI, ⟨x, y, k TO (by simp) _ hTO⟩, h1.at fun o q => k i1 (by simp) o q, ⟨o, k i2 (by simp) o ho, r⟩⟩
  item := by
    intro X hP hw hK hc i pins s σ H E I hf st hg
    subst hP hw hK
    obtain ⟨hz, hTI, ⟨x0, y0, hTO⟩, h1, h2⟩ := st
    obtain ⟨xs, x, c, hqx, hx, hcx⟩ := hg
    obtain ⟨us, rv, p, _⟩ := I.tuple hqx
    obtain ⟨u, hu, ru⟩ := rv.get hx
    have hzl : z < s.heap.objs.size := Heap.lt_size hz
    have hh : X.A.in1.handled = none := I.ok.hd hc
    have li : i < us.toArray.size := by
      have := (List.getElem?_eq_some_iff.mp hu).1
      simpa using this
    have lc : i < t.cps.size := (Array.getElem?_eq_some_iff.mp hcx).1
    refine wpAny_pyNext_zipD2_item D (Draws.tuple hh i1 a ha us.toArray) (Draws.text hh i2 t tk) hz hTI hTO ⟨h1, p⟩ h2 li lc fun v1 v2 h' tk' q1 q2 z' TO' s1' s2' hT hsz hk => ?_
    obtain ⟨c', tu, hc', rfl⟩ := q2
    have ev : v1 = u := by
      have : us.toArray[i]? = some u := by simpa using hu
      exact Option.some.inj (q1.symm.trans this)
    subst ev
    cases Option.some.inj (hc'.symm.trans hcx)
    refine ⟨_, rfl, wpAny_letOwnedTupleGo_zip (s := { s with heap := h', toks := tk' }) z' fun h'' z'' sb => ?_⟩
    have hT2 : h''.get? s.heap.objs.size = some { cls := .type "tuple", data := .seq #[v1, .str ⟨#[c]⟩ tu] } := (sb.2 _ (Nat.ne_of_gt hzl)).trans hT
    have new : ObjOk X.prog X.w (upd H s.heap.objs.size (.tup [x, .str ⟨#[c]⟩])) h'' s.heap.objs.size (.tup [x, .str ⟨#[c]⟩]) := ⟨by show 2 ≤ sizeLine; decide, [v1, .str ⟨#[c]⟩ tu], .cons ru (.cons ⟨_, rfl⟩ .nil), ⟨_, hT2, rfl, _, rfl⟩⟩
    have I1 : Inv X pins σ (upd H s.heap.objs.size (.tup [x, .str ⟨#[c]⟩])) { s with heap := h'', toks := tk' } :=
      I.turnedNew (ch := [z, TI, TO, i1, i2]) (fun c o hb q => (sb.2 c (fun q' => hb (by simp [q']))).trans (hk c o (fun q' => hb (by simp [q'])) (fun q' => hb (by simp [q'])) (fun q' => hb (by simp [q'])) (fun q' => hb (by simp [q'])) q)) hf (Nat.le_refl _) new
    refine ⟨.ref s.heap.objs.size, _, I1, rfl, ⟨_, x, c, rfl, I.hok.fresh (Nat.le_refl _), rfl, fun l hl => by rw [I.tuple_inj hl hqx]; exact hx, hcx⟩, ⟨z'', ?_, ⟨v1, .str ⟨#[c]⟩ tu, ?_⟩, ?_, ?_⟩, fun b hb => ?_⟩
    · exact (sb.2 _ D.TIz).trans (hk _ _ D.TIz D.TITO D.TIi1 D.TIi2 hTI)
    · exact (sb.2 _ D.TOz).trans TO'
    · exact s1'.1.at fun o q => (sb.2 _ (Ne.symm D.zi1)).trans q
    · obtain ⟨o, ho, r⟩ := s2'
      exact ⟨o, (sb.2 _ (Ne.symm D.zi2)).trans ho, r⟩
    · have hlt : b < s.heap.objs.size := by
        have e' : b = z ∨ b = TI ∨ b = TO ∨ b = i1 ∨ b = i2 := by simpa using hb
        rcases e' with q | q | q | q | q
        · rw [q]; exact hzl
        · rw [q]; exact Heap.lt_size hTI
        · rw [q]; exact Heap.lt_size hTO
        · rw [q]; obtain ⟨_, e1, _⟩ := h1; exact Heap.lt_size e1
        · rw [q]; obtain ⟨_, e2, _⟩ := h2; exact Heap.lt_size e2
      rw [upd_ne (Nat.ne_of_lt hlt)]
      exact (hf b hb).1
  done := by
    intro X hP hw hK hc i pins s σ H E I hf st hg
    subst hP hw hK
    obtain ⟨hz, hTI, ⟨x0, y0, hTO⟩, h1, h2⟩ := st
    obtain ⟨xs, hqx, l1, l2, hend⟩ := hg
    obtain ⟨us, rv, p, _⟩ := I.tuple hqx
    have lu : us.toArray.size = xs.length := by rw [List.size_toArray, ← rv.length]
    have hh : X.A.in1.handled = none := I.ok.hd hc
    exact wpAny_pyNext_zipD2_end D (Draws.tuple hh i1 a ha us.toArray) (Draws.text hh i2 t tk) hz hTI hTO ⟨h1, p⟩ h2 (by omega) l2 (by omega) fun h' tk' hk => ⟨rfl, I.turnedL (t' := tk') (ch := [z, TI, TO, i1, i2]) (fun c o hb q =>
      hk c o (fun q' => hb (by simp [q'])) (fun q' => hb (by simp [q'])) (fun q' => hb (by simp [q'])) (fun q' => hb (by simp [q'])) q) hf⟩
  self := fun A i s Q E st h => wpAny_pyIter_zip st.1 h
end JsZ
namespace L2
open PySem PySem.Spec PyProof.Rows
def iZipTS (K : PySem.W.Frag) (ta : TA) : TI := fun σ H R => ta σ H fun vs H1 => ∃ a t xs, vs = [.ref a, .str t] ∧ SqT K H1 a xs ∧ R (JsZ.ItTS K a t) H1
theorem pi_zipTS {X : Cx} {e e2 : Expr} {ta : TA} {p pos tpos : Pos} {elts : List Expr} {kk : Nat} (hg : Gl X "zip") (hm : X.mg "zip" = none) (ha : PA X [e, e2] ta)
    (hs : starEach [e, e2] X.env = (false, eval e X.env) :: starEach [e2] X.env := by rfl) (hpl : (backTo pos (starEach [e2] X.env)).any (·.1) = false := by rfl) : PI X (.Tuple elts kk tpos) (.Call (.Name "zip" p) [e, e2] [] pos) (iZipTS X.K ta) := by
  refine ⟨fun pins s σ H R I h => ?_⟩
  refine Call_ (ld_blt I hg hm PyProof.Rows.boot_zip (PyProof.Rows.callWith_type1 (thn (ha.run pos pins s σ H _ I h) fun us s1 ⟨vs, H1, I1, r1, q1⟩ => ?_) hs hpl))
  obtain ⟨a, t, xs, ex, hqx, q⟩ := q1
  subst ex
  cases r1 with
  | cons r rr =>
    cases rr with
    | cons r' rr =>
      cases rr
      cases r
      obtain ⟨tk, rfl⟩ := r'
      have fresh5 : ∀ c, c ∈ [s1.heap.objs.size + 4, s1.heap.objs.size + 2, s1.heap.objs.size + 3, s1.heap.objs.size, s1.heap.objs.size + 1] → FpOk X pins H1 c := fun c hcm => by
        have hle : s1.heap.objs.size ≤ c := by
          simp only [List.mem_cons, List.not_mem_nil, or_false] at hcm
          omega
        exact I1.fpOk hle (I1.hok.fresh hle)
      obtain ⟨its, rv, p1, _⟩ := I1.tuple hqx
      obtain ⟨o1, ho1, _⟩ := id p1
      have la := Heap.lt_size ho1
      refine JsZ.call_zipTS p1 fun h' hz hTI hTO h1 h2 hsz hk => wpAny_pyIter_zip hz ?_
      have I2 : Inv X pins σ H1 { s1 with heap := h' } := I1.kept (t' := s1.toks) hk
      have D : ZipSep2 (s1.heap.objs.size + 4) (s1.heap.objs.size + 2) (s1.heap.objs.size + 3) s1.heap.objs.size (s1.heap.objs.size + 1) [s1.heap.objs.size, a] [s1.heap.objs.size + 1] := by
        have la2 : ∀ k, s1.heap.objs.size + k ≠ a := fun k h => absurd la (by rw [← h]; exact Nat.not_lt.mpr (Nat.le_add_right _ _))
        constructor <;> simp <;> first | omega | exact la2 _
      exact ⟨s1.heap.objs.size + 4, [s1.heap.objs.size + 4, s1.heap.objs.size + 2, s1.heap.objs.size + 3, s1.heap.objs.size, s1.heap.objs.size + 1], _, _, H1, rfl, I2, JsZ.turn_TS t tk D (Nat.ne_of_lt la), ⟨hz, hTI, ⟨_, _, hTO⟩, h1, h2⟩, fresh5, q⟩
theorem walk_zipTS {K : PySem.W.Frag} {a : Addr} {t : Str} {xs : List V} {n : Nat} (hn : n = min xs.length t.cps.size) : Walk (JsZ.ItTS K a t) n (fun H => SqT K H a xs) (fun i H v H' => ∃ T x c, v = .ref T ∧ H T = none ∧ H' = upd H T (.tup [x, .str ⟨#[c]⟩]) ∧ xs[i]? = some x ∧ t.cps[i]? = some c) :=
  ⟨fun i H hi hq => by
      have h1 : i < xs.length := by omega
      have h2 : i < t.cps.size := by omega
      exact ⟨xs, xs[i], t.cps[i], hq, List.getElem?_eq_getElem h1, Array.getElem?_eq_getElem h2⟩, fun H hq => ⟨xs, hq, by omega, by omega, by omega⟩, fun i H v H' hi hq y => by
      obtain ⟨T, x, c, e1, e2, e3, e4, e5⟩ := y
      exact ⟨T, x, c, e1, e2, e3, e4 xs hq, e5⟩⟩
end L2

set_option Elab.async false
set_option linter.all false
set_option maxRecDepth 100000
set_option maxHeartbeats 2000000
namespace Js
open PySem L2
abbrev sThing : Stmt := top 49
theorem lc_yes {te : TE} {σ : St} {H : Hp} {R : VK} {B : Hp → Prop} (h : te σ H R) : tYes σ H (fun b H3 => if b = true then te σ H3 R else B H3) := by
  show if true = true then te σ H R else B H
  rw [if_pos rfl]
  exact h
theorem paired_split {α β : Type} {F : α → β → Prop} : ∀ (n : Nat) {xs : List α} {ts : List β}, Paired F xs ts → n + 1 < xs.length →
    ∃ xp x y xq tp t u tq, xs = xp ++ x :: y :: xq ∧ ts = tp ++ t :: u :: tq ∧ xp.length = n ∧ tp.length = n ∧ Paired F xp tp ∧ F x t ∧ F y u ∧ Paired F xq tq
  | 0, _, _, .nil, h => absurd h (by simp)
  | 0, _, _, .cons _ .nil, h => absurd h (by simp)
  | 0, _, _, .cons h1 (.cons h2 r), _ => ⟨[], _, _, _, [], _, _, _, rfl, rfl, rfl, rfl, .nil, h1, h2, r⟩
  | n + 1, _, _, .nil, h => absurd h (by simp)
  | n + 1, _, _, .cons (a := a0) (b := b0) h1 r, h => by
    obtain ⟨xp, x, y, xq, tp, t, u, tq, e1, e2, l1, l2, p1, f1, f2, p2⟩ := paired_split n r (by simpa using h)
    exact ⟨_ :: xp, x, y, xq, _ :: tp, t, u, tq, by rw [e1]; rfl, by rw [e2]; rfl, by simp [l1], by simp [l2], .cons h1 p1, f1, f2, p2⟩
theorem paired_append {α β : Type} {F : α → β → Prop} : ∀ {xs xs' : List α} {ys ys' : List β}, Paired F xs ys → Paired F xs' ys' → Paired F (xs ++ xs') (ys ++ ys')
  | _, _, _, _, .nil, h => h
  | _, _, _, _, .cons h t, h' => .cons h (paired_append t h')
def tsz (ts : List Tr) : Nat := (ts.map Tr.size).sum
theorem tsz_append (a b : List Tr) : tsz (a ++ b) = tsz a + tsz b := by simp [tsz]
theorem tsz_cons (a : Tr) (b : List Tr) : tsz (a :: b) = a.size + tsz b := by simp [tsz]
def spThing (C : Addr) : Sp := fun vs H Q _ => ∃ (p : Addr) (m : Nat), vs = [.ref p, .int (m : Nat)] ∧ BagOk H p ∧ m ≤ 3000 ∧ ∀ a t H', KB p H H' → BagOk H' p → Th C H' a t → t.size = m → Q (.ref a) H'
section
variable {P : Program} {w : World} {K : PySem.W.Frag} {mg : Str → Option Value} {base : Heap} {C fI : Addr} {fdI : FuncData}
theorem scTh : FnScope ["_law_bag_here", "_law_many", "_law_some", "_law_at", "_law_k"] ["_law_bag_here", "_law_many"] (defScope sThing) := ⟨rfl, rfl, rfl, by decide +kernel, rfl, by decide +kernel, by decide +kernel⟩
theorem ok_thing {f fT : Addr} {fd fdT : FuncData} (F : Fun K "_law_thing" "_law_thing" sThing f fd) (B : Blt mg) (mk : Maker P w K mg base C fI fdI) (AT : At K mg "_law_take" sTake ["_law_bag_here", "_law_many"] fT fdT) : FnOk P w K mg base CX0 4 f fd ["_law_bag_here", "_law_many"] (spThing C) := by
  have GT : FnOk P w K mg base CX0 1 fT fdT ["_law_bag_here", "_law_many"] spTake := ok_take AT.F
  refine F.ok scTh (fun vs H Q E h => ?_) (fun cdv A outer s H vs Q E hr h => ?_)
  · obtain ⟨p, m, rfl, _⟩ := h
    rfl
  · obtain ⟨p, m, rfl, hbag, hm, k⟩ := h
    have hr1 : Room 1 _ := hr.mono (by decide)
    refine ⟨_, pss_cons (ps_setLc (i := 2) (own := [("_law_k", 4)]) (g := gName 4) (tt := tYes) rfl scTh.nd rfl rfl (sw_true rfl rfl rfl (by decide +kernel)) (pi_range1 rfl B.range (pa_cons (pe_op op_add (pv 1) pe_int) pa_nil))
        (blkOk_by (N := ["_law_bag_here", "_law_many", "_law_some", "_law_at", "_law_k"]) (sc := defScope sThing) (by decide +kernel)) (fun _ _ _ _ _ => pg_name (i := 4) scTh.nd rfl (Or.inl rfl)) (fun _ _ _ _ _ => pts_nil) (fun _ _ _ _ _ => pe_T0 mk hr rfl))
      (pss_cons (ps_while PassesOwn.never (pt_cmpR op_gt (pe_callB call_len_seq (by rfl) B.len PySem.boot_len (pa_cons (pv 2) pa_nil)) pe_int (nomark _))
        (pss_cons (ps_set (i := 3) scTh.nd rfl (Or.inl rfl) (pe_call GT hr1 rfl AT.mgf AT.F.kp AT.b .nil pass0 (pa_cons (pv 0) (pa_cons (pe_op op_sub (pe_callB call_len_seq (by rfl) B.len PySem.boot_len (pa_cons (pv 2) pa_nil)) pe_int) pa_nil))))
        (pss_one (ps_asg (pe_lst (pa_cons (pe_T2 mk hr rfl (pa_cons (pe_ix ix_list (pv 2) (pv 3) (fun _ _ => rfl)) (pa_cons (pe_ix ix_list (pv 2) (pe_op op_add (pv 3) pe_int) (fun _ _ => rfl)) pa_nil))) pa_nil)) (pg_slice (pv 2) (po_some (pv 3)) (po_some (pe_op op_add (pv 3) pe_int)))))))
      (pss_one (ps_ret (pe_ix ix_list (pv 2) pe_int (fun _ _ => rfl))))), ?_⟩
    have hsl := line4
    obtain ⟨bx, hbx⟩ := hbag.some
    refine ⟨_, rfl, _, _, rfl, rfl, _, rfl, by omega, by omega, fun D nD => lc_range (n := ((m : Int) + 1).toNat) (fun i H' => ∃ xs, Same H H' ∧ H' D = some (.lst xs) ∧ Paired (ThV C H') xs (List.replicate i .nil)) ⟨[], Same.new nD, upd_same, .nil⟩ ?_ ?_⟩
    · rintro i H1 hi ⟨xs, s1, hD, hps⟩
      refine ⟨rfl, lc_yes fun z H2 s2 _ h2 => ?_⟩
      have hlen := Paired.length hps
      rw [List.length_replicate] at hlen
      have hD2 := s2 _ _ hD
      refine ⟨xs, hD2, by omega, xs ++ [.ref z], (s1.trans s2).set nD, upd_same, ?_⟩
      have kk : KT H2 (upd H2 D (.lst (xs ++ [.ref z]))) := KT.lst hD2
      have e : List.replicate (i + 1) Tr.nil = List.replicate i .nil ++ [.nil] := List.replicate_succ'
      rw [e]
      exact paired_snoc (ths_kt kk (ths_kt (KT.of s2) hps)) ⟨z, rfl, h2.kt kk⟩
    · rintro H1 ⟨xs, s1, hD, hps⟩
      have em : ((m : Int) + 1).toNat = m + 1 := by omega
      rw [em] at hps
      have npD : p ≠ D := ne_of_none hbx nD
      refine ⟨fun mm σ H' => ∃ (xs : List V) (ts : List Tr) (x3 x4 : Option V), σ = [some (.ref p), some (.int (m : Nat)), some (.ref D), x3, x4] ∧ KB p H H' ∧ BagOk H' p ∧ H' D = some (.lst xs) ∧ Paired (ThV C H') xs ts ∧ tsz ts + ts.length = m + 1 ∧ ts ≠ [] ∧ mm = ts.length, ⟨_, xs, _, none, none, rfl, KB.of s1, hbag.same s1, hD, hps, ?_, by simp, rfl⟩, ?_⟩
      · have : ∀ n, tsz (List.replicate n .nil) = 0 := by
          intro n
          induction n with
          | zero => rfl
          | succ n ih => rw [List.replicate_succ, tsz_cons, ih]; rfl
        rw [this, List.length_replicate]
        omega
      · rintro mm σ H2 ⟨xs, ts, x3, x4, rfl, k2, hbag2, hD2, hps2, hsz, hne, rfl⟩
        have hlen := Paired.length hps2
        refine ⟨_, rfl, D, _, rfl, .inl (SqL.of hD2), _, _, rfl, rfl, _, rfl, ?_⟩
        by_cases h1 : 1 < xs.length
        · have ed : decide ((1 : Int) < ((xs.length : Nat) : Int)) = true := decide_eq_true (by omega)
          rw [ed]
          refine iteT ⟨fun σ' H3 => ∃ m', m' < ts.length ∧ _, fun σ' H3 z => z, ?_⟩
          refine ⟨_, rfl, _, rfl, D, _, rfl, .inl (SqL.of hD2), _, _, rfl, rfl, p, _, rfl, hbag2, by omega, by omega, fun d H3 k3 hbag3 hd0 hd1 => ?_⟩
          have hD3 := k3 _ _ (Ne.symm npD) hD2
          have hps3 := ths_kt (hbag2.kt k3) hps2
          obtain ⟨dn, rfl⟩ := Int.eq_ofNat_of_zero_le hd0
          obtain ⟨xp, x, y, xq, tp, t, u, tq, rfl, rfl, l1, l2, p1, f1, f2, p2⟩ := paired_split dn hps3 (by omega)
          obtain ⟨a1, rfl, g1⟩ := f1
          obtain ⟨a2, rfl, g2⟩ := f2
          simp only [tsz_append, tsz_cons, List.length_append, List.length_cons] at hsz
          have ix1 : atI (xp ++ V.ref a1 :: V.ref a2 :: xq) ((dn : Nat) : Int) = some (.ref a1) := atI_nat (by rw [List.getElem?_append_right (by omega), l1, Nat.sub_self]; rfl)
          have ix2 : atI (xp ++ V.ref a1 :: V.ref a2 :: xq) (((dn : Nat) : Int) + 1) = some (.ref a2) := by
            have e : (((dn : Nat) : Int) + 1) = ((dn + 1 : Nat) : Int) := by omega
            rw [e]
            exact atI_nat (by rw [List.getElem?_append_right (by omega), l1]; simp)
          refine ⟨_, rfl, _, rfl, D, _, _, _, rfl, rfl, SqL.of hD3, ix1, _, rfl, _, rfl, _, _, rfl, rfl, D, _, _, _, rfl, rfl, SqL.of hD3, ix2, a1, a2, t, u, rfl, g1, g2, by omega, fun z H4 s4 _ h4 => ?_⟩
          refine ⟨(by show 1 ≤ sizeLine; decide), fun q nq => ?_⟩
          have hD4 := s4 _ _ hD3
          have nqD : D ≠ q := ne_of_none hD4 nq
          have hlx : (xp ++ V.ref a1 :: V.ref a2 :: xq).length = dn + 2 + xq.length := by
            rw [List.length_append, List.length_cons, List.length_cons]
            omega
          have hD5 : (upd H4 q (.lst [.ref z])) D = some (.lst (xp ++ V.ref a1 :: V.ref a2 :: xq)) := (upd_ne nqD).trans hD4
          have hle : xq.length = tq.length := Paired.length p2
          refine ⟨_, rfl, _, rfl, _, rfl, _, rfl, _, _, rfl, rfl, _, rfl, D, q, _, _, _, _, rfl, rfl, rfl, rfl, hD5, upd_same, nqD, by omega, by omega, by rw [hlx]; omega, by rw [hlx]; show _ + 1 ≤ _; omega, ?_⟩
          have e1 : (xp ++ V.ref a1 :: V.ref a2 :: xq).take ((dn : Nat) : Int).toNat = xp := by
            rw [Int.toNat_natCast, ← l1, List.take_left]
          have e2 : (xp ++ V.ref a1 :: V.ref a2 :: xq).drop (((dn : Nat) : Int) + 1 + 1).toNat = xq := by
            have e : (((dn : Nat) : Int) + 1 + 1).toNat = xp.length + 2 := by omega
            rw [e, List.drop_append]
            simp
          have e3 : (((dn : Nat) : Int) + 2).toNat = (((dn : Nat) : Int) + 1 + 1).toNat := by omega
          rw [e1]
          try rw [e3]
          rw [e2]
          have k5 : KT H4 (upd (upd H4 q (.lst [.ref z])) D (.lst (xp ++ [.ref z] ++ xq))) := (KT.new nq).trans (KT.lst hD5)
          have k45 := (KT.of s4).trans k5
          refine ⟨(tp ++ [Tr.pr t u] ++ tq).length, ?_, xp ++ [.ref z] ++ xq, tp ++ [.pr t u] ++ tq, _, _, rfl, ?_, ?_, upd_same, paired_append (paired_append (ths_kt k45 p1) (.cons ⟨z, rfl, h4.kt k5⟩ .nil)) (ths_kt k45 p2), ?_, ?_, rfl⟩
          · simp
          · intro a o na h
            have h4' := s4 _ _ (k3 _ _ na (k2 _ _ na h))
            rw [upd_ne (ne_of_none h nD), upd_ne (ne_of_none h4' nq)]
            exact h4'
          · obtain ⟨x0, x1, pr, x3', h, r⟩ := hbag3.ex
            exact ⟨x0, x1, pr, x3', (upd_ne npD).trans ((upd_ne (ne_of_none (s4 _ _ h) nq)).trans (s4 _ _ h)), r⟩
          · simp only [tsz_append, tsz_cons, List.length_append, List.length_cons, Tr.size]
            simp [tsz]
            simp [tsz] at hsz
            omega
          · simp
        · have ed : decide ((1 : Int) < ((xs.length : Nat) : Int)) = false := decide_eq_false (by omega)
          rw [ed]
          refine iteF ?_
          cases hps2 with
          | nil => exact absurd rfl hne
          | @cons v t vs ts hv hps2 =>
            cases hps2 with
            | cons _ _ => simp at h1
            | nil =>
              obtain ⟨a, rfl, ha⟩ := hv
              refine ⟨_, rfl, D, _, _, .ref a, rfl, rfl, SqL.of hD2, rfl, k a t H2 k2 hbag2 ha ?_⟩
              simp [tsz] at hsz
              omega
end
end Js

set_option Elab.async false
set_option linter.all false
set_option maxRecDepth 100000
set_option maxHeartbeats 2000000
namespace Js
open PySem L2
abbrev sIsName : Stmt := top 26
abbrev sFits : Stmt := top 27
abbrev sHasForm : Stmt := top 28
abbrev sRowsIn : Stmt := top 30
def kindOf : Dd → Str
  | .told _ _ => "told"
  | .take s _ _ => takeS s
  | .two s _ _ _ => twoS s
  | .wh _ _ => "while"
  | .iff _ _ _ => "if"
def formOf : Dd → Str
  | .told _ _ => "nt"
  | .take _ _ _ => "nn"
  | .two _ _ _ _ => "nnn"
  | .wh _ _ => "nr"
  | .iff _ _ _ => "nrr"
def forms : List (Str × Str) := [("told", "nt"), ("first", "nn"), ("second", "nn"), ("pair", "nnn"), ("same", "nnn"), ("while", "nr"), ("if", "nrr")]
theorem form_in : ∀ d : Dd, (kindOf d, formOf d) ∈ forms
  | .told _ _ => by simp [kindOf, formOf, forms]
  | .take false _ _ => by simp [kindOf, formOf, forms, takeS]
  | .take true _ _ => by simp [kindOf, formOf, forms, takeS]
  | .two false _ _ _ => by simp [kindOf, formOf, forms, twoS]
  | .two true _ _ _ => by simp [kindOf, formOf, forms, twoS]
  | .wh _ _ => by simp [kindOf, formOf, forms]
  | .iff _ _ _ => by simp [kindOf, formOf, forms]
/-- what the top says of the forms, and the numbers -/
structure FrmC (K : PySem.W.Frag) (w : World) (mg : Str → Option Value) : Prop where
  ex : ∃ dF es n, mg "FORMS" = some (.ref dF) ∧ KDict K w dF es n ∧ ∀ kf ∈ forms, ∃ t, PySem.W.nsIn K dF kf.1 = some (some (.str kf.2 t))
  mM : ∃ t, mg "MANY_NAMES" = some (.int 10 t)
  mD : ∃ t, mg "MOST_DEEDS" = some (.int 4000 t)
  mF : ∃ t, mg "MOST_FLOORS" = some (.int 8 t)
  mb : mg "bool" = none
  mt : mg "tuple" = none
  mz : mg "zip" = none
  me : mg "enumerate" = none
  ii : PySem.W.kitOne K (.type "int") (.type "int") = some true
  ib : PySem.W.kitOne K (.type "int") (.type "bool") = some false
  tt : PySem.W.kitOne K (.type "tuple") (.type "tuple") = some true
  ss : PySem.W.kitOne K (.type "str") (.type "str") = some true
theorem all_rep (n : Nat) : (List.replicate n true).all id = true := by
  rw [List.all_eq_true]
  intro b hb
  rw [(List.mem_replicate.mp hb).2]
  rfl
def FitsV (K : PySem.W.Frag) (C : Addr) (H : Hp) (x : V) (c : Nat) : Prop := (c = 110 ∧ ∃ a : Nat, a < 10 ∧ x = .int (a : Nat)) ∨ (c = 116 ∧ ∃ a t, x = .ref a ∧ Th C H a t) ∨ (c = 114 ∧ ∃ q vs, x = .ref q ∧ SqT K H q vs)
theorem FitsV.same {K : PySem.W.Frag} {C : Addr} {H H' : Hp} (s : Same H H') {x : V} {c : Nat} (h : FitsV K C H x c) : FitsV K C H' x c := by
  rcases h with h | ⟨e, a, t, e2, h⟩ | ⟨e, q, vs, e2, h⟩
  · exact .inl h
  · exact .inr (.inl ⟨e, a, t, e2, h.same s⟩)
  · exact .inr (.inr ⟨e, q, vs, e2, sqt_kt (KT.of s) h⟩)
theorem cps_nt : ("nt" : Str).cps = #[110, 116] := by decide +kernel
theorem cps_nn : ("nn" : Str).cps = #[110, 110] := by decide +kernel
theorem cps_nnn : ("nnn" : Str).cps = #[110, 110, 110] := by decide +kernel
theorem cps_nr : ("nr" : Str).cps = #[110, 114] := by decide +kernel
theorem cps_nrr : ("nrr" : Str).cps = #[110, 114, 114] := by decide +kernel
/-- the form of a deed that stands -/
theorem shape {K : PySem.W.Frag} {C : Addr} {H : Hp} {v : V} : ∀ (d : Dd), DAt K C H v d → ∃ p its, v = .ref p ∧ SqT K H p (.str (kindOf d) :: its) ∧ its.length = (formOf d).cps.size ∧ its ≠ [] ∧ its.length ≤ 3 ∧ ∀ (i : Nat) x c, its[i]? = some x → (formOf d).cps[i]? = some c → FitsV K C H x c
  | .told a t, h => by
    obtain ⟨p, x, e, h1, h2, h3, h4⟩ := h
    refine ⟨p, _, e, h1, by rw [formOf, cps_nt]; rfl, by simp, by simp, fun i y c g1 g2 => ?_⟩
    rw [formOf, cps_nt] at g2
    match i, g1, g2 with
    | 0, g1, g2 => cases Option.some.inj g1; cases Option.some.inj g2; exact .inl ⟨rfl, a, h2, rfl⟩
    | 1, g1, g2 => cases Option.some.inj g1; cases Option.some.inj g2; exact .inr (.inl ⟨rfl, x, t, rfl, h3⟩)
    | i + 2, g1, g2 => simp at g1
  | .take s a b, h => by
    obtain ⟨p, e, h1, h2, h3⟩ := h
    refine ⟨p, _, e, h1, by rw [formOf, cps_nn]; rfl, by simp, by simp, fun i y c g1 g2 => ?_⟩
    rw [formOf, cps_nn] at g2
    match i, g1, g2 with
    | 0, g1, g2 => cases Option.some.inj g1; cases Option.some.inj g2; exact .inl ⟨rfl, a, h2, rfl⟩
    | 1, g1, g2 => cases Option.some.inj g1; cases Option.some.inj g2; exact .inl ⟨rfl, b, h3, rfl⟩
    | i + 2, g1, g2 => simp at g1
  | .two s a b c, h => by
    obtain ⟨p, e, h1, h2, h3, h4⟩ := h
    refine ⟨p, _, e, h1, by rw [formOf, cps_nnn]; rfl, by simp, by simp, fun i y z g1 g2 => ?_⟩
    rw [formOf, cps_nnn] at g2
    match i, g1, g2 with
    | 0, g1, g2 => cases Option.some.inj g1; cases Option.some.inj g2; exact .inl ⟨rfl, a, h2, rfl⟩
    | 1, g1, g2 => cases Option.some.inj g1; cases Option.some.inj g2; exact .inl ⟨rfl, b, h3, rfl⟩
    | 2, g1, g2 => cases Option.some.inj g1; cases Option.some.inj g2; exact .inl ⟨rfl, c, h4, rfl⟩
    | i + 3, g1, g2 => simp at g1
  | .wh a r, h => by
    obtain ⟨p, q, vs, e, h1, h2, h3, h4⟩ := h
    refine ⟨p, _, e, h1, by rw [formOf, cps_nr]; rfl, by simp, by simp, fun i y c g1 g2 => ?_⟩
    rw [formOf, cps_nr] at g2
    match i, g1, g2 with
    | 0, g1, g2 => cases Option.some.inj g1; cases Option.some.inj g2; exact .inl ⟨rfl, a, h2, rfl⟩
    | 1, g1, g2 => cases Option.some.inj g1; cases Option.some.inj g2; exact .inr (.inr ⟨rfl, q, vs, rfl, h3⟩)
    | i + 2, g1, g2 => simp at g1
  | .iff a r o, h => by
    obtain ⟨p, q, vs, q2, vs2, e, h1, h2, h3, h4, h5, h6⟩ := h
    refine ⟨p, _, e, h1, by rw [formOf, cps_nrr]; rfl, by simp, by simp, fun i y c g1 g2 => ?_⟩
    rw [formOf, cps_nrr] at g2
    match i, g1, g2 with
    | 0, g1, g2 => cases Option.some.inj g1; cases Option.some.inj g2; exact .inl ⟨rfl, a, h2, rfl⟩
    | 1, g1, g2 => cases Option.some.inj g1; cases Option.some.inj g2; exact .inr (.inr ⟨rfl, q, vs, rfl, h3⟩)
    | 2, g1, g2 => cases Option.some.inj g1; cases Option.some.inj g2; exact .inr (.inr ⟨rfl, q2, vs2, rfl, h5⟩)
    | i + 3, g1, g2 => simp at g1
/-- rows, one behind the other -/
def RowsAt (K : PySem.W.Frag) (C : Addr) (H : Hp) (ws : List V) (rs : List (List Dd)) : Prop := Paired (fun v r => ∃ q, v = .ref q ∧ RAt K C H q r) ws rs
theorem RowsAt.kt {K : PySem.W.Frag} {C : Addr} {H H' : Hp} (k : KT H H') : ∀ {ws : List V} {rs : List (List Dd)}, RowsAt K C H ws rs → RowsAt K C H' ws rs
  | _, _, .nil => .nil
  | _, _, .cons ⟨q, e, h⟩ t => .cons ⟨q, e, h.kt k⟩ (RowsAt.kt k t)
def spIsName : Sp := fun vs H Q _ => ∃ a : Nat, vs = [.int (a : Nat)] ∧ a < 10 ∧ Q (.bl true) H
def spFits (K : PySem.W.Frag) (C : Addr) : Sp := fun vs H Q _ => ∃ x c, vs = [x, .str ⟨#[c]⟩] ∧ FitsV K C H x c ∧ Q (.bl true) H
def spHasForm (K : PySem.W.Frag) (C : Addr) : Sp := fun vs H Q _ => ∃ v d, vs = [v] ∧ DAt K C H v d ∧ ∀ H', Same H H' → Q (.bl true) H'
def spRowsIn (K : PySem.W.Frag) (C : Addr) : Sp := fun vs H Q _ => ∃ v d, vs = [v] ∧ DAt K C H v d ∧ ∀ p ws H', Same H H' → SqT K H' p ws → RowsAt K C H' ws d.rows → Q (.ref p) H'
theorem c_n : ("n" : Str) = ⟨#[110]⟩ := by decide +kernel
theorem c_t : ("t" : Str) = ⟨#[116]⟩ := by decide +kernel
theorem c_r : ("r" : Str) = ⟨#[114]⟩ := by decide +kernel
theorem sg_eq (a b : Nat) : decide (V.str ⟨#[a]⟩ = V.str ⟨#[b]⟩) = decide (a = b) := by simp
section
variable {P : Program} {w : World} {K : PySem.W.Frag} {mg : Str → Option Value} {base : Heap} {C : Addr}
theorem scIN : FnScope ["part"] ["part"] (defScope sIsName) := ⟨rfl, rfl, rfl, by decide +kernel, rfl, by decide +kernel, by decide +kernel⟩
theorem ok_isName {f : Addr} {fd : FuncData} (F : Fun K "is_name" "is_name" sIsName f fd) (B : Blt mg) (T : Txt K mg C) (G : FrmC K w mg) : FnOk P w K mg base CX0 1 f fd ["part"] spIsName := by
  obtain ⟨tm, mM⟩ := G.mM
  refine F.ok scIN (fun vs H Q E h => ?_) (fun cdv A outer s H vs Q E hr h => ?_)
  · obtain ⟨a, rfl, _⟩ := h
    rfl
  · obtain ⟨a, rfl, ha, k⟩ := h
    refine ⟨_, pss_one (ps_ret (pe_and (pe_callB (r := rIsi K) call_isi (by rfl) T.isi PyProof.Rows.boot_isinstance (pa_cons (pv 0) (pa_cons (pe_bltn (v := .ty "int") rfl B.int PyProof.Rows.boot_int rfl) pa_nil))) (pe_and (pe_not (pe_callB (r := rIsi K) call_isi (by rfl) T.isi PyProof.Rows.boot_isinstance (pa_cons (pv 0) (pa_cons (pe_bltn (v := .ty "bool") rfl G.mb PyProof.Rows.boot_bool rfl) pa_nil)))) (pe_one (pe_chain op_le op_lt pe_int (pv 0) (pe_glob (v := .int 10) rfl mM ⟨_, rfl⟩)))))), ?_⟩
    refine ⟨_, rfl, _, _, _, _, true, rfl, .ty "int", .base (.int _), G.ii, _, rfl, iteT ?_⟩
    refine ⟨_, rfl, _, _, _, _, false, rfl, .ty "bool", .base (.int _), G.ib, _, rfl, _, rfl, iteT ?_⟩
    refine ⟨_, rfl, _, _, rfl, rfl, _, rfl, ?_⟩
    rw [decide_eq_true (show (0 : Int) ≤ ((a : Nat) : Int) by omega)]
    refine iteT ?_
    refine ⟨_, _, rfl, rfl, ?_⟩
    show Q (.bl (decide (((a : Nat) : Int) < 10))) H
    rw [decide_eq_true (show ((a : Nat) : Int) < 10 by omega)]
    exact k
theorem scFt : FnScope ["part", "sign"] ["part", "sign"] (defScope sFits) := ⟨rfl, rfl, rfl, by decide +kernel, rfl, by decide +kernel, by decide +kernel⟩
theorem ok_fits {f : Addr} {fd : FuncData} (F : Fun K "fits" "fits" sFits f fd) (B : Blt mg) (T : Txt K mg C) (G : FrmC K w mg) (DI : Def P w K mg base "is_name" 1 ["part"] spIsName) : FnOk P w K mg base CX0 2 f fd ["part", "sign"] (spFits K C) := by
  refine F.ok scFt (fun vs H Q E h => ?_) (fun cdv A outer s H vs Q E hr h => ?_)
  · obtain ⟨x, c, rfl, _⟩ := h
    rfl
  · obtain ⟨x, c, rfl, hf, k⟩ := h
    refine ⟨_, pss_cons (ps_if (pt_cmpR op_eq (pv 1) pe_str (nomark _)) (pss_one (ps_ret (pe_def DI hr rfl (pa_cons (pv 0) pa_nil)))) pss_nil) (pss_cons (ps_if (pt_cmpR op_eq (pv 1) pe_str (nomark _)) (pss_one (ps_ret (pe_callB (r := rIsi K) call_isi (by rfl) T.isi PyProof.Rows.boot_isinstance (pa_cons (pv 0) (pa_cons (pe_glob (v := .ref C) rfl T.mgC rfl) pa_nil))))) pss_nil) (pss_one (ps_ret (pe_callB (r := rIsi K) call_isi (by rfl) T.isi PyProof.Rows.boot_isinstance (pa_cons (pv 0) (pa_cons (pe_bltn (v := .ty "tuple") rfl G.mt PyProof.Rows.boot_tuple rfl) pa_nil)))))), ?_⟩
    refine ⟨_, rfl, rfl, _, rfl, ?_⟩
    rw [c_n, sg_eq]
    rcases hf with ⟨rfl, a, ha, rfl⟩ | ⟨rfl, a, t, rfl, ha⟩ | ⟨rfl, q, vs, rfl, hq⟩
    · rw [decide_eq_true rfl]
      refine iteT ?_
      exact ⟨_, rfl, a, rfl, ha, k⟩
    · rw [decide_eq_false (by decide)]
      refine iteF ?_
      refine ⟨_, rfl, rfl, _, rfl, ?_⟩
      rw [c_t, sg_eq, decide_eq_true rfl]
      refine iteT ?_
      obtain ⟨dx, f1, g1, h1⟩ := ha.obj
      exact ⟨_, rfl, _, _, _, _, true, rfl, ClsV.own C, .base (.ins h1 T.cl T.ca T.cn T.ct T.cm), kit_self _ _, k⟩
    · rw [decide_eq_false (by decide)]
      refine iteF ?_
      refine ⟨_, rfl, rfl, _, rfl, ?_⟩
      rw [c_t, sg_eq, decide_eq_false (by decide)]
      refine iteF ?_
      exact ⟨_, rfl, _, _, _, _, true, rfl, .ty "tuple", sqt_ty hq, G.tt, k⟩
theorem scHF : FnScope ["deed", "kind", "form", "part", "sign"] ["deed"] (defScope sHasForm) := ⟨rfl, rfl, rfl, by decide +kernel, rfl, by decide +kernel, by decide +kernel⟩
theorem at0 (x : V) (xs : List V) : atI (x :: xs) 0 = some x := by
  have h : atI (x :: xs) ((0 : Nat) : Int) = some x := atI_nat rfl
  exact h
theorem cut1 (x : V) (its : List V) : cutV (x :: its) (some 1) none = its := by
  have e : HT.sIx (its.length + 1) 0 (some 1) = 1 := by
    show min 1 (its.length + 1) = 1
    omega
  unfold cutV
  rw [List.length_cons, e, HT.sIx_none, Nat.add_sub_cancel, List.drop_succ_cons, List.drop_zero, List.take_length]
theorem cut2 (x y : V) (its : List V) : cutV (x :: y :: its) (some 2) none = its := by
  have e : HT.sIx (its.length + 1 + 1) 0 (some 2) = 2 := by
    show min 2 (its.length + 1 + 1) = 2
    omega
  unfold cutV
  rw [List.length_cons, List.length_cons, e, HT.sIx_none, show its.length + 1 + 1 - 2 = its.length from rfl, List.drop_succ_cons, List.drop_succ_cons, List.drop_zero, List.take_length]
theorem ok_hasForm {f : Addr} {fd : FuncData} (F : Fun K "has_form" "has_form" sHasForm f fd) (B : Blt mg) (T : Txt K mg C) (G : FrmC K w mg) (DF : Def P w K mg base "fits" 2 ["part", "sign"] (spFits K C)) : FnOk P w K mg base CX0 3 f fd ["deed"] (spHasForm K C) := by
  obtain ⟨dF, es, n, mF, kd, hk⟩ := G.ex
  refine F.ok scHF (fun vs H Q E h => ?_) (fun cdv A outer s H vs Q E hr h => ?_)
  · obtain ⟨v, d, rfl, _⟩ := h
    rfl
  · obtain ⟨v, d, rfl, hd, k⟩ := h
    refine ⟨_, pss_cons (ps_if (PW.pt (pw_or (pt_not (pt_val (pe_callB (r := rIsi K) call_isi (by rfl) T.isi PyProof.Rows.boot_isinstance (pa_cons (pv 0) (pa_cons (pe_bltn (v := .ty "tuple") rfl G.mt PyProof.Rows.boot_tuple rfl) pa_nil))))) (pw_or1 (pt_cmpR op_eq (pe_callB call_len_seq (by rfl) B.len PySem.boot_len (pa_cons (pv 0) pa_nil)) pe_int (nomark _))))) (pss_one (ps_ret pe_bl)) pss_nil) (pss_cons (ps_set (i := 1) scHF.nd rfl (Or.inl rfl) (pe_ix (r := rIxT K) ix_tup (pv 0) pe_int (fun _ _ => rfl))) (pss_cons (ps_if (PW.pt (pw_or (pt_not (pt_val (pe_callB (r := rIsi K) call_isi (by rfl) T.isi PyProof.Rows.boot_isinstance (pa_cons (pv 1) (pa_cons (pe_bltn (v := .ty "str") rfl B.str PyProof.Rows.boot_str rfl) pa_nil))))) (pw_or1 (pt_cmpR (op_notIn_kd kd) (pv 1) (pe_glob (v := .ref dF) rfl mF rfl) rfl)))) (pss_one (ps_ret pe_bl)) pss_nil) (pss_cons (ps_set (i := 2) scHF.nd rfl (Or.inl rfl) (pe_ix (r := rIxD K w) ix_kdict (pe_glob (v := .ref dF) rfl mF rfl) (pv 1) (fun _ _ => rfl))) (pss_one (ps_ret (pe_and (pe_cmpR op_eq (pe_callB call_len_seq (by rfl) B.len PySem.boot_len (pa_cons (pv 0) pa_nil)) (pe_op op_add pe_int (pe_callB call_len_str (by rfl) B.len PySem.boot_len (pa_cons (pv 2) pa_nil))) (nomark _)) (pe_one (pe_callB (cr_all rfl) (by rfl) B.all (by decide +kernel) (pa_cons (pe_lc (own := [("part", 3), ("sign", 4)]) (g := gTup K 2 (gCons (gName 3) (gCons (gName 4) gNil))) (tt := tYes) rfl scHF.nd (pi_zipTS rfl G.mz (pa_cons (pe_slice sl_tup (pv 0) (po_some pe_int) po_none) (pa_cons (pv 2) pa_nil))) (blkOk_by (N := ["deed", "kind", "form", "part", "sign"]) (sc := defScope sHasForm) (by decide +kernel)) (fun _ _ _ _ _ => by exact (pg_tup rfl (pgs_cons (pg_name (i := 3) scHF.nd rfl (Or.inl rfl)) (pgs_cons (pg_name (i := 4) scHF.nd rfl (Or.inl rfl)) pgs_nil)))) (fun _ _ _ _ _ => pts_nil) (fun _ _ _ _ _ => (pe_def DF hr rfl (pa_cons (pv 3) (pa_cons (pv 4) pa_nil))))) pa_nil))))))))), ?_⟩
    obtain ⟨p, its, rfl, hp, hl, hne, hl3, hall⟩ := shape d hd
    obtain ⟨tk, hk⟩ := hk _ (form_in d)
    have hsl := line4
    refine ⟨_, rfl, _, _, _, _, true, rfl, .ty "tuple", sqt_ty hp, G.tt, _, rfl, iteF ?_⟩
    refine ⟨_, rfl, p, _, rfl, .inr hp, rfl, _, rfl, ?_⟩
    have e0 : decide (V.int ((((V.str (kindOf d)) :: its).length : Nat) : Int) = V.int 0) = false := by
      rw [List.length_cons]
      simp only [decide_eq_false_iff_not, V.int.injEq]
      omega
    rw [e0]
    refine iteF ?_
    refine ⟨_, rfl, p, _, 0, _, rfl, rfl, hp, at0 _ _, ?_⟩
    refine ⟨_, rfl, _, _, _, _, true, rfl, .ty "str", .base (.str _), G.ss, _, rfl, iteF ?_⟩
    refine ⟨_, rfl, _, _, rfl, rfl, hk, _, rfl, iteF ?_⟩
    refine ⟨_, rfl, dF, _, .str (formOf d), rfl, rfl, ⟨es, n, _, kd.at_, kd.lit, hk, ⟨_, rfl⟩⟩, ?_⟩
    refine ⟨_, rfl, p, _, rfl, .inr hp, ?_⟩
    have fl : (formOf d).length = its.length := hl.symm
    refine ⟨_, rfl, formOf d, rfl, by omega, _, _, rfl, rfl, rfl, _, rfl, ?_⟩
    have e1 : decide (V.int ((((V.str (kindOf d)) :: its).length : Nat) : Int) = V.int (1 + (((formOf d).length : Nat) : Int))) = true := by
      rw [List.length_cons, fl]
      simp only [decide_eq_true_eq, V.int.injEq]
      omega
    rw [e1]
    refine iteT ?_
    refine ⟨_, rfl, _, rfl, p, _, rfl, hp, ?_, fun q nq => ?_⟩
    · rintro ⟨h0, _⟩
      have e : HT.sIx (its.length + 1) 0 (some 1) = 1 := by
        show min 1 (its.length + 1) = 1
        omega
      rw [List.length_cons, e] at h0
      cases h0
    rw [cut1]
    have sq := Same.new nq (o := .tup its)
    refine ⟨_, rfl, q, _, its, rfl, SqT.of upd_same, fun D nD => lc_it (n := its.length) (walk_zipTS (K := K) (a := q) (t := formOf d) (xs := its) (by rw [← hl, Nat.min_self])) (fun i H' => Same (upd H q (.tup its)) H' ∧ SqT K H' q its ∧ H' D = some (.lst (List.replicate i (.bl true)))) ⟨Same.new nD, SqT.of (Same.new nD _ _ upd_same), upd_same⟩ (fun i H' _ z => z.2.1) ?_ ?_⟩
    · rintro i y H1 H2 hi ⟨s1, hq1, hD1⟩ ⟨T, x, c, rfl, nT, rfl, hx, hc⟩
      have sT := Same.new nT (o := .tup [x, .str ⟨#[c]⟩])
      refine ⟨T, _, rfl, SqT.of upd_same, rfl, _, _, rfl, _, _, rfl, rfl, rfl, lc_yes ?_⟩
      refine ⟨_, rfl, _, rfl, x, c, rfl, (hall i x c hx hc).same ((sq.trans s1).trans sT), ?_⟩
      refine ⟨_, sT _ _ hD1, by rw [List.length_replicate]; omega, (s1.trans sT).set nD, ?_, ?_⟩
      · have nDq : q ≠ D := fun z => by
          rw [← z, upd_same] at nD
          cases nD
        exact sqt_kt (KT.lst (sT _ _ hD1)) (sqt_kt (KT.of sT) hq1)
      · rw [upd_same, List.replicate_succ']
    · rintro H1 ⟨s1, hq1, hD1⟩
      refine ⟨D, List.replicate its.length true, rfl, SqL.of ?_, ?_⟩
      · rw [hD1, List.map_replicate]
      · have ea : ((List.replicate its.length true).all id) = true := all_rep _
        rw [ea]
        exact k H1 (sq.trans s1)
theorem scRI : FnScope ["deed"] ["deed"] (defScope sRowsIn) := ⟨rfl, rfl, rfl, by decide +kernel, rfl, by decide +kernel, by decide +kernel⟩
theorem rows_look {K : PySem.W.Frag} {C : Addr} {H : Hp} {v : V} : ∀ (d : Dd), DAt K C H v d → ∃ p y its, v = .ref p ∧ SqT K H p (.str (kindOf d) :: y :: its) ∧ ((decide (114 ∈ (formOf d).cps.toList) = true ∧ RowsAt K C H its d.rows) ∨ (decide (114 ∈ (formOf d).cps.toList) = false ∧ d.rows = []))
  | .told a t, h => by
    obtain ⟨p, x, e, h1, h2, h3, h4⟩ := h
    exact ⟨p, _, _, e, h1, .inr ⟨by rw [formOf, cps_nt]; decide, rfl⟩⟩
  | .take s a b, h => by
    obtain ⟨p, e, h1, h2, h3⟩ := h
    exact ⟨p, _, _, e, h1, .inr ⟨by rw [formOf, cps_nn]; decide, rfl⟩⟩
  | .two s a b c, h => by
    obtain ⟨p, e, h1, h2, h3, h4⟩ := h
    exact ⟨p, _, _, e, h1, .inr ⟨by rw [formOf, cps_nnn]; decide, rfl⟩⟩
  | .wh a r, h => by
    obtain ⟨p, q, vs, e, h1, h2, h3, h4⟩ := h
    exact ⟨p, _, _, e, h1, .inl ⟨by rw [formOf, cps_nr]; decide, .cons ⟨q, rfl, vs, h3, h4⟩ .nil⟩⟩
  | .iff a r o, h => by
    obtain ⟨p, q, vs, q2, vs2, e, h1, h2, h3, h4, h5, h6⟩ := h
    exact ⟨p, _, _, e, h1, .inl ⟨by rw [formOf, cps_nrr]; decide, .cons ⟨q, rfl, vs, h3, h4⟩ (.cons ⟨q2, rfl, vs2, h5, h6⟩ .nil)⟩⟩
theorem ok_rowsIn {f : Addr} {fd : FuncData} (F : Fun K "rows_in" "rows_in" sRowsIn f fd) (G : FrmC K w mg) : FnOk P w K mg base CX0 1 f fd ["deed"] (spRowsIn K C) := by
  obtain ⟨dF, es, n, mF, kd, hk⟩ := G.ex
  refine F.ok scRI (fun vs H Q E h => ?_) (fun cdv A outer s H vs Q E hr h => ?_)
  · obtain ⟨v, d, rfl, _⟩ := h
    rfl
  · obtain ⟨v, d, rfl, hd, k⟩ := h
    refine ⟨_, pss_one (ps_ret (pe_ifExp (pt_cmpR op_in_sign pe_str (pe_ix (r := rIxD K w) ix_kdict (pe_glob (v := .ref dF) rfl mF rfl) (pe_ix (r := rIxT K) ix_tup (pv 0) pe_int (fun _ _ => rfl)) (fun _ _ => rfl)) rfl) (pe_slice sl_tup (pv 0) (po_some pe_int) po_none) (pe_tup pa_nil))), ?_⟩
    obtain ⟨p, y, its, rfl, hp, hrs⟩ := rows_look d hd
    obtain ⟨tk, hk⟩ := hk _ (form_in d)
    have hsl := line4
    refine ⟨_, rfl, p, _, 0, _, rfl, rfl, hp, at0 _ _, dF, _, .str (formOf d), rfl, rfl, ⟨es, n, _, kd.at_, kd.lit, hk, ⟨_, rfl⟩⟩, 114, formOf d, congrArg V.str c_r, rfl, _, rfl, ?_⟩
    rcases hrs with ⟨e, hrs⟩ | ⟨e, hrs⟩
    · rw [e]
      refine iteT ?_
      refine ⟨_, rfl, _, rfl, p, _, rfl, hp, ?_, fun q nq => ?_⟩
      · rintro ⟨h0, _⟩
        have e : HT.sIx (its.length + 1 + 1) 0 (some 2) = 2 := by
          show min 2 (its.length + 1 + 1) = 2
          omega
        rw [List.length_cons, List.length_cons, e] at h0
        cases h0
      rw [cut2]
      exact k q its _ (Same.new nq) (SqT.of upd_same) (hrs.kt (KT.of (Same.new nq)))
    · rw [e]
      refine iteF ?_
      refine ⟨Nat.zero_le _, fun q nq => ?_⟩
      exact k q [] _ (Same.new nq) (SqT.of upd_same) (by rw [hrs]; exact .nil)
end
end Js

set_option Elab.async false
set_option linter.all false
set_option maxRecDepth 100000
set_option maxHeartbeats 2000000
namespace Js
open PySem L2
abbrev sLook : Stmt := top 31
def manyL : List (List Dd) → Nat
  | [] => 0
  | r :: rs => manyR r + manyL rs
def endsL : List (List Dd) → Nat → List Nat
  | [], _ => []
  | r :: rs, n => endsR r n ++ endsL rs (n + manyR r)
def deepL : List (List Dd) → Nat
  | [] => 0
  | r :: rs => max (deepR r) (deepL rs)
theorem many_rows : ∀ d : Dd, d.many = manyL d.rows + 1
  | .told _ _ => rfl
  | .take _ _ _ => rfl
  | .two _ _ _ _ => rfl
  | .wh a r => by rw [many_wh, Dd.rows, manyL, manyL, Nat.add_zero]
  | .iff a r o => by rw [many_iff]; simp only [Dd.rows, manyL]; omega
theorem ends_rows : ∀ (d : Dd) (n : Nat), d.ends n = (n + d.many) :: endsL d.rows (n + 1)
  | .told _ _, _ => rfl
  | .take _ _ _, _ => rfl
  | .two _ _ _ _, _ => rfl
  | .wh a r, n => by
    rw [Dd.ends, many_wh, Dd.rows, endsL, endsL, List.append_nil, Nat.add_assoc n, Nat.add_comm 1]
  | .iff a r o, n => by
    rw [Dd.ends, many_iff, Dd.rows, endsL, endsL, endsL, List.append_nil]
    congr 1
    omega
theorem deep_rows : ∀ (d : Dd), d.rows ≠ [] → d.deep = deepL d.rows + 1
  | .told _ _, h => absurd rfl h
  | .take _ _ _, h => absurd rfl h
  | .two _ _ _ _, h => absurd rfl h
  | .wh a r, _ => by rw [Dd.deep, Dd.rows, deepL, deepL, Nat.max_eq_left (Nat.zero_le _)]
  | .iff a r o, _ => by rw [Dd.deep, Dd.rows, deepL, deepL, deepL, Nat.max_eq_left (Nat.zero_le _)]
theorem endsL_len : ∀ (rs : List (List Dd)) (n : Nat), (endsL rs n).length = manyL rs
  | [], _ => rfl
  | r :: rs, n => by rw [endsL, List.length_append, endsR_len, endsL_len rs, manyL]
theorem manyR_app : ∀ (a b : List Dd), manyR (a ++ b) = manyR a + manyR b
  | [], b => by rw [List.nil_append, many_nil, Nat.zero_add]
  | d :: a, b => by rw [List.cons_append, many_cons, many_cons, manyR_app a b]; omega
theorem endsR_app : ∀ (a b : List Dd) (n : Nat), endsR (a ++ b) n = endsR a n ++ endsR b (n + manyR a)
  | [], b, n => by rw [List.nil_append, many_nil, endsR, List.nil_append, Nat.add_zero]
  | d :: a, b, n => by rw [List.cons_append, endsR, endsR_app a b, endsR, many_cons, List.append_assoc, Nat.add_assoc]
theorem manyL_app : ∀ (a b : List (List Dd)), manyL (a ++ b) = manyL a + manyL b
  | [], b => by rw [List.nil_append, manyL, Nat.zero_add]
  | r :: a, b => by rw [List.cons_append, manyL, manyL, manyL_app a b]; omega
theorem endsL_app : ∀ (a b : List (List Dd)) (n : Nat), endsL (a ++ b) n = endsL a n ++ endsL b (n + manyL a)
  | [], b, n => by rw [List.nil_append, manyL, endsL, List.nil_append, Nat.add_zero]
  | r :: a, b, n => by rw [List.cons_append, endsL, endsL_app a b, endsL, manyL, List.append_assoc, Nat.add_assoc]
theorem manyR_one (d : Dd) : manyR [d] = d.many := by rw [many_cons, many_nil, Nat.add_zero]
theorem endsR_one (d : Dd) (n : Nat) : endsR [d] n = d.ends n := by rw [endsR, endsR, List.append_nil]
theorem manyL_one (r : List Dd) : manyL [r] = manyR r := by rw [manyL, manyL, Nat.add_zero]
theorem endsL_one (r : List Dd) (n : Nat) : endsL [r] n = endsR r n := by rw [endsL, endsL, List.append_nil]
theorem deepR_mem : ∀ (r : List Dd) (d : Dd), d ∈ r → d.deep ≤ deepR r
  | e :: r, d, h => by
    rw [deepR]
    rcases List.mem_cons.mp h with rfl | h
    · exact Nat.le_max_left _ _
    · exact Nat.le_trans (deepR_mem r d h) (Nat.le_max_right _ _)
theorem deepL_mem : ∀ (rs : List (List Dd)) (r : List Dd), r ∈ rs → deepR r ≤ deepL rs
  | e :: rs, r, h => by
    rw [deepL]
    rcases List.mem_cons.mp h with rfl | h
    · exact Nat.le_max_left _ _
    · exact Nat.le_trans (deepL_mem rs r h) (Nat.le_max_right _ _)
theorem manyL_take : ∀ (rs : List (List Dd)) (j : Nat) (r : List Dd), rs[j]? = some r → manyL (rs.take j) + manyR r ≤ manyL rs
  | e :: rs, 0, r, h => by
    cases Option.some.inj h
    simp only [List.take_zero, manyL]
    omega
  | e :: rs, j + 1, r, h => by
    have := manyL_take rs j r h
    simp only [List.take_succ_cons, manyL]
    omega
theorem manyR_take : ∀ (rs : List Dd) (j : Nat) (r : Dd), rs[j]? = some r → manyR (rs.take j) + r.many ≤ manyR rs
  | e :: rs, 0, r, h => by
    cases Option.some.inj h
    rw [List.take_zero, many_nil, many_cons]
    omega
  | e :: rs, j + 1, r, h => by
    have := manyR_take rs j r h
    rw [List.take_succ_cons, many_cons, many_cons]
    omega
theorem take_snoc {α : Type} {l : List α} {i : Nat} {x : α} (h : l[i]? = some x) : l.take (i + 1) = l.take i ++ [x] := by
  obtain ⟨hi, e⟩ := List.getElem?_eq_some_iff.mp h
  rw [List.take_succ_eq_append_getElem hi, e]
def numsV (ns : List Nat) : List V := ns.map fun n => .int (n : Nat)
theorem ixN_at (n k : Nat) (h : k < n) : ixN n ((k : Nat) : Int) = some k := by
  unfold ixN
  rw [if_pos (by omega), if_pos (by omega), Int.toNat_natCast]
theorem numsV_len (ns : List Nat) : (numsV ns).length = ns.length := by rw [numsV, List.length_map]
theorem numsV_app (a b : List Nat) : numsV (a ++ b) = numsV a ++ numsV b := by rw [numsV, List.map_append]; rfl
/-- right rows, fewer than n floors -/
def spLook (K : PySem.W.Frag) (C : Addr) (n : Nat) : Sp := fun vs H Q _ => ∃ (q e : Addr) (f : Nat) (r : List Dd) (es : List Nat), vs = [.ref q, .int (f : Nat), .ref e] ∧ RAt K C H q r ∧ deepR r < n ∧ f + deepR r ≤ 8 ∧ H e = some (.lst (numsV es)) ∧ es.length + manyR r ≤ 4000 ∧
  ∀ H', KB e H H' → H' e = some (.lst (numsV (es ++ endsR r es.length))) → Q .non H'
section
variable {P : Program} {w : World} {K : PySem.W.Frag} {mg : Str → Option Value} {base : Heap} {C : Addr}
theorem scLk : FnScope ["row", "floors", "ends", "deed", "place", "inner", "part"] ["row", "floors", "ends"] (defScope sLook) := ⟨rfl, rfl, rfl, by decide +kernel, rfl, by decide +kernel, by decide +kernel⟩
theorem ok_look {f : Addr} {fd : FuncData} (F : Fun K "look_through" "look_through" sLook f fd) (mgf : mg "look_through" = some (.ref f)) (b : Binds K fd ["row", "floors", "ends"] []) (B : Blt mg) (T : Txt K mg C) (G : FrmC K w mg)
    (DH : Def P w K mg base "has_form" 3 ["deed"] (spHasForm K C)) (DR : Def P w K mg base "rows_in" 1 ["deed"] (spRowsIn K C)) : ∀ n, FnOk P w K mg base CX0 (n + 4) f fd ["row", "floors", "ends"] (spLook K C n) := by
  obtain ⟨t1, mD⟩ := G.mD
  obtain ⟨t2, mFl⟩ := G.mF
  intro n
  induction n with
  | zero =>
    refine F.ok scLk (fun vs H Q E h => ?_) (fun cdv A outer s H vs Q E hr h => ?_)
    · obtain ⟨q, e, f, r, es, rfl, _⟩ := h
      rfl
    · obtain ⟨q, e, f, r, es, _, _, h, _⟩ := h
      exact absurd h (Nat.not_lt_zero _)
  | succ n G' =>
  refine F.ok scLk (fun vs H Q E h => ?_) (fun cdv A outer s H vs Q E hr h => ?_)
  · obtain ⟨q, e, f, r, es, rfl, _⟩ := h
    rfl
  · obtain ⟨q, e, f, r, es, rfl, ⟨vs, hq, hvs⟩, hdp, hfl, he, hmany, k⟩ := h
    have hr1 : Room 1 _ := hr.mono (by omega)
    have hr3 : Room 3 _ := hr.mono (by omega)
    refine ⟨_, PSs.nox (pss_one (ps_for PassesOwn.never rfl (pi_tup (pv 0)) (pg_name (i := 3) scLk.nd rfl (Or.inl rfl)) (pss_cons (ps_set (i := 4) scLk.nd rfl (Or.inl rfl) (pe_callB call_len_seq (by rfl) B.len PySem.boot_len (pa_cons (pv 2) pa_nil))) (pss_cons (ps_if (PW.pt (pw_or (pt_cmpR op_eq (pv 4) (pe_glob (v := .int 4000) rfl mD ⟨_, rfl⟩) (nomark _)) (pw_or1 (pt_not (pt_val (pe_def DH hr3 rfl (pa_cons (pv 3) pa_nil))))))) (pss_one ps_never) pss_nil) (pss_cons (ps_set (i := 5) scLk.nd rfl (Or.inl rfl) (pe_def DR hr1 rfl (pa_cons (pv 3) pa_nil))) (pss_cons (ps_if (PW.pt (pw_and (pt_truth (pv 5) (by intro _; rfl)) (pw_and1 (pt_cmpR op_eq (pv 1) (pe_glob (v := .int 8) rfl mFl ⟨_, rfl⟩) (nomark _))))) (pss_one ps_never) pss_nil) (pss_cons (ps_expr (pe_bm PySem.F.plainAttrs_list PySem.F.slot_list_append PySem.F.type_list_append mt_append (pv 2) (pa_cons (pe_op op_add (pv 4) pe_int) pa_nil))) (pss_cons (ps_for PassesOwn.never rfl (pi_tup (pv 5)) (pg_name (i := 6) scLk.nd rfl (Or.inl rfl)) (pss_one (ps_expr (pe_call G' hr rfl mgf F.kp b .nil pass0 (pa_cons (pv 6) (pa_cons (pe_op op_add (pv 1) pe_int) (pa_cons (pv 2) pa_nil))))))) (pss_one (ps_asg (pe_callB call_len_seq (by rfl) B.len PySem.boot_len (pa_cons (pv 2) pa_nil)) (pg_sub (pv 2) (pv 4) set_list))))))))))), ?_⟩
    have hsl := line4
    have hlen := DsAt.length r vs hvs
    refine ⟨_, rfl, q, rfl, ⟨_, hq⟩, for_tup (K := K) (a := q) (xs := vs) (fun i σ H' => ∃ x3 x4 x5 x6 : Option V, σ = [some (.ref q), some (.int (f : Nat)), some (.ref e), x3, x4, x5, x6] ∧ KB e H H' ∧ H' e = some (.lst (numsV (es ++ endsR (r.take i) es.length)))) ⟨none, none, none, none, rfl, KB.refl e H, by simpa [endsR] using he⟩ ?_ ?_ ?_⟩
    · rintro i σ H1 _ ⟨x3, x4, x5, x6, rfl, kb1, he1⟩
      exact sqt_kt (kb1.kt he) hq
    · rintro i v σ H1 hv ⟨x3, x4, x5, x6, rfl, kb1, he1⟩
      obtain ⟨d, hd, hdv⟩ := DsAt.get r vs i v hvs hv
      have hdm := List.mem_of_getElem? hd
      have hdd := deepR_mem r d hdm
      have hmt := manyR_take r i d hd
      have hpos := many_pos d
      have hdv1 := DAt_kt (kb1.kt he) d v hdv
      obtain ⟨pl, hpl⟩ : ∃ pl, es.length + manyR (r.take i) = pl := ⟨_, rfl⟩
      have hl1 : (numsV (es ++ endsR (r.take i) es.length)).length = pl := by rw [numsV_len, List.length_append, endsR_len, hpl]
      refine ⟨_, rfl, e, _, rfl, .inl (SqL.of he1), ?_⟩
      rw [hl1]
      refine ⟨_, rfl, rfl, _, rfl, ?_⟩
      have e0 : decide (V.int ((pl : Nat) : Int) = V.int 4000) = false := by
        simp only [decide_eq_false_iff_not, V.int.injEq]
        omega
      rw [e0]
      refine iteF ?_
      refine ⟨_, rfl, v, d, rfl, hdv1, fun H2 s2 => ⟨_, rfl, iteF ?_⟩⟩
      have hdv2 := DAt_kt (KT.of s2) d v hdv1
      refine ⟨_, rfl, v, d, rfl, hdv2, fun ip ws H3 s3 hip hws => ?_⟩
      have hwl := Paired.length hws
      refine ⟨_, rfl, !ws.isEmpty, .inr (.inl ⟨ws, hip, rfl⟩), ?_⟩
      have hrows : ∀ {Z : Prop}, Z → Z := fun z => z
      have step2 : ∀ (R : Bool → Hp → Prop), R false H3 → (if (!ws.isEmpty) = true then (tTest (tOp rEq (tVar 1) (tC (.int 8)))) [some (.ref q), some (.int (f : Nat)), some (.ref e), some v, some (.int ((pl : Nat) : Int)), some (.ref ip), x6] H3 R else R false H3) := by
        intro R hR
        cases hw : ws with
        | nil => exact iteF hR
        | cons w0 wr =>
          refine iteT ?_
          refine ⟨_, rfl, rfl, _, rfl, ?_⟩
          have hne : d.rows ≠ [] := fun z => by
            rw [z, hw] at hwl
            cases hwl
          have := deep_rows d hne
          have e1 : decide (V.int ((f : Nat) : Int) = V.int 8) = false := by
            simp only [decide_eq_false_iff_not, V.int.injEq]
            omega
          rw [e1]
          exact hR
      refine step2 _ ?_
      refine iteF ?_
      have he3 := s3 _ _ (s2 _ _ he1)
      obtain ⟨as, has⟩ : ∃ as, es ++ endsR (r.take i) es.length = as := ⟨_, rfl⟩
      rw [has] at he3 hl1
      rw [numsV_len] at hl1
      have hmr := many_rows d
      refine ⟨_, rfl, .inl ⟨rfl, _, SqL.of he3⟩, _, rfl, _, _, rfl, rfl, e, _, _, rfl, rfl, he3, by rw [numsV_len]; omega, ?_⟩
      have kb3 : KB e H H3 := (kb1.trans (KB.of s2)).trans (KB.of s3)
      have e4 : numsV as ++ [V.int (((pl : Nat) : Int) + 1)] = numsV (as ++ [pl + 1]) := by
        rw [numsV_app]
        rfl
      rw [e4]
      have he4 : (upd H3 e (.lst (numsV (as ++ [pl + 1])))) e = some (.lst (numsV (as ++ [pl + 1]))) := upd_same
      have kb4 : KB e H3 (upd H3 e (.lst (numsV (as ++ [pl + 1])))) := KB.set
      revert he4 kb4
      generalize upd H3 e (.lst (numsV (as ++ [pl + 1]))) = H4
      intro he4 kb4
      have kt4 : KT H3 H4 := kb4.kt he3
      refine ⟨_, rfl, ip, rfl, ⟨_, sqt_kt kt4 hip⟩, for_tup (K := K) (a := ip) (xs := ws) (fun j σ H' => ∃ x6 : Option V, σ = [some (.ref q), some (.int (f : Nat)), some (.ref e), some v, some (.int ((pl : Nat) : Int)), some (.ref ip), x6] ∧ KB e H4 H' ∧ H' e = some (.lst (numsV (as ++ [pl + 1] ++ endsL (d.rows.take j) (pl + 1))))) ⟨_, rfl, KB.refl e H4, by simpa [endsL] using he4⟩ ?_ ?_ ?_⟩
      · rintro j σ H5 _ ⟨x6, rfl, kb5, he5⟩
        exact sqt_kt (kb5.kt he4) (sqt_kt kt4 hip)
      · rintro j v6 σ H5 hv6 ⟨x6, rfl, kb5, he5⟩
        obtain ⟨r6, hr6, q6, rfl, hq6⟩ := paired_get hws hv6
        have hml := manyL_take d.rows j r6 hr6
        have hdl := deepL_mem d.rows r6 (List.mem_of_getElem? hr6)
        have hne : d.rows ≠ [] := fun z => by
          rw [z] at hr6
          cases hr6
        have hdr := deep_rows d hne
        have l5 : (as ++ [pl + 1] ++ endsL (d.rows.take j) (pl + 1)).length = pl + 1 + manyL (d.rows.take j) := by
          rw [List.length_append, List.length_append, endsL_len, hl1]
          rfl
        refine ⟨_, rfl, _, rfl, _, _, rfl, rfl, _, rfl, q6, e, f + 1, r6, _, rfl, (hq6.kt kt4).kt (kb5.kt he4), by omega, by omega, he5, by omega, fun H6 kb6 he6 => ?_⟩
        refine ⟨_, rfl, kb5.trans kb6, ?_⟩
        rw [he6, take_snoc hr6, endsL_app, endsL_one, l5, List.append_assoc (as ++ [pl + 1])]
      · rintro σ H5 ⟨x6, rfl, kb5, he5⟩
        rw [hwl, List.take_length] at he5
        have l5 : (as ++ [pl + 1] ++ endsL d.rows (pl + 1)).length = pl + d.many := by
          rw [List.length_append, List.length_append, endsL_len, hl1, hmr]
          simp only [List.length_cons, List.length_nil]
          omega
        refine ⟨_, rfl, e, _, rfl, .inl (SqL.of he5), ?_⟩
        rw [numsV_len, l5]
        refine ⟨_, rfl, _, rfl, e, _, _, pl, rfl, rfl, he5, ?_, ?_⟩
        · rw [numsV_len, l5]
          exact ixN_at _ _ (by omega)
        · have es5 : (numsV (as ++ [pl + 1] ++ endsL d.rows (pl + 1))).set pl (V.int (((pl + d.many : Nat)) : Int)) = numsV (es ++ endsR (r.take (i + 1)) es.length) := by
            rw [take_snoc hd, endsR_app, endsR_one, ends_rows, ← List.append_assoc, has, hpl, List.append_assoc, numsV_app, numsV_app]
            rw [List.set_append_right _ _ (by rw [numsV_len, hl1]; exact Nat.le_refl _), numsV_len, hl1, Nat.sub_self, numsV_app]
            rfl
          refine ⟨_, _, _, _, rfl, ((kb3.trans kb4).trans kb5).trans KB.set, ?_⟩
          rw [upd_same, ← es5]
    · rintro σ H1 ⟨x3, x4, x5, x6, rfl, kb1, he1⟩
      rw [hlen, List.take_length] at he1
      exact k H1 kb1 he1
end
end Js

set_option Elab.async false
set_option linter.all false
set_option maxRecDepth 100000
set_option maxHeartbeats 2000000
/-! for i, x in enumerate(tuple) -/
namespace JsZ
open PySem PySem.Spec PyProof.Rows L2
abbrev ht1 (h : Heap) (l : Addr) : Heap := h.push { cls := .type "tuple_iterator", data := .fields #[.ref l, .int 0 0] }
abbrev ht2 (h : Heap) (l : Addr) : Heap := (ht1 h l).push { cls := .type "enumerate", data := .fields #[.none, .bool false, .ref h.objs.size, rawInt 0, .none, .none] }
theorem new_enumT (l : Addr) (us : Array Value) :
    Meets (Builtin.«enumerate.__new__» ⟨[.type "enumerate", .ref l], []⟩) (fun _ R s => s.heap.IsTuple l us ∧ R (.ok (.ret (.ref (ht1 s.heap l).objs.size))) { s with heap := ht2 s.heap l }) :=
  .of_wp fun prog w A R s h => by
    obtain ⟨hp, g, d, tk, os⟩ := s; obtain ⟨h1, h⟩ := h
    have hsub := sub_enumerate
    have hL : Heap.IsTuple (Shared.heap ⟨hp, g, d, tk, os⟩) l us := h1
    wp_walk
    refine wpAny_stack_any fun st => wpAny_pure ?_
    split
    · rename_i c _ _ _ _ _
      cases (c == Value.type "enumerate")
      · wp_walk using wpAny_pyIter_tuple hL
        exact ⟨_, rfl, h⟩
      · wp_walk using wpAny_pyIter_tuple hL
        exact ⟨_, rfl, h⟩
    · wp_walk using wpAny_pyIter_tuple hL
      exact ⟨_, rfl, h⟩
section
variable {prog : Program} {w : World} {A : Around} {E : Value → Shared → Prop} {s : Shared}
theorem call_enumT {l : Addr} {us : Array Value} {Q : Value → Shared → Prop} (hL : s.heap.IsTuple l us)
    (h : ∀ h', IsEnum h' (s.heap.objs.size + 1) s.heap.objs.size 0 .none → h'.IsTupleIter s.heap.objs.size l 0 → h'.objs.size = s.heap.objs.size + 2 → (∀ b o, s.heap.get? b = some o → h'.get? b = some o) → Q (.ref (s.heap.objs.size + 1)) { s with heap := h' }) :
    wpAny (model prog w) A (call (.type "enumerate") [.ref l]) Q E s := by
  refine callType_new F.called_enumerate (by decide) (F.typeCall_enumerate_1 _) (F.newCall_enumerate_1 _) (fun obj => F.args_object_init_2 obj _) F.entry_enumerate_new (new_enumT l us) ⟨hL, ?_⟩
  have hz : (ht1 s.heap l).objs.size = s.heap.objs.size + 1 := Heap.size_push ..
  show _ ∧ _
  rw [hz]
  have he : IsEnum (ht2 s.heap l) (s.heap.objs.size + 1) s.heap.objs.size 0 .none := by
    have := Heap.get?_push_size (ht1 s.heap l) (o := { cls := .type "enumerate", data := .fields #[.none, .bool false, .ref s.heap.objs.size, rawInt 0, .none, .none] }) rfl
    rw [hz] at this
    exact this
  refine ⟨⟨_, he, rfl⟩, h _ he ⟨_, Heap.get?_push_of_some _ (Heap.get?_push_size _ rfl), rfl, rfl⟩ (by rw [Heap.size_push, hz]) fun b o q => Heap.get?_push_of_some _ (Heap.get?_push_of_some _ q)⟩
end
/-- the tuple at a as it stands at each turn, numbered -/
def ItE (K : PySem.W.Frag) (a : Addr) : It :=
  ⟨fun i H => ∃ (xs : List V) (x : V), SqT K H a xs ∧ xs[i]? = some x,
    fun i H v H' => ∃ T x, v = .ref T ∧ H T = none ∧ H' = upd H T (.tup [.int (i : Nat), x]) ∧ ∀ xs, SqT K H a xs → xs[i]? = some x,
    fun i H => ∃ xs : List V, SqT K H a xs ∧ i = xs.length⟩
theorem turn_E {P : Program} {w : World} {K : PySem.W.Frag} {elts : List Expr} {kk : Nat} {tpos : Pos} (a e it : Addr) (ha : a ≠ it) (hea : e ≠ a) :
    Turn P w K (.Tuple elts kk tpos) (ItE K a) [e, it] e (fun i h => (∃ old, IsEnum h e it ((i : Nat) : Int) old) ∧ h.IsTupleIter it a i ∧ e ≠ it) where
  mem := by simp
  obj := fun i h st b hb => by
    obtain ⟨⟨old, he⟩, ⟨o, ho, hc, hd⟩, _⟩ := st
    have e' : b = e ∨ b = it := by simpa using hb
    rcases e' with z | z
    · rw [z]; exact ⟨_, he, fun v q => nomatch q⟩
    · rw [z]; exact ⟨o, ho, fun v q => by rw [hd] at q; cases q⟩
  keep := fun i h h' st k => let ⟨⟨old, he⟩, hi, hne⟩ := st; ⟨⟨old, k e (by simp) _ he⟩, hi.at fun o q => k it (by simp) o q, hne⟩
  item := by
    intro X hP hw hK hc i pins s σ H E I hf st hg
    subst hP hw hK
    obtain ⟨⟨old, he⟩, hit, hne⟩ := st
    obtain ⟨xs, x, hqx, hx⟩ := hg
    obtain ⟨us, rv, p, _⟩ := I.tuple hqx
    obtain ⟨u, hu, ru⟩ := rv.get hx
    have hel : e < s.heap.objs.size := Heap.lt_size he
    have hil : it < s.heap.objs.size := by obtain ⟨_, q, _⟩ := hit; exact Heap.lt_size q
    have hh : X.A.in1.handled = none := I.ok.hd hc
    have li : i < us.toArray.size := by
      have := (List.getElem?_eq_some_iff.mp hu).1
      simpa using this
    refine wpAny_pyNext_enum_itemD (Draws.tuple hh it a ha us.toArray) he ⟨hit, p⟩ li hne (by simp [hne, hea]) fun v h' tk hPx ho hit' hT hsz hk => ?_
    have ev : v = u := by
      have : us.toArray[i]? = some u := by simpa using hu
      exact Option.some.inj (hPx.symm.trans this)
    subst ev
    refine ⟨_, rfl, wpAny_letOwnedTupleGo_enum (s := { s with heap := h', toks := tk + 1 }) ho fun h'' he' sb => ?_⟩
    have hT2 : h''.get? s.heap.objs.size = some { cls := .type "tuple", data := .seq #[.int i tk, v] } := (sb.2 _ (Nat.ne_of_gt hel)).trans hT
    have new : ObjOk X.prog X.w (upd H s.heap.objs.size (.tup [.int (i : Nat), x])) h'' s.heap.objs.size (.tup [.int (i : Nat), x]) := ⟨by show 2 ≤ sizeLine; decide, [.int i tk, v], .cons ⟨_, rfl⟩ (.cons ru .nil), ⟨_, hT2, rfl, _, rfl⟩⟩
    have I1 : Inv X pins σ (upd H s.heap.objs.size (.tup [.int (i : Nat), x])) { s with heap := h'', toks := tk + 1 } :=
      I.turnedNew (ch := [e, it]) (fun b ob hb q => (sb.2 b (fun z => hb (by simp [z]))).trans (hk b ob (fun z => hb (by simp [z])) (fun z => hb (by simp [z])) q)) hf (Nat.le_refl _) new
    refine ⟨.ref s.heap.objs.size, _, I1, rfl, ⟨_, x, rfl, I.hok.fresh (Nat.le_refl _), rfl, fun l hl => by rw [I.tuple_inj hl hqx]; exact hx⟩, ⟨⟨v, ?_⟩, ?_, hne⟩, fun b hb => ?_⟩
    · have e1 : ((i + 1 : Nat) : Int) = (i : Int) + 1 := by omega
      rw [e1]; exact he'
    · exact hit'.1.at fun o q => (sb.2 it (Ne.symm hne)).trans q
    · have hb' : b < s.heap.objs.size := by
        have e' : b = e ∨ b = it := by simpa using hb
        rcases e' with z | z
        · rw [z]; exact hel
        · rw [z]; exact hil
      rw [upd_ne (Nat.ne_of_lt hb')]
      exact (hf b hb).1
  done := by
    intro X hP hw hK hc i pins s σ H E I hf st hg
    subst hP hw hK
    obtain ⟨⟨old, he⟩, hit, hne⟩ := st
    obtain ⟨xs, hqx, rfl⟩ := hg
    obtain ⟨us, rv, p, _⟩ := I.tuple hqx
    obtain ⟨f0, f1, f2, f3, f4, f5⟩ := hf it (by simp)
    have hh : X.A.in1.handled = none := I.ok.hd hc
    have lu : us.toArray.size = xs.length := by rw [List.size_toArray, ← rv.length]
    exact wpAny_pyNext_enum_endD (Draws.tuple hh it a ha us.toArray) he (by rw [lu]; exact ⟨hit, p⟩) fun h' eb => ⟨rfl, I.turned (t' := s.toks) (fun b o hb q => eb b o hb q) f0 f1 f3 f4 f5⟩
  self := fun A i s Q E st h => let ⟨⟨_, he⟩, _⟩ := st; wpAny_pyIter_enum he h
end JsZ
namespace L2
open PySem PySem.Spec PyProof.Rows
def iEnumT (K : PySem.W.Frag) (ta : TA) : TI := fun σ H R => ta σ H fun vs H1 => ∃ a xs, vs = [.ref a] ∧ SqT K H1 a xs ∧ R (JsZ.ItE K a) H1
theorem pi_enumT {X : Cx} {e : Expr} {ta : TA} {p pos tpos : Pos} {elts : List Expr} {kk : Nat} (hg : Gl X "enumerate") (hm : X.mg "enumerate" = none) (ha : PA X [e] ta) (hs : starEach [e] X.env = [(false, eval e X.env)] := by rfl) :
    PI X (.Tuple elts kk tpos) (.Call (.Name "enumerate" p) [e] [] pos) (iEnumT X.K ta) := by
  refine ⟨fun pins s σ H R I h => ?_⟩
  refine Call_ (ld_blt I hg hm boot_enumerate (PyProof.Rows.callWith_type1 (thn (ha.run pos pins s σ H _ I h) fun us s1 ⟨vs, H1, I1, r1, q1⟩ => ?_) hs rfl))
  obtain ⟨a, xs, ex, hqx, q⟩ := q1
  subst ex
  obtain ⟨u, rfl, ru⟩ := vals1 r1
  cases (show u = Value.ref a from ru)
  obtain ⟨its, rv, p1, _⟩ := I1.tuple hqx
  obtain ⟨o1, ho1, _⟩ := id p1
  have la := Heap.lt_size ho1
  refine JsZ.call_enumT p1 fun h' he hit hsz hk => wpAny_pyIter_enum he ?_
  have I2 : Inv X pins σ H1 { s1 with heap := h' } := I1.kept (t' := s1.toks) hk
  refine ⟨s1.heap.objs.size + 1, [s1.heap.objs.size + 1, s1.heap.objs.size], _, _, H1, rfl, I2, JsZ.turn_E a (s1.heap.objs.size + 1) s1.heap.objs.size (Nat.ne_of_lt la) (fun z => absurd la (by rw [← z]; exact Nat.not_lt.mpr (Nat.le_succ _))), ⟨⟨.none, he⟩, hit, Nat.succ_ne_self _⟩, fun b hb => ?_, q⟩
  have e' : b = s1.heap.objs.size + 1 ∨ b = s1.heap.objs.size := by simpa using hb
  have hle : s1.heap.objs.size ≤ b := by
    rcases e' with z | z
    · rw [z]; exact Nat.le_add_right _ _
    · rw [z]; exact Nat.le_refl _
  exact I1.fpOk hle (I1.hok.fresh hle)
theorem walk_enumT {K : PySem.W.Frag} {a : Addr} {xs : List V} : Walk (JsZ.ItE K a) xs.length (fun H => SqT K H a xs) (fun i H v H' => ∃ T x, v = .ref T ∧ H T = none ∧ H' = upd H T (.tup [.int (i : Nat), x]) ∧ xs[i]? = some x) :=
  ⟨fun i H hi hq => ⟨xs, xs[i], hq, List.getElem?_eq_getElem hi⟩, fun H hq => ⟨xs, hq, rfl⟩, fun i H v H' hi hq y => by
      obtain ⟨T, x, e1, e2, e3, e4⟩ := y
      exact ⟨T, x, e1, e2, e3, e4 xs hq⟩⟩
end L2

set_option Elab.async false
set_option linter.all false
set_option maxRecDepth 100000
set_option maxHeartbeats 2000000
namespace Js
open PySem L2
abbrev sLay : Stmt := top 32
def Dd.isW : Dd → Bool
  | .wh _ _ => true
  | _ => false
def Dd.isF : Dd → Bool
  | .iff _ _ _ => true
  | _ => false
theorem kind_w : ∀ d : Dd, decide (V.str (kindOf d) = V.str "while") = d.isW
  | .told _ _ => (by decide +kernel : decide (V.str (("told" : Str)) = V.str "while") = false)
  | .take false _ _ => (by decide +kernel : decide (V.str (("first" : Str)) = V.str "while") = false)
  | .take true _ _ => (by decide +kernel : decide (V.str (("second" : Str)) = V.str "while") = false)
  | .two false _ _ _ => (by decide +kernel : decide (V.str (("pair" : Str)) = V.str "while") = false)
  | .two true _ _ _ => (by decide +kernel : decide (V.str (("same" : Str)) = V.str "while") = false)
  | .wh _ _ => (by decide +kernel : decide (V.str (("while" : Str)) = V.str "while") = true)
  | .iff _ _ _ => (by decide +kernel : decide (V.str (("if" : Str)) = V.str "while") = false)
theorem kind_f : ∀ d : Dd, (!decide (V.str (kindOf d) = V.str "if")) = !d.isF
  | .told _ _ => (by decide +kernel : (!decide (V.str (("told" : Str)) = V.str "if")) = true)
  | .take false _ _ => (by decide +kernel : (!decide (V.str (("first" : Str)) = V.str "if")) = true)
  | .take true _ _ => (by decide +kernel : (!decide (V.str (("second" : Str)) = V.str "if")) = true)
  | .two false _ _ _ => (by decide +kernel : (!decide (V.str (("pair" : Str)) = V.str "if")) = true)
  | .two true _ _ _ => (by decide +kernel : (!decide (V.str (("same" : Str)) = V.str "if")) = true)
  | .wh _ _ => (by decide +kernel : (!decide (V.str (("while" : Str)) = V.str "if")) = true)
  | .iff _ _ _ => (by decide +kernel : (!decide (V.str (("if" : Str)) = V.str "if")) = false)
def wayL : List (List Dd) → Nat → Nat → List Nat
  | [], _, _ => []
  | r :: rs, b, n => (if r.isEmpty then b else n) :: wayL rs b (n + manyR r)
def layL : List (List Dd) → Nat → Nat → List (Dd × List Nat)
  | [], _, _ => []
  | r :: rs, b, n => layR r b n ++ layL rs b (n + manyR r)
def Dd.back (d : Dd) (f n : Nat) : Nat := if d.isW then n else f
def Dd.ways (d : Dd) (f n : Nat) : List Nat := wayL d.rows (d.back f n) (n + 1) ++ (if d.isF then [] else [f])
theorem lay_rows : ∀ (d : Dd) (f n : Nat), d.lay f n = (d, d.ways f n) :: layL d.rows (d.back f n) (n + 1)
  | .told _ _, _, _ => rfl
  | .take _ _ _, _, _ => rfl
  | .two _ _ _ _, _, _ => rfl
  | .wh a r, f, n => by
    rw [Dd.lay]
    simp [Dd.ways, Dd.back, Dd.isW, Dd.isF, Dd.rows, wayL, layL]
  | .iff a r o, f, n => by
    rw [Dd.lay]
    simp [Dd.ways, Dd.back, Dd.isW, Dd.isF, Dd.rows, wayL, layL]
theorem layL_len : ∀ (rs : List (List Dd)) (b n : Nat), (layL rs b n).length = manyL rs
  | [], _, _ => rfl
  | r :: rs, b, n => by rw [layL, List.length_append, layR_len, layL_len rs, manyL]
theorem layL_app : ∀ (a c : List (List Dd)) (b n : Nat), layL (a ++ c) b n = layL a b n ++ layL c b (n + manyL a)
  | [], c, b, n => by rw [List.nil_append, manyL, layL, List.nil_append, Nat.add_zero]
  | r :: a, c, b, n => by rw [List.cons_append, layL, layL_app a c, layL, manyL, List.append_assoc, Nat.add_assoc]
theorem layL_one (r : List Dd) (b n : Nat) : layL [r] b n = layR r b n := by rw [layL, layL, List.append_nil]
theorem wayL_app : ∀ (a c : List (List Dd)) (b n : Nat), wayL (a ++ c) b n = wayL a b n ++ wayL c b (n + manyL a)
  | [], c, b, n => by rw [List.nil_append, manyL, wayL, List.nil_append, Nat.add_zero]
  | r :: a, c, b, n => by rw [List.cons_append, wayL, wayL_app a c, wayL, manyL, List.cons_append, Nat.add_assoc]
theorem wayL_one (r : List Dd) (b n : Nat) : wayL [r] b n = [if r.isEmpty then b else n] := rfl
theorem wayL_len : ∀ (rs : List (List Dd)) (b n : Nat), (wayL rs b n).length = rs.length
  | [], _, _ => rfl
  | r :: rs, b, n => by rw [wayL, List.length_cons, wayL_len rs, List.length_cons]
theorem take_over {α : Type} (L R : List α) (k m : Nat) (h : L.length = k) : (L ++ R).take (k + m) = L ++ R.take m := by
  subst h
  exact List.take_length_add_append m
theorem lay_step : ∀ (r : List Dd) (b n i : Nat) (d : Dd), r[i]? = some d →
    (layR r b n).take (manyR (r.take (i + 1))) = (layR r b n).take (manyR (r.take i)) ++ d.lay (if i + 1 < r.length then n + manyR (r.take i) + d.many else b) (n + manyR (r.take i))
  | e :: r, b, n, 0, d, h => by
    cases Option.some.inj h
    have t0 := take_over (e.lay (if r.isEmpty = true then b else n + e.many) n) (layR r b (n + e.many)) e.many 0 (lay_len _ _ _)
    rw [List.take_zero, List.append_nil] at t0
    show (layR (e :: r) b n).take (manyR [e]) = (layR (e :: r) b n).take 0 ++ e.lay (if 0 + 1 < (e :: r).length then n + 0 + e.many else b) (n + 0)
    rw [manyR_one, List.take_zero, List.nil_append, layR]
    refine t0.trans ?_
    cases r with
    | nil => rfl
    | cons x y =>
      rw [if_pos (show 0 + 1 < (e :: x :: y).length by simp only [List.length_cons]; omega)]
      rfl
  | e :: r, b, n, i + 1, d, h => by
    have ih := lay_step r b (n + e.many) i d h
    rw [List.take_succ_cons, List.take_succ_cons, many_cons, many_cons, layR, take_over _ _ _ _ (lay_len _ _ _), take_over _ _ _ _ (lay_len _ _ _), ih, List.append_assoc]
    have ec : (i + 1 + 1 < (e :: r).length) = (i + 1 < r.length) := by
      rw [List.length_cons]
      exact propext ⟨fun h => by omega, fun h => by omega⟩
    simp only [ec, Nat.add_assoc]
theorem seq_via {ta : TE} {g : TG} {rest : TS} {D : Ends} {σ : L2.St} {H : Hp} (v : V) (h : ∀ R : VK, R v H → ta σ H R) (k : g v σ H (rest D)) : tSeq (tAsg ta g) rest D σ H := h _ k
theorem via {T : VK → Prop} {K0 : VK} (v : V) (H : Hp) (h : ∀ R : VK, R v H → T R) (k : K0 v H) : T K0 := h K0 k
theorem ends_at : ∀ (r : List Dd) (n i : Nat) (d : Dd), r[i]? = some d → ∃ rest, endsR r n = endsR (r.take i) n ++ (d.ends (n + manyR (r.take i)) ++ rest)
  | e :: r, n, 0, d, h => by
    cases Option.some.inj h
    exact ⟨endsR r (n + e.many), by rw [List.take_zero, many_nil, endsR, endsR, List.nil_append, Nat.add_zero]⟩
  | e :: r, n, i + 1, d, h => by
    obtain ⟨rest, ih⟩ := ends_at r (n + e.many) i d h
    exact ⟨rest, by rw [List.take_succ_cons, many_cons, endsR, ih, endsR, List.append_assoc, Nat.add_assoc]⟩
theorem endsL_at : ∀ (rs : List (List Dd)) (n j : Nat) (r : List Dd), rs[j]? = some r → ∃ rest, endsL rs n = endsL (rs.take j) n ++ (endsR r (n + manyL (rs.take j)) ++ rest)
  | e :: rs, n, 0, r, h => by
    cases Option.some.inj h
    exact ⟨endsL rs (n + manyR e), by rw [List.take_zero, manyL, endsL, endsL, List.nil_append, Nat.add_zero]⟩
  | e :: rs, n, j + 1, r, h => by
    obtain ⟨rest, ih⟩ := endsL_at rs (n + manyR e) j r h
    exact ⟨rest, by rw [List.take_succ_cons, manyL, endsL, ih, endsL, List.append_assoc, Nat.add_assoc]⟩
/-- l stands in E from k on -/
def Pre (E : List Nat) (k : Nat) (l : List Nat) : Prop := ∀ i x, l[i]? = some x → E[k + i]? = some x
theorem Pre.right {E : List Nat} {k : Nat} {a b : List Nat} (h : Pre E k (a ++ b)) : Pre E (k + a.length) b := fun i x e => by
  have := h (a.length + i) x (by rw [List.getElem?_append_right (Nat.le_add_right _ _), Nat.add_sub_cancel_left]; exact e)
  rw [Nat.add_assoc]
  exact this
theorem Pre.left {E : List Nat} {k : Nat} {a b : List Nat} (h : Pre E k (a ++ b)) : Pre E k a := fun i x e => h i x (by
  rw [List.getElem?_append_left (List.getElem?_eq_some_iff.mp e).1]
  exact e)
theorem Pre.whole (E : List Nat) : Pre E 0 E := fun i x e => by
  rw [Nat.zero_add]
  exact e
/-- a deed in the plan, with its ways -/
def PlE (K : PySem.W.Frag) (C : Addr) (H : Hp) (v : V) (x : Dd × List Nat) : Prop := ∃ t wv dv, v = .ref t ∧ H t = some (.tup [dv, .ref wv]) ∧ H wv = some (.tup (numsV x.2)) ∧ DAt K C H dv x.1
theorem PlE.kt {K : PySem.W.Frag} {C : Addr} {H H' : Hp} (k : KT H H') {v : V} {x : Dd × List Nat} (h : PlE K C H v x) : PlE K C H' v x := by
  obtain ⟨t, wv, dv, e, h1, h2, h3⟩ := h
  exact ⟨t, wv, dv, e, k _ _ h1 (fun _ e => nomatch e), k _ _ h2 (fun _ e => nomatch e), DAt_kt k _ _ h3⟩
theorem pls_kt {K : PySem.W.Frag} {C : Addr} {H H' : Hp} (k : KT H H') : ∀ {ys : List V} {ps : List (Dd × List Nat)}, Paired (PlE K C H) ys ps → Paired (PlE K C H') ys ps
  | _, _, .nil => .nil
  | _, _, .cons h t => .cons (h.kt k) (pls_kt k t)
theorem paired_app {α β : Type} {R : α → β → Prop} : ∀ {xs : List α} {ys : List β} {xs' : List α} {ys' : List β}, Paired R xs ys → Paired R xs' ys' → Paired R (xs ++ xs') (ys ++ ys')
  | _, _, _, _, .nil, h => h
  | _, _, _, _, .cons h t, h' => .cons h (paired_app t h')
def spLay (K : PySem.W.Frag) (C : Addr) (n : Nat) : Sp := fun vs H Q _ => ∃ (q e p : Addr) (f : Nat) (r : List Dd) (E : List Nat) (xs : List V), vs = [.ref q, .int (f : Nat), .ref e, .ref p] ∧ RAt K C H q r ∧ deepR r < n ∧ H e = some (.lst (numsV E)) ∧ Pre E xs.length (endsR r xs.length) ∧
  H p = some (.lst xs) ∧ e ≠ p ∧ xs.length + manyR r ≤ 4000 ∧ ∀ H' ys, KB p H H' → H' p = some (.lst (xs ++ ys)) → Paired (PlE K C H') ys (layR r f xs.length) → Q .non H'
section
variable {P : Program} {w : World} {K : PySem.W.Frag} {mg : Str → Option Value} {base : Heap} {C : Addr}
theorem scLy : FnScope ["row", "behind", "ends", "plan", "at", "deed", "point", "after", "back", "ways", "part"] ["row", "behind", "ends", "plan"] (defScope sLay) := ⟨rfl, rfl, rfl, by decide +kernel, rfl, by decide +kernel, by decide +kernel⟩
theorem ok_lay {f : Addr} {fd : FuncData} (F : Fun K "lay_out" "lay_out" sLay f fd) (mgf : mg "lay_out" = some (.ref f)) (b : Binds K fd ["row", "behind", "ends", "plan"] []) (B : Blt mg) (G : FrmC K w mg)
    (DR : Def P w K mg base "rows_in" 1 ["deed"] (spRowsIn K C)) : ∀ n, FnOk P w K mg base CX0 (n + 2) f fd ["row", "behind", "ends", "plan"] (spLay K C n) := by
  intro n
  induction n with
  | zero =>
    refine F.ok scLy (fun vs H Q E h => ?_) (fun cdv A outer s H vs Q E hr h => ?_)
    · obtain ⟨q, e, p, f, r, E, xs, rfl, _⟩ := h
      rfl
    · obtain ⟨q, e, p, f, r, E, xs, _, _, h, _⟩ := h
      exact absurd h (Nat.not_lt_zero _)
  | succ n G' =>
  refine F.ok scLy (fun vs H Q E h => ?_) (fun cdv A outer s H vs Q E hr h => ?_)
  · obtain ⟨q, e, p, f, r, E, xs, rfl, _⟩ := h
    rfl
  · obtain ⟨q, e, p, f, r, En, xs, rfl, ⟨vs, hq, hvs⟩, hdp, he, hpre, hp, hep, hmany, k⟩ := h
    have hr1 : Room 1 _ := hr.mono (by omega)
    refine ⟨_, pss_one (ps_for PassesOwn.never rfl (pi_enumT rfl G.me (pa_cons (pv 0) pa_nil)) (pg_tup rfl (pgs_cons (pg_name (i := 4) scLy.nd rfl (Or.inl rfl)) (pgs_cons (pg_name (i := 5) scLy.nd rfl (Or.inl rfl)) pgs_nil))) (pss_cons (ps_set (i := 6) scLy.nd rfl (Or.inl rfl) (pe_callB call_len_seq (by rfl) B.len PySem.boot_len (pa_cons (pv 3) pa_nil))) (pss_cons (ps_set (i := 7) scLy.nd rfl (Or.inl rfl) (pe_ifExp (pt_cmpR op_lt (pe_op op_add (pv 4) pe_int) (pe_callB call_len_seq (by rfl) B.len PySem.boot_len (pa_cons (pv 0) pa_nil)) (nomark _)) (pe_ix (r := rIxL K) ix_list (pv 2) (pv 6) (fun _ _ => rfl)) (pv 1))) (pss_cons (ps_set (i := 8) scLy.nd rfl (Or.inl rfl) (pe_ifExp (pt_cmpR op_eq (pe_ix (r := rIxT K) ix_tup (pv 5) pe_int (fun _ _ => rfl)) pe_str (nomark _)) (pv 6) (pv 7))) (pss_cons (ps_expr (pe_bm PySem.F.plainAttrs_list PySem.F.slot_list_append PySem.F.type_list_append mt_append (pv 3) (pa_cons pe_non pa_nil))) (pss_cons (ps_set (i := 9) scLy.nd rfl (Or.inl rfl) (pe_lst pa_nil)) (pss_cons (ps_for PassesOwn.never rfl (pi_tup (pe_def DR hr1 rfl (pa_cons (pv 5) pa_nil))) (pg_name (i := 10) scLy.nd rfl (Or.inl rfl)) (pss_cons (ps_expr (pe_bm PySem.F.plainAttrs_list PySem.F.slot_list_append PySem.F.type_list_append mt_append (pv 9) (pa_cons (pe_ifExp (pt_truth (pv 10) (by intro _; rfl)) (pe_callB call_len_seq (by rfl) B.len PySem.boot_len (pa_cons (pv 3) pa_nil)) (pv 8)) pa_nil))) (pss_one (ps_expr (pe_call G' hr rfl mgf F.kp b .nil pass0 (pa_cons (pv 10) (pa_cons (pv 8) (pa_cons (pv 2) (pa_cons (pv 3) pa_nil))))))))) (pss_cons (ps_if (pt_cmpR op_ne (pe_ix (r := rIxT K) ix_tup (pv 5) pe_int (fun _ _ => rfl)) pe_str (nomark _)) (pss_one (ps_expr (pe_bm PySem.F.plainAttrs_list PySem.F.slot_list_append PySem.F.type_list_append mt_append (pv 9) (pa_cons (pv 7) pa_nil)))) pss_nil) (pss_one (ps_asg (pe_tup (pa_cons (pv 5) (pa_cons (pe_callTy call_tuple_of (by rfl) G.mt PyProof.Rows.boot_tuple (pa_cons (pv 9) pa_nil)) pa_nil))) (pg_sub (pv 3) (pv 6) set_list))))))))))), ?_⟩
    have hsl := line4
    have hlen := DsAt.length r vs hvs
    refine ⟨_, rfl, q, vs, rfl, hq, for_it (walk_enumT (K := K) (a := q) (xs := vs)) (fun i σ H' => ∃ x4 x5 x6 x7 x8 x9 x10 : Option V, ∃ ys : List V, σ = [some (.ref q), some (.int (f : Nat)), some (.ref e), some (.ref p), x4, x5, x6, x7, x8, x9, x10] ∧ KB p H H' ∧ H' p = some (.lst (xs ++ ys)) ∧ Paired (PlE K C H') ys ((layR r f xs.length).take (manyR (r.take i)))) ⟨none, none, none, none, none, none, none, [], rfl, KB.refl p H, by rw [List.append_nil]; exact hp, by rw [List.take_zero, many_nil, List.take_zero]; exact .nil⟩ ?_ ?_ ?_⟩
    · rintro i σ H1 _ ⟨x4, x5, x6, x7, x8, x9, x10, ys, rfl, kb1, hp1, hys⟩
      exact sqt_kt (kb1.kt hp) hq
    · rintro i y σ H1 H2 hi ⟨x4, x5, x6, x7, x8, x9, x10, ys, rfl, kb1, hp1, hys⟩ ⟨T, v, rfl, nT, rfl, hv⟩
      obtain ⟨d, hd, hdv⟩ := DsAt.get r vs i v hvs hv
      have hdd := deepR_mem r d (List.mem_of_getElem? hd)
      have hmt := manyR_take r i d hd
      have hpos := many_pos d
      have hmr := many_rows d
      have sT := Same.new nT (o := .tup [.int (i : Nat), v])
      have kb2 : KB p H (upd H1 T (.tup [.int (i : Nat), v])) := kb1.trans (KB.of sT)
      have hp2 := sT _ _ hp1
      have hys2 := pls_kt (KT.of sT) hys
      have hdv2 : DAt K C (upd H1 T (.tup [.int (i : Nat), v])) v d := DAt_kt (kb2.kt hp) d v hdv
      have hq2 : SqT K (upd H1 T (.tup [.int (i : Nat), v])) q vs := sqt_kt (kb2.kt hp) hq
      have he2 := kb2 _ _ hep he
      have hT2 : (upd H1 T (.tup [.int (i : Nat), v])) T = some (.tup [.int (i : Nat), v]) := upd_same
      revert kb2 hp2 hys2 hdv2 hq2 he2 hT2
      generalize upd H1 T (.tup [.int (i : Nat), v]) = H2
      intro kb2 hp2 hys2 hdv2 hq2 he2 hT2
      refine ⟨T, _, rfl, SqT.of hT2, rfl, _, _, rfl, _, _, rfl, rfl, ?_⟩
      obtain ⟨pt, hpt⟩ : ∃ pt, xs.length + manyR (r.take i) = pt := ⟨_, rfl⟩
      have lys : ys.length = manyR (r.take i) := by
        rw [Paired.length hys, List.length_take, layR_len]
        omega
      have lxy : (xs ++ ys).length = pt := by rw [List.length_append, lys, hpt]
      refine ⟨_, rfl, p, _, rfl, .inl (SqL.of hp2), ?_⟩
      rw [lxy]
      -- after
      obtain ⟨af, haf⟩ : ∃ af, (if i + 1 < r.length then pt + d.many else f) = af := ⟨_, rfl⟩
      obtain ⟨rest, hen⟩ := ends_at r xs.length i d hd
      have hpre2 : Pre En pt (d.ends pt) := by
        rw [hen] at hpre
        have := hpre.right
        rw [endsR_len, hpt] at this
        exact this.left
      have hpre3 : En[pt]? = some (pt + d.many) := by
        have := hpre2 0 (pt + d.many) (by rw [ends_rows]; rfl)
        exact this
      dsimp only [gName]
      refine seq_via (.int (af : Nat)) (fun R hR => ?_) ?_
      · refine ⟨_, rfl, _, _, rfl, rfl, _, rfl, q, vs, rfl, .inr hq2, _, _, rfl, rfl, _, rfl, ?_⟩
        rw [hlen]
        by_cases hlt : i + 1 < r.length
        · rw [decide_eq_true (show ((i : Nat) : Int) + 1 < ((r.length : Nat) : Int) by omega)]
          refine iteT ?_
          rw [if_pos hlt] at haf
          refine ⟨_, rfl, _, rfl, e, _, _, .int (af : Nat), rfl, rfl, SqL.of he2, ?_, hR⟩
          refine atI_nat ?_
          rw [numsV, List.getElem?_map, hpre3, ← haf]
          rfl
        · rw [decide_eq_false (show ¬ ((i : Nat) : Int) + 1 < ((r.length : Nat) : Int) by omega)]
          refine iteF ?_
          rw [if_neg hlt] at haf
          subst haf
          exact ⟨_, rfl, hR⟩
      -- back
      obtain ⟨pd, its, ev, hpd, _⟩ := shape d hdv2
      subst ev
      refine seq_via (.int ((d.back af pt : Nat) : Int)) (fun R hR => ?_) ?_
      · refine ⟨_, rfl, pd, _, 0, _, rfl, rfl, hpd, at0 _ _, rfl, _, rfl, ?_⟩
        rw [kind_w]
        unfold Dd.back at hR
        cases hw : d.isW with
        | true =>
          rw [hw] at hR
          exact iteT ⟨_, rfl, hR⟩
        | false =>
          rw [hw] at hR
          exact iteF ⟨_, rfl, hR⟩
      obtain ⟨bk, hbk⟩ : ∃ bk, d.back af pt = bk := ⟨_, rfl⟩
      rw [hbk]
      refine ⟨_, rfl, .inl ⟨rfl, _, SqL.of hp2⟩, p, _, _, rfl, rfl, hp2, by omega, ?_⟩
      have kb3 : KB p H (upd H2 p (.lst (xs ++ ys ++ [.non]))) := kb2.trans KB.set
      have kt3 : KT H2 (upd H2 p (.lst (xs ++ ys ++ [.non]))) := KT.lst hp2
      have hp3 : (upd H2 p (.lst (xs ++ ys ++ [.non]))) p = some (.lst (xs ++ ys ++ [.non])) := upd_same
      have he3 : (upd H2 p (.lst (xs ++ ys ++ [.non]))) e = some (.lst (numsV En)) := by rw [upd_ne hep]; exact he2
      revert kb3 kt3 hp3 he3
      generalize upd H2 p (.lst (xs ++ ys ++ [.non])) = H3
      intro kb3 kt3 hp3 he3
      refine ⟨Nat.zero_le _, fun wl nwl => ?_⟩
      have s4 : Same H3 (upd H3 wl (.lst [])) := Same.new nwl
      have hwl4 : (upd H3 wl (.lst [])) wl = some (.lst []) := upd_same
      have hwp : wl ≠ p := fun z => by rw [z, hp3] at nwl; cases nwl
      have hwe : wl ≠ e := fun z => by rw [z, he3] at nwl; cases nwl
      have nwH : H wl = none := by
        cases hw : H wl with
        | none => rfl
        | some o =>
          have := kb3 _ _ hwp hw
          rw [nwl] at this
          cases this
      revert s4 hwl4
      generalize upd H3 wl (.lst []) = H4
      intro s4 hwl4
      have kt24 : KT H2 H4 := kt3.trans (KT.of s4)
      have hdv4 := DAt_kt kt24 d _ hdv2
      refine ⟨_, rfl, _, d, rfl, hdv4, fun ip ws H5 s5 hip hws => ?_⟩
      have hwl5 := Paired.length hws
      have kb5 : KB p H H5 := (kb3.trans (KB.of s4)).trans (KB.of s5)
      have kt25 : KT H2 H5 := kt24.trans (KT.of s5)
      have hp5 := s5 _ _ (s4 _ _ hp3)
      have he5 := s5 _ _ (s4 _ _ he3)
      have hw5 := s5 _ _ hwl4
      refine ⟨ip, rfl, ⟨_, hip⟩, for_tup (K := K) (a := ip) (xs := ws) (fun j σ H' => ∃ (x10 : Option V) (zs : List V), σ = [some (.ref q), some (.int (f : Nat)), some (.ref e), some (.ref p), some (.int (i : Nat)), some (.ref pd), some (.int (pt : Nat)), some (.int (af : Nat)), some (.int (bk : Nat)), some (.ref wl), x10] ∧ KB p H H' ∧ KT H5 H' ∧ H' e = some (.lst (numsV En)) ∧ H' wl = some (.lst (numsV (wayL (d.rows.take j) bk (pt + 1)))) ∧ H' p = some (.lst (xs ++ ys ++ [.non] ++ zs)) ∧ Paired (PlE K C H') zs (layL (d.rows.take j) bk (pt + 1))) ⟨_, [], rfl, kb5, KT.refl H5, he5, hw5, by rw [List.append_nil]; exact hp5, .nil⟩ ?_ ?_ ?_⟩
      · rintro j σ H6 _ ⟨x10, zs, rfl, kb6, kt6, he6, hw6, hp6, hzs⟩
        exact sqt_kt kt6 hip
      · rintro j v10 σ H6 hv10 ⟨x10, zs, rfl, kb6, kt6, he6, hw6, hp6, hzs⟩
        obtain ⟨r6, hr6, q6, rfl, hq6⟩ := paired_get hws hv10
        have hml := manyL_take d.rows j r6 hr6
        have hdl := deepL_mem d.rows r6 (List.mem_of_getElem? hr6)
        have hne : d.rows ≠ [] := fun z => by
          rw [z] at hr6
          cases hr6
        have hdr := deep_rows d hne
        have hjl := (List.getElem?_eq_some_iff.mp hv10).1
        have lzs : zs.length = manyL (d.rows.take j) := by rw [Paired.length hzs, layL_len]
        have lp6 : (xs ++ ys ++ [V.non] ++ zs).length = pt + 1 + manyL (d.rows.take j) := by
          rw [List.length_append, List.length_append, lxy, lzs]
          rfl
        obtain ⟨vs6, hsq6, hds6⟩ := hq6.kt kt6
        have l6 := DsAt.length r6 vs6 hds6
        refine ⟨_, rfl, .inl ⟨rfl, _, SqL.of hw6⟩, ?_⟩
        refine via (T := (tIf _ _ _) _ H6) (.int (((if r6.isEmpty then bk else pt + 1 + manyL (d.rows.take j) : Nat)) : Int)) H6 (fun R hR => ?_) ?_
        · refine ⟨_, rfl, !vs6.isEmpty, .inr (.inl ⟨vs6, hsq6, rfl⟩), ?_⟩
          cases r6 with
          | nil =>
            cases vs6 with
            | nil => exact iteF ⟨_, rfl, hR⟩
            | cons x y => cases l6
          | cons x y =>
            cases vs6 with
            | nil => cases l6
            | cons x' y' =>
              refine iteT ⟨_, rfl, p, _, rfl, .inl (SqL.of hp6), ?_⟩
              rw [lp6]
              exact hR
        obtain ⟨wn, hwn⟩ : ∃ wn, (if r6.isEmpty then bk else pt + 1 + manyL (d.rows.take j) : Nat) = wn := ⟨_, rfl⟩
        rw [hwn]
        have hrl : d.rows.length ≤ 2 := by
          cases d <;> simp [Dd.rows]
        refine ⟨wl, _, _, rfl, rfl, hw6, by rw [numsV_len, wayL_len, List.length_take]; omega, ?_⟩
        have kt7 : KT H6 (upd H6 wl (.lst (numsV (wayL (d.rows.take j) bk (pt + 1)) ++ [.int (wn : Nat)]))) := KT.lst hw6
        have e7 : numsV (wayL (d.rows.take j) bk (pt + 1)) ++ [.int (wn : Nat)] = numsV (wayL (d.rows.take (j + 1)) bk (pt + 1)) := by
          rw [take_snoc hr6, wayL_app, wayL_one, numsV_app, hwn]
          rfl
        rw [e7] at kt7 ⊢
        have hw7 : (upd H6 wl (.lst (numsV (wayL (d.rows.take (j + 1)) bk (pt + 1))))) wl = some (.lst (numsV (wayL (d.rows.take (j + 1)) bk (pt + 1)))) := upd_same
        have he7 : (upd H6 wl (.lst (numsV (wayL (d.rows.take (j + 1)) bk (pt + 1))))) e = some (.lst (numsV En)) := by rw [upd_ne (Ne.symm hwe)]; exact he6
        have hp7 : (upd H6 wl (.lst (numsV (wayL (d.rows.take (j + 1)) bk (pt + 1))))) p = some (.lst (xs ++ ys ++ [.non] ++ zs)) := by rw [upd_ne (Ne.symm hwp)]; exact hp6
        have kb7 : KB p H (upd H6 wl (.lst (numsV (wayL (d.rows.take (j + 1)) bk (pt + 1))))) := fun a o na ha => by
          rw [upd_ne (ne_of_none ha nwH)]
          exact kb6 _ _ na ha
        revert kt7 hw7 he7 hp7 kb7
        generalize upd H6 wl (.lst (numsV (wayL (d.rows.take (j + 1)) bk (pt + 1)))) = H7
        intro kt7 hw7 he7 hp7 kb7
        have hpre7 : Pre En (xs ++ ys ++ [V.non] ++ zs).length (endsR r6 (xs ++ ys ++ [V.non] ++ zs).length) := by
          rw [lp6]
          have h1 : Pre En (pt + 1) (endsL d.rows (pt + 1)) := by
            have := hpre2
            rw [ends_rows] at this
            exact Pre.right (a := [pt + d.many]) this
          obtain ⟨rest2, hen2⟩ := endsL_at d.rows (pt + 1) j r6 hr6
          rw [hen2] at h1
          have h2 := h1.right
          rw [endsL_len] at h2
          exact h2.left
        refine ⟨_, rfl, _, rfl, _, rfl, _, rfl, q6, e, p, bk, r6, En, _, rfl, (hq6.kt kt6).kt kt7, by omega, he7, hpre7, hp7, hep, by rw [lp6]; omega, fun H8 zs2 kb8 hp8 hzs2 => ?_⟩
        have kt8 : KT H7 H8 := kb8.kt hp7
        rw [lp6] at hzs2
        refine ⟨_, zs ++ zs2, rfl, kb7.trans kb8, (kt6.trans kt7).trans kt8, kb8 _ _ hep he7, kb8 _ _ hwp hw7, by rw [hp8, List.append_assoc (xs ++ ys ++ [V.non])], ?_⟩
        rw [take_snoc hr6, layL_app, layL_one]
        exact paired_app (pls_kt (kt7.trans kt8) hzs) hzs2
      · rintro σ H6 ⟨x10, zs, rfl, kb6, kt6, he6, hw6, hp6, hzs⟩
        rw [hwl5, List.take_length] at hw6 hzs
        have hpd6 := sqt_kt (kt25.trans kt6) hpd
        refine ⟨_, rfl, pd, _, 0, _, rfl, rfl, hpd6, at0 _ _, rfl, _, rfl, ?_⟩
        rw [kind_f]
        cases hF : d.isF with
        | true =>
          refine iteF ?_
          have ew : wayL d.rows bk (pt + 1) = d.ways af pt := by
            rw [Dd.ways, hbk, hF, if_pos rfl, List.append_nil]
          rw [ew] at hw6
          refine ⟨_, rfl, _, rfl, wl, _, rfl, .inl ⟨SqL.of hw6, fun wt nwt => ?_⟩⟩
          have s8 : Same H6 (upd H6 wt (.tup (numsV (d.ways af pt)))) := Same.new nwt
          have hwt8 : (upd H6 wt (.tup (numsV (d.ways af pt)))) wt = some (.tup (numsV (d.ways af pt))) := upd_same
          revert s8 hwt8
          generalize upd H6 wt (.tup (numsV (d.ways af pt))) = H8
          intro s8 hwt8
          refine ⟨by show 2 ≤ sizeLine; decide, fun tt ntt => ?_⟩
          have s9 : Same H8 (upd H8 tt (.tup [.ref pd, .ref wt])) := Same.new ntt
          have htt9 : (upd H8 tt (.tup [.ref pd, .ref wt])) tt = some (.tup [.ref pd, .ref wt]) := upd_same
          revert s9 htt9
          generalize upd H8 tt (.tup [.ref pd, .ref wt]) = H9
          intro s9 htt9
          have s79 := s8.trans s9
          have hp9 := s79 _ _ hp6
          have kt9 : KT H9 (upd H9 p (.lst ((xs ++ ys ++ [V.non] ++ zs).set pt (.ref tt)))) := KT.lst hp9
          refine ⟨_, rfl, _, rfl, p, _, _, pt, rfl, rfl, hp9, ixN_at _ _ (by rw [List.length_append, List.length_append, lxy]; simp only [List.length_cons]; omega), ?_⟩
          have es : (xs ++ ys ++ [V.non] ++ zs).set pt (.ref tt) = xs ++ (ys ++ (.ref tt :: zs)) := by
            rw [List.append_assoc (xs ++ ys), List.set_append_right _ _ (by rw [lxy]; exact Nat.le_refl _), lxy, Nat.sub_self, List.append_assoc]
            rfl
          have ktz : KT H2 (upd H9 p (.lst ((xs ++ ys ++ [V.non] ++ zs).set pt (.ref tt)))) := ((kt25.trans kt6).trans (KT.of s79)).trans kt9
          refine ⟨_, _, _, _, _, _, _, ys ++ (.ref tt :: zs), rfl, (kb6.trans (KB.of s79)).trans KB.set, by rw [upd_same, es], ?_⟩
          rw [lay_step r f xs.length i d hd, hpt, haf, lay_rows, hbk]
          refine paired_app (pls_kt ktz hys2) (.cons ⟨tt, wt, .ref pd, rfl, kt9 _ _ htt9 (fun _ e => nomatch e), kt9 _ _ (s9 _ _ hwt8) (fun _ e => nomatch e), DAt_kt ktz d _ hdv2⟩ (pls_kt ((KT.of s79).trans kt9) hzs))
        | false =>
          refine iteT ?_
          have hrl : d.rows.length ≤ 2 := by
            cases d <;> simp [Dd.rows]
          refine ⟨_, rfl, .inl ⟨rfl, _, SqL.of hw6⟩, _, rfl, wl, _, _, rfl, rfl, hw6, by rw [numsV_len, wayL_len]; omega, ?_⟩
          have ew : numsV (wayL d.rows bk (pt + 1)) ++ [.int (af : Nat)] = numsV (d.ways af pt) := by
            rw [Dd.ways, hbk, hF, if_neg Bool.false_ne_true, numsV_app]
            rfl
          rw [ew]
          have kt7 : KT H6 (upd H6 wl (.lst (numsV (d.ways af pt)))) := KT.lst hw6
          have hw7 : (upd H6 wl (.lst (numsV (d.ways af pt)))) wl = some (.lst (numsV (d.ways af pt))) := upd_same
          have hp7 : (upd H6 wl (.lst (numsV (d.ways af pt)))) p = some (.lst (xs ++ ys ++ [.non] ++ zs)) := by rw [upd_ne (Ne.symm hwp)]; exact hp6
          have kb7 : KB p H (upd H6 wl (.lst (numsV (d.ways af pt)))) := fun a o na ha => by
            rw [upd_ne (ne_of_none ha nwH)]
            exact kb6 _ _ na ha
          have hzs7 := pls_kt kt7 hzs
          revert kt7 hw7 hp7 kb7 hzs7
          generalize upd H6 wl (.lst (numsV (d.ways af pt))) = H7
          intro kt7 hw7 hp7 kb7 hzs7
          refine ⟨_, rfl, _, rfl, wl, _, rfl, .inl ⟨SqL.of hw7, fun wt nwt => ?_⟩⟩
          have s8 : Same H7 (upd H7 wt (.tup (numsV (d.ways af pt)))) := Same.new nwt
          have hwt8 : (upd H7 wt (.tup (numsV (d.ways af pt)))) wt = some (.tup (numsV (d.ways af pt))) := upd_same
          revert s8 hwt8
          generalize upd H7 wt (.tup (numsV (d.ways af pt))) = H8
          intro s8 hwt8
          refine ⟨by show 2 ≤ sizeLine; decide, fun tt ntt => ?_⟩
          have s9 : Same H8 (upd H8 tt (.tup [.ref pd, .ref wt])) := Same.new ntt
          have htt9 : (upd H8 tt (.tup [.ref pd, .ref wt])) tt = some (.tup [.ref pd, .ref wt]) := upd_same
          revert s9 htt9
          generalize upd H8 tt (.tup [.ref pd, .ref wt]) = H9
          intro s9 htt9
          have s79 := s8.trans s9
          have hp9 := s79 _ _ hp7
          have kt9 : KT H9 (upd H9 p (.lst ((xs ++ ys ++ [V.non] ++ zs).set pt (.ref tt)))) := KT.lst hp9
          refine ⟨_, rfl, _, rfl, p, _, _, pt, rfl, rfl, hp9, ixN_at _ _ (by rw [List.length_append, List.length_append, lxy]; simp only [List.length_cons]; omega), ?_⟩
          have es : (xs ++ ys ++ [V.non] ++ zs).set pt (.ref tt) = xs ++ (ys ++ (.ref tt :: zs)) := by
            rw [List.append_assoc (xs ++ ys), List.set_append_right _ _ (by rw [lxy]; exact Nat.le_refl _), lxy, Nat.sub_self, List.append_assoc]
            rfl
          have ktz : KT H2 (upd H9 p (.lst ((xs ++ ys ++ [V.non] ++ zs).set pt (.ref tt)))) := ((kt25.trans (kt6.trans kt7)).trans (KT.of s79)).trans kt9
          refine ⟨_, _, _, _, _, _, _, ys ++ (.ref tt :: zs), rfl, (kb7.trans (KB.of s79)).trans KB.set, by rw [upd_same, es], ?_⟩
          rw [lay_step r f xs.length i d hd, hpt, haf, lay_rows, hbk]
          refine paired_app (pls_kt ktz hys2) (.cons ⟨tt, wt, .ref pd, rfl, kt9 _ _ htt9 (fun _ e => nomatch e), kt9 _ _ (s9 _ _ hwt8) (fun _ e => nomatch e), DAt_kt ktz d _ hdv2⟩ (pls_kt ((KT.of s79).trans kt9) hzs7))
    · rintro σ H1 ⟨x4, x5, x6, x7, x8, x9, x10, ys, rfl, kb1, hp1, hys⟩
      rw [hlen, List.take_length, List.take_of_length_le (by rw [layR_len]; exact Nat.le_refl _)] at hys
      exact k H1 ys kb1 hp1 hys
end
end Js

set_option Elab.async false
set_option linter.all false
set_option maxRecDepth 100000
set_option maxHeartbeats 2000000
/-! == of deeds, of rows of deeds -/
namespace Js
open PySem L2
noncomputable instance : DecidableEq Dd := Classical.typeDecidableEq Dd
def kindN : Dd → Nat
  | .told _ _ => 0
  | .take false _ _ => 1
  | .take true _ _ => 2
  | .two false _ _ _ => 3
  | .two true _ _ _ => 4
  | .wh _ _ => 5
  | .iff _ _ _ => 6
def kindI (x : Str) : Nat := (["told", "first", "second", "pair", "same", "while", "if"] : List Str).findIdx (· == x)
theorem kind_ix : ∀ d : Dd, kindI (kindOf d) = kindN d
  | .told _ _ => (by decide +kernel : kindI "told" = 0)
  | .take false _ _ => (by decide +kernel : kindI "first" = 1)
  | .take true _ _ => (by decide +kernel : kindI "second" = 2)
  | .two false _ _ _ => (by decide +kernel : kindI "pair" = 3)
  | .two true _ _ _ => (by decide +kernel : kindI "same" = 4)
  | .wh _ _ => (by decide +kernel : kindI "while" = 5)
  | .iff _ _ _ => (by decide +kernel : kindI "if" = 6)
theorem kind_eq {d e : Dd} (h : kindOf d = kindOf e) : kindN d = kindN e := by rw [← kind_ix, ← kind_ix, h]
section
variable {X : Cx} {pins : List (Addr × Obj)} {σ : L2.St} {H : Hp} {s : Shared} {C : Addr}
theorem DAt_kind (I : Inv X pins σ H s) {d e : Dd} {v : V} (h : DAt X.K C H v d) (g : DAt X.K C H v e) : kindN d = kindN e := by
  obtain ⟨p, its, rfl, h1, _⟩ := shape d h
  obtain ⟨p', its', e', g1, _⟩ := shape e g
  cases e'
  have := I.tuple_inj h1 g1
  simp only [List.cons.injEq, V.str.injEq] at this
  exact kind_eq this.1
mutual
theorem DAt_inj (I : Inv X pins σ H s) : ∀ (d e : Dd) (v : V), DAt X.K C H v d → DAt X.K C H v e → d = e
  | .told a t, e, v, h, g => by
    have hk := DAt_kind I h g
    cases e with
    | told b u =>
      obtain ⟨p, x, rfl, h1, h2, h3, h4⟩ := h
      obtain ⟨p', x', e', g1, g2, g3, g4⟩ := g
      cases e'
      have := I.tuple_inj h1 g1
      simp only [List.cons.injEq, V.int.injEq, V.ref.injEq, and_true, true_and] at this
      obtain ⟨ea, rfl⟩ := this
      cases Int.ofNat.inj ea
      rw [h3.inj g3]
    | take s _ _ => cases s <;> cases hk
    | two s _ _ _ => cases s <;> cases hk
    | wh _ _ => cases hk
    | iff _ _ _ => cases hk
  | .take k a b, e, v, h, g => by
    have hk := DAt_kind I h g
    cases e with
    | take s a' b' =>
      obtain ⟨p, rfl, h1, h2, h3⟩ := h
      obtain ⟨p', e', g1, g2, g3⟩ := g
      cases e'
      have := I.tuple_inj h1 g1
      simp only [List.cons.injEq, V.int.injEq, and_true] at this
      obtain ⟨_, ea, eb⟩ := this
      cases Int.ofNat.inj ea
      cases Int.ofNat.inj eb
      have : k = s := by cases k <;> cases s <;> first | rfl | cases hk
      rw [this]
    | told _ _ => cases k <;> cases hk
    | two s _ _ _ => cases k <;> cases s <;> cases hk
    | wh _ _ => cases k <;> cases hk
    | iff _ _ _ => cases k <;> cases hk
  | .two k a b c, e, v, h, g => by
    have hk := DAt_kind I h g
    cases e with
    | two s a' b' c' =>
      obtain ⟨p, rfl, h1, h2, h3, h4⟩ := h
      obtain ⟨p', e', g1, g2, g3, g4⟩ := g
      cases e'
      have := I.tuple_inj h1 g1
      simp only [List.cons.injEq, V.int.injEq, and_true] at this
      obtain ⟨_, ea, eb, ec⟩ := this
      cases Int.ofNat.inj ea
      cases Int.ofNat.inj eb
      cases Int.ofNat.inj ec
      have : k = s := by cases k <;> cases s <;> first | rfl | cases hk
      rw [this]
    | told _ _ => cases k <;> cases hk
    | take s _ _ => cases k <;> cases s <;> cases hk
    | wh _ _ => cases k <;> cases hk
    | iff _ _ _ => cases k <;> cases hk
  | .wh a r, e, v, h, g => by
    have hk := DAt_kind I h g
    cases e with
    | wh a' r' =>
      obtain ⟨p, q, vs, rfl, h1, h2, h3, h4⟩ := h
      obtain ⟨p', q', vs', e', g1, g2, g3, g4⟩ := g
      cases e'
      have := I.tuple_inj h1 g1
      simp only [List.cons.injEq, V.int.injEq, V.ref.injEq, and_true, true_and] at this
      obtain ⟨ea, rfl⟩ := this
      cases Int.ofNat.inj ea
      cases I.tuple_inj h3 g3
      rw [DsAt_inj I r r' vs h4 g4]
    | told _ _ => cases hk
    | take s _ _ => cases s <;> cases hk
    | two s _ _ _ => cases s <;> cases hk
    | iff _ _ _ => cases hk
  | .iff a r o, e, v, h, g => by
    have hk := DAt_kind I h g
    cases e with
    | iff a' r' o' =>
      obtain ⟨p, q, vs, q2, vs2, rfl, h1, h2, h3, h4, h5, h6⟩ := h
      obtain ⟨p', q', vs', q2', vs2', e', g1, g2, g3, g4, g5, g6⟩ := g
      cases e'
      have := I.tuple_inj h1 g1
      simp only [List.cons.injEq, V.int.injEq, V.ref.injEq, and_true, true_and] at this
      obtain ⟨ea, rfl, rfl⟩ := this
      cases Int.ofNat.inj ea
      cases I.tuple_inj h3 g3
      cases I.tuple_inj h5 g5
      rw [DsAt_inj I r r' vs h4 g4, DsAt_inj I o o' vs2 h6 g6]
    | told _ _ => cases hk
    | take s _ _ => cases s <;> cases hk
    | two s _ _ _ => cases s <;> cases hk
    | wh _ _ => cases hk
theorem DsAt_inj (I : Inv X pins σ H s) : ∀ (r u : List Dd) (vs : List V), DsAt X.K C H vs r → DsAt X.K C H vs u → r = u
  | [], u, vs, h, g => by
    have e : vs = [] := h
    subst e
    cases u with
    | nil => rfl
    | cons d u =>
      obtain ⟨v, us, e, _⟩ := g
      cases e
  | d :: r, u, vs, h, g => by
    obtain ⟨v, us, rfl, h1, h2⟩ := h
    cases u with
    | nil => cases (show v :: us = [] from g)
    | cons e u =>
      obtain ⟨v', us', e', g1, g2⟩ := g
      cases e'
      rw [DAt_inj I d e v h1 g1, DsAt_inj I r u us h2 g2]
end
theorem RAt_inj (I : Inv X pins σ H s) {q : Addr} {r u : List Dd} (h : RAt X.K C H q r) (g : RAt X.K C H q u) : r = u := by
  obtain ⟨vs, h1, h2⟩ := h
  obtain ⟨us, g1, g2⟩ := g
  cases I.tuple_inj h1 g1
  exact DsAt_inj I r u vs h2 g2
end
/-! what == tells -/
/-- rows of fewer than n floors -/
def TRow (K : PySem.W.Frag) (C : Addr) (n : Nat) : Tells := fun x y b H => ∃ q q2 r u, x = .ref q ∧ y = .ref q2 ∧ RAt K C H q r ∧ RAt K C H q2 u ∧ deepR r < n ∧ deepR u < n ∧ b = decide (r = u)
def TDd (K : PySem.W.Frag) (C : Addr) (n : Nat) : Tells := fun x y b H => ∃ d e, DAt K C H x d ∧ DAt K C H y e ∧ d.deep ≤ n ∧ e.deep ≤ n ∧ b = decide (d = e)
/-- the parts of a deed -/
def TPart (K : PySem.W.Frag) (C : Addr) (n : Nat) : Tells := fun x y b H => (TFlat x y b H ∨ DTh C x y b H) ∨ TRow K C n x y b H
theorem TRow_mon {K : PySem.W.Frag} {C : Addr} {n : Nat} : MonT (TRow K C n) := fun x y r H H' s d => by
  obtain ⟨q, q2, a, u, e1, e2, h1, h2, h3, h4, e3⟩ := d
  exact ⟨q, q2, a, u, e1, e2, h1.same s, h2.same s, h3, h4, e3⟩
theorem TDd_mon {K : PySem.W.Frag} {C : Addr} {n : Nat} : MonT (TDd K C n) := fun x y r H H' s d => by
  obtain ⟨a, u, h1, h2, h3, h4, e3⟩ := d
  exact ⟨a, u, DAt_kt (KT.of s) _ _ h1, DAt_kt (KT.of s) _ _ h2, h3, h4, e3⟩
theorem DThM {C : Addr} : MonT (DTh C) := fun x y r H H' s d => by
  obtain ⟨a, b, t, u, e1, e2, ha, hb, hz, e3⟩ := d
  exact ⟨a, b, t, u, e1, e2, ha.same s, hb.same s, hz, e3⟩
theorem TPart_mon {K : PySem.W.Frag} {C : Addr} {n : Nat} : MonT (TPart K C n) := fun x y r H H' s d => by
  rcases d with (d | d) | d
  · exact .inl (.inl d)
  · exact .inl (.inr (DThM _ _ _ _ _ s d))
  · exact .inr (TRow_mon _ _ _ _ _ s d)
theorem eqT_thing {X : Cx} {C : Addr} (S : Spc X.prog X.w X.K X.mg X.base C "__eq__" 2 ["self", "other"] (spEqT C)) : EqT X 2 (DTh C) := by
  obtain ⟨f, fd, ow, F, hb⟩ := S
  refine eqT_own ow F hb (pass0) fun x y r H d => ?_
  obtain ⟨a, b, t, u, rfl, rfl, ha, hb', hz, rfl⟩ := d
  obtain ⟨dx, f1, g1, h1⟩ := ha.obj
  obtain ⟨dy, f2, g2, h2⟩ := hb'.obj
  refine ⟨a, b, dx, dy, _, _, rfl, rfl, h1, h2, fun e => ?_, a, b, t, u, rfl, ha, hb', hz, fun H' s => ⟨_, rfl, rfl, s⟩⟩
  subst e
  exact decide_eq_true (ha.inj hb')
theorem flat_i {H : Hp} (a b : Nat) : TFlat (.int (a : Nat)) (.int (b : Nat)) (decide (a = b)) H := ⟨rfl, rfl, by
  show (((a : Nat) : Int) == ((b : Nat) : Int)) = decide (a = b)
  by_cases h : a = b
  · subst h; simp
  · rw [decide_eq_false h]
    exact beq_eq_false_iff_ne.mpr (by omega)⟩
theorem flat_s {H : Hp} (a b : Str) : TFlat (.str a) (.str b) (decide (a = b)) H := ⟨rfl, rfl, by
  show (a == b) = decide (a = b)
  by_cases h : a = b
  · subst h; simp
  · rw [decide_eq_false h]
    exact beq_eq_false_iff_ne.mpr h⟩
theorem prs_nil {D : Tells} {H : Hp} : PrsT D [] [] [] H := ⟨rfl, fun i x y b h1 _ _ _ => by simp at h1⟩
theorem prs_cons {D : Tells} {H : Hp} {x y : V} {b : Bool} {xs ys : List V} {bs : List Bool} (h : D x y b H) (t : b = true → PrsT D xs ys bs H) (hl : bs.length = min xs.length ys.length) : PrsT D (x :: xs) (y :: ys) (b :: bs) H := by
  refine ⟨by rw [List.length_cons, List.length_cons, List.length_cons, hl]; omega, fun i u v c h1 h2 h3 h4 => ?_⟩
  cases i with
  | zero =>
    cases Option.some.inj h1
    cases Option.some.inj h2
    cases Option.some.inj h3
    exact h
  | succ i =>
    rw [List.take_succ_cons, List.all_cons] at h4
    have hb : b = true := by
      cases b
      · cases h4
      · rfl
    subst hb
    exact (t rfl).2 i u v c h1 h2 h3 (by simpa using h4)
theorem tells_cons (x y : V) (xs ys : List V) (b : Bool) (bs : List Bool) : tells (x :: xs) (y :: ys) (b :: bs) = (b && tells xs ys bs) := by
  unfold tells
  simp only [List.length_cons, List.all_cons, id, Nat.add_right_cancel_iff]
  cases b <;> simp
theorem tells_nil : tells [] [] [] = true := rfl
/-- unlike kinds: the first word tells -/
theorem prs_kind {K : PySem.W.Frag} {C : Addr} {n : Nat} {H : Hp} {a b : Str} {xs ys : List V} (h : a ≠ b) : PrsT (TPart K C n) (.str a :: xs) (.str b :: ys) (false :: List.replicate (min xs.length ys.length) false) H :=
  prs_cons (.inl (.inl (by rw [← decide_eq_false h]; exact flat_s a b))) (fun z => by cases z) (by rw [List.length_replicate])
theorem kind_ne {d e : Dd} (h : kindOf d ≠ kindOf e) : decide (d = e) = false := decide_eq_false fun z => h (by rw [z])
/-- two deeds that stand, part by part -/
theorem deeds_prs {K : PySem.W.Frag} {C : Addr} {n : Nat} {H : Hp} {x y : V} {d e : Dd} (h : DAt K C H x d) (g : DAt K C H y e) (hd : d.deep ≤ n) (he : e.deep ≤ n) :
    ∃ p q xs ys bs, x = .ref p ∧ y = .ref q ∧ SqT K H p xs ∧ SqT K H q ys ∧ PrsT (TPart K C n) xs ys bs H ∧ tells xs ys bs = decide (d = e) := by
  by_cases hk : kindOf d = kindOf e
  · have hn := kind_eq hk
    have fi : ∀ a b : Nat, TPart K C n (.int (a : Nat)) (.int (b : Nat)) (decide (a = b)) H := fun a b => .inl (.inl (flat_i a b))
    have fs : TPart K C n (.str (kindOf d)) (.str (kindOf e)) true H := .inl (.inl (by rw [hk]; have := flat_s (H := H) (kindOf e) (kindOf e); rwa [decide_eq_true rfl] at this))
    cases d with
    | told a t =>
      cases e with
      | told b u =>
        obtain ⟨p, x1, rfl, h1, h2, h3, h4⟩ := h
        obtain ⟨q, y1, rfl, g1, g2, g3, g4⟩ := g
        refine ⟨p, q, _, _, [true, decide (a = b), decide (t = u)], rfl, rfl, h1, g1, prs_cons fs (fun _ => prs_cons (fi a b) (fun _ => prs_cons (.inl (.inr ⟨x1, y1, t, u, rfl, rfl, h3, g3, h4, rfl⟩)) (fun _ => prs_nil) rfl) rfl) rfl, ?_⟩
        rw [tells_cons, tells_cons, tells_cons, tells_nil]
        by_cases e1 : a = b <;> by_cases e2 : t = u <;> simp [e1, e2]
      | take s _ _ => cases s <;> cases hn
      | two s _ _ _ => cases s <;> cases hn
      | wh _ _ => cases hn
      | iff _ _ _ => cases hn
    | take k a b =>
      cases e with
      | take s a' b' =>
        obtain ⟨p, rfl, h1, h2, h3⟩ := h
        obtain ⟨q, rfl, g1, g2, g3⟩ := g
        have eks : k = s := by cases k <;> cases s <;> first | rfl | cases hn
        subst eks
        refine ⟨p, q, _, _, [true, decide (a = a'), decide (b = b')], rfl, rfl, h1, g1, prs_cons fs (fun _ => prs_cons (fi a a') (fun _ => prs_cons (fi b b') (fun _ => prs_nil) rfl) rfl) rfl, ?_⟩
        rw [tells_cons, tells_cons, tells_cons, tells_nil]
        by_cases e1 : a = a' <;> by_cases e2 : b = b' <;> simp [e1, e2]
      | told _ _ => cases k <;> cases hn
      | two s _ _ _ => cases k <;> cases s <;> cases hn
      | wh _ _ => cases k <;> cases hn
      | iff _ _ _ => cases k <;> cases hn
    | two k a b c =>
      cases e with
      | two s a' b' c' =>
        obtain ⟨p, rfl, h1, h2, h3, h4⟩ := h
        obtain ⟨q, rfl, g1, g2, g3, g4⟩ := g
        have eks : k = s := by cases k <;> cases s <;> first | rfl | cases hn
        subst eks
        refine ⟨p, q, _, _, [true, decide (a = a'), decide (b = b'), decide (c = c')], rfl, rfl, h1, g1, prs_cons fs (fun _ => prs_cons (fi a a') (fun _ => prs_cons (fi b b') (fun _ => prs_cons (fi c c') (fun _ => prs_nil) rfl) rfl) rfl) rfl, ?_⟩
        rw [tells_cons, tells_cons, tells_cons, tells_cons, tells_nil]
        by_cases e1 : a = a' <;> by_cases e2 : b = b' <;> by_cases e3 : c = c' <;> simp [e1, e2, e3]
      | told _ _ => cases k <;> cases hn
      | take s _ _ => cases k <;> cases s <;> cases hn
      | wh _ _ => cases k <;> cases hn
      | iff _ _ _ => cases k <;> cases hn
    | wh a r =>
      cases e with
      | wh a' r' =>
        obtain ⟨p, q1, vs, rfl, h1, h2, h3, h4⟩ := h
        obtain ⟨q, q2, us, rfl, g1, g2, g3, g4⟩ := g
        rw [Dd.deep] at hd he
        refine ⟨p, q, _, _, [true, decide (a = a'), decide (r = r')], rfl, rfl, h1, g1, prs_cons fs (fun _ => prs_cons (fi a a') (fun _ => prs_cons (.inr ⟨q1, q2, r, r', rfl, rfl, ⟨vs, h3, h4⟩, ⟨us, g3, g4⟩, by omega, by omega, rfl⟩) (fun _ => prs_nil) rfl) rfl) rfl, ?_⟩
        rw [tells_cons, tells_cons, tells_cons, tells_nil]
        by_cases e1 : a = a' <;> by_cases e2 : r = r' <;> simp [e1, e2]
      | told _ _ => cases hn
      | take s _ _ => cases s <;> cases hn
      | two s _ _ _ => cases s <;> cases hn
      | iff _ _ _ => cases hn
    | iff a r o =>
      cases e with
      | iff a' r' o' =>
        obtain ⟨p, q1, vs, q3, vs3, rfl, h1, h2, h3, h4, h5, h6⟩ := h
        obtain ⟨q, q2, us, q4, us4, rfl, g1, g2, g3, g4, g5, g6⟩ := g
        rw [Dd.deep] at hd he
        refine ⟨p, q, _, _, [true, decide (a = a'), decide (r = r'), decide (o = o')], rfl, rfl, h1, g1, prs_cons fs (fun _ => prs_cons (fi a a') (fun _ => prs_cons (.inr ⟨q1, q2, r, r', rfl, rfl, ⟨vs, h3, h4⟩, ⟨us, g3, g4⟩, by omega, by omega, rfl⟩) (fun _ => prs_cons (.inr ⟨q3, q4, o, o', rfl, rfl, ⟨vs3, h5, h6⟩, ⟨us4, g5, g6⟩, by omega, by omega, rfl⟩) (fun _ => prs_nil) rfl) rfl) rfl) rfl, ?_⟩
        rw [tells_cons, tells_cons, tells_cons, tells_cons, tells_nil]
        by_cases e1 : a = a' <;> by_cases e2 : r = r' <;> by_cases e3 : o = o' <;> simp [e1, e2, e3]
      | told _ _ => cases hn
      | take s _ _ => cases s <;> cases hn
      | two s _ _ _ => cases s <;> cases hn
      | wh _ _ => cases hn
  · obtain ⟨p, xs, rfl, h1, _⟩ := shape d h
    obtain ⟨q, ys, rfl, g1, _⟩ := shape e g
    refine ⟨p, q, _, _, _, rfl, rfl, h1, g1, prs_kind hk, ?_⟩
    rw [tells_cons, kind_ne hk]
    rfl
theorem rows_prs {K : PySem.W.Frag} {C : Addr} {n : Nat} {H : Hp} : ∀ (r u : List Dd) (xs ys : List V), DsAt K C H xs r → DsAt K C H ys u → deepR r ≤ n → deepR u ≤ n → ∃ bs, PrsT (TDd K C n) xs ys bs H ∧ tells xs ys bs = decide (r = u)
  | [], [], xs, ys, h, g, _, _ => by
    have e1 : xs = [] := h
    have e2 : ys = [] := g
    subst e1 e2
    exact ⟨[], prs_nil, by rw [tells_nil, decide_eq_true rfl]⟩
  | [], e :: u, xs, ys, h, g, _, _ => by
    have e1 : xs = [] := h
    obtain ⟨v, us, rfl, _⟩ := g
    subst e1
    exact ⟨[], ⟨by simp, fun i x y b h1 _ _ _ => by simp at h1⟩, by rw [decide_eq_false (by simp)]; rfl⟩
  | d :: r, [], xs, ys, h, g, _, _ => by
    have e2 : ys = [] := g
    obtain ⟨v, us, rfl, _⟩ := h
    subst e2
    exact ⟨[], ⟨by simp, fun i x y b _ h2 _ _ => by simp at h2⟩, by rw [decide_eq_false (by simp)]; rfl⟩
  | d :: r, e :: u, xs, ys, h, g, hr, hu => by
    obtain ⟨v, vs, rfl, h1, h2⟩ := h
    obtain ⟨v', us, rfl, g1, g2⟩ := g
    rw [deepR] at hr hu
    have m1 := Nat.le_max_left d.deep (deepR r)
    have m2 := Nat.le_max_right d.deep (deepR r)
    have m3 := Nat.le_max_left e.deep (deepR u)
    have m4 := Nat.le_max_right e.deep (deepR u)
    obtain ⟨bs, p, t⟩ := rows_prs (n := n) r u vs us h2 g2 (by omega) (by omega)
    refine ⟨decide (d = e) :: bs, prs_cons ⟨d, e, h1, g1, by omega, by omega, rfl⟩ (fun _ => p) p.1, ?_⟩
    rw [tells_cons, t]
    by_cases e1 : d = e <;> by_cases e2 : r = u <;> simp [e1, e2]
section
variable {X : Cx} {C : Addr}
/-- == of rows, of deeds, of their parts -/
theorem eqT_rows (S : Spc X.prog X.w X.K X.mg X.base C "__eq__" 2 ["self", "other"] (spEqT C)) : ∀ n, EqT X (2 * n + 2) (TRow X.K C n) ∧ RcT X .Eq id (2 * n + 2) (TRow X.K C n) ∧ RcT X .NotEq not (2 * n + 2) (TRow X.K C n) := by
  intro n
  induction n with
  | zero =>
    refine ⟨fun A pins s σ H x y u v r sb I rx ry d => ?_, fun A pins s σ H x y u v r sb I rx ry d => ?_, fun A pins s σ H x y u v r sb I rx ry d => ?_⟩ <;>
    · obtain ⟨q, q2, a, b, _, _, _, _, h, _⟩ := d
      exact absurd h (Nat.not_lt_zero _)
  | succ n ih =>
    have hp : EqT X (2 * n + 2) (TPart X.K C n) := ((eqT_flat.mono (Nat.zero_le _)).or ((eqT_thing S).mono (by omega))).or ih.1
    have hd1 : EqT X (2 * n + 3) (TDd X.K C n) := by
      refine EqT.imp (D := fun x y b H => TTup X.K (TPart X.K C n) x y b H ∧ TDd X.K C n x y b H) ?_ (fun x y b H d => ?_)
      · refine RcT.eqT (fun A pins s σ H x y u v r sb I rx ry d => rcT_tup_eq TPart_mon hp A pins s σ H x y u v r sb I rx ry d.1) (fun x y r H d => ?_) fun pins s σ H x r I d => ?_
        · obtain ⟨a, b, _, _, _, hx, hy, _⟩ := d.1
          exact ⟨a, b, hx, hy⟩
        · obtain ⟨_, d, e, h1, h2, _, _, rfl⟩ := d
          exact decide_eq_true (DAt_inj I d e x h1 h2)
      · obtain ⟨d', e, h, g, hd, he, rfl⟩ := id d
        obtain ⟨p, q, xs, ys, bs, ex, ey, h1, h2, h3, h4⟩ := deeds_prs h g hd he
        exact ⟨⟨p, q, xs, ys, bs, ex, ey, h1, h2, h3, h4.symm⟩, d⟩
    have tt : ∀ x y b H, TRow X.K C (n + 1) x y b H → TTup X.K (TDd X.K C n) x y b H := by
      intro x y b H d
      obtain ⟨q, q2, r, u, ex, ey, ⟨vs, h1, h2⟩, ⟨us, g1, g2⟩, h3, h4, rfl⟩ := d
      obtain ⟨bs, p, t⟩ := rows_prs r u vs us h2 g2 (Nat.lt_succ_iff.mp h3) (Nat.lt_succ_iff.mp h4)
      exact ⟨q, q2, vs, us, bs, ex, ey, h1, g1, p, t.symm⟩
    have r1 : RcT X .Eq id (2 * (n + 1) + 2) (TRow X.K C (n + 1)) := fun A pins s σ H x y u v r sb I rx ry d => rcT_tup_eq TDd_mon hd1 A pins s σ H x y u v r sb I rx ry (tt _ _ _ _ d)
    have r2 : RcT X .NotEq not (2 * (n + 1) + 2) (TRow X.K C (n + 1)) := fun A pins s σ H x y u v r sb I rx ry d => rcT_tup_ne TDd_mon hd1 A pins s σ H x y u v r sb I rx ry (tt _ _ _ _ d)
    refine ⟨RcT.eqT r1 (fun x y r H d => ?_) fun pins s σ H x r I d => ?_, r1, r2⟩
    · obtain ⟨q, q2, _, _, ex, ey, _⟩ := d
      exact ⟨q, q2, ex, ey⟩
    · obtain ⟨q, q2, a, b, ex, ey, h1, h2, _, _, rfl⟩ := d
      cases ex
      cases ey
      exact decide_eq_true (RAt_inj I h1 h2)
end
end Js

set_option Elab.async false
set_option linter.all false
set_option maxRecDepth 100000
set_option maxHeartbeats 2000000
namespace Js
open PySem L2
abbrev sPInit : Stmt := inClass (top 25) 0
abbrev sPLen : Stmt := inClass (top 25) 2
abbrev sPEq : Stmt := inClass (top 25) 3
theorem n_dp : ¬ (("deeds" : Str) = "plan") := by decide +kernel
theorem n_pd : ¬ (("plan" : Str) = "deeds") := by decide +kernel
def pf (q pl : Addr) : List (Str × V) := putF "plan" (.ref pl) (putF "deeds" (.ref q) [])
theorem pf_deeds (q pl : Addr) : (pf q pl).lookup ("deeds" : Str) = some (.ref q) := by
  unfold pf
  rw [lookup_putF, if_neg n_dp, lookup_putF, if_pos rfl]
theorem pf_plan (q pl : Addr) : (pf q pl).lookup ("plan" : Str) = some (.ref pl) := by
  unfold pf
  rw [lookup_putF, if_pos rfl]
/-- tuples and things stay -/
structure Fr (H H' : Hp) : Prop where
  t : ∀ a xs, H a = some (.tup xs) → H' a = some (.tup xs)
  z : ∀ a o xs, H a = some (.frz o (.tup xs)) → H' a = some (.frz o (.tup xs))
  i : ∀ a C dx f s n, H a = some (.ins C dx (tf f s n)) → H' a = some (.ins C dx (tf f s n))
theorem Fr.kb {H H' : Hp} {p D dx : Addr} (hp : H p = some (.ins D dx [])) (k : KB p H H') : Fr H H' :=
  ⟨fun a xs h => k _ _ (fun z => by rw [z, hp] at h; cases h) h, fun a o xs h => k _ _ (fun z => by rw [z, hp] at h; cases h) h, fun a C dx f s n h => k _ _ (fun z => by
    rw [z, hp] at h
    have e := Option.some.inj h
    injection e with _ _ e3
    have := tf_size f s n
    rw [← e3] at this
    cases this) h⟩
theorem Th.fr {C : Addr} {H H' : Hp} (k : Fr H H') {a : Addr} {t : Tr} (h : Th C H a t) : Th C H' a t := by
  induction h with
  | nil h => exact .nil (k.i _ _ _ _ _ _ h)
  | pr h _ _ ih1 ih2 => exact .pr (k.i _ _ _ _ _ _ h) ih1 ih2
theorem sqt_fr {K : PySem.W.Frag} {H H' : Hp} (k : Fr H H') {a : Addr} {xs : List V} (h : SqT K H a xs) : SqT K H' a xs :=
  h.elim (fun h => .inl (h.elim (fun h => .inl (k.t _ _ h)) fun ⟨o, h⟩ => .inr ⟨o, k.z _ _ _ h⟩)) fun h => .inr h
mutual
theorem DAt_fr {K : PySem.W.Frag} {C : Addr} {H H' : Hp} (k : Fr H H') : ∀ (d : Dd) (v : V), DAt K C H v d → DAt K C H' v d
  | .told a t, v, h => by
    obtain ⟨p, x, e, h1, h2, h3, h4⟩ := h
    exact ⟨p, x, e, sqt_fr k h1, h2, h3.fr k, h4⟩
  | .take s a b, v, h => by
    obtain ⟨p, e, h1, h2⟩ := h
    exact ⟨p, e, sqt_fr k h1, h2⟩
  | .two s a b c, v, h => by
    obtain ⟨p, e, h1, h2⟩ := h
    exact ⟨p, e, sqt_fr k h1, h2⟩
  | .wh a r, v, h => by
    obtain ⟨p, q, vs, e, h1, h2, h3, h4⟩ := h
    exact ⟨p, q, vs, e, sqt_fr k h1, h2, sqt_fr k h3, DsAt_fr k r vs h4⟩
  | .iff a r o, v, h => by
    obtain ⟨p, q, vs, q2, vs2, e, h1, h2, h3, h4, h5, h6⟩ := h
    exact ⟨p, q, vs, q2, vs2, e, sqt_fr k h1, h2, sqt_fr k h3, DsAt_fr k r vs h4, sqt_fr k h5, DsAt_fr k o vs2 h6⟩
theorem DsAt_fr {K : PySem.W.Frag} {C : Addr} {H H' : Hp} (k : Fr H H') : ∀ (r : List Dd) (vs : List V), DsAt K C H vs r → DsAt K C H' vs r
  | [], vs, h => h
  | d :: r, vs, h => by
    obtain ⟨v, us, e, h1, h2⟩ := h
    exact ⟨v, us, e, DAt_fr k d v h1, DsAt_fr k r us h2⟩
end
theorem RAt.fr {K : PySem.W.Frag} {C : Addr} {H H' : Hp} (k : Fr H H') {q : Addr} {r : List Dd} (h : RAt K C H q r) : RAt K C H' q r := by
  obtain ⟨vs, h1, h2⟩ := h
  exact ⟨vs, sqt_fr k h1, DsAt_fr k r vs h2⟩
theorem pls_fr {K : PySem.W.Frag} {C : Addr} {H H' : Hp} (k : Fr H H') : ∀ {ys : List V} {ps : List (Dd × List Nat)}, Paired (PlE K C H) ys ps → Paired (PlE K C H') ys ps
  | _, _, .nil => .nil
  | _, _, .cons ⟨t, wv, dv, e, h1, h2, h3⟩ u => .cons ⟨t, wv, dv, e, k.t _ _ h1, k.t _ _ h2, DAt_fr k _ _ h3⟩ (pls_fr k u)
/-- what the text says of Program -/
structure TxtP (K : PySem.W.Frag) (mg : Str → Option Value) (CP : Addr) : Prop where
  cl : Cls K CP
  nD : NoAttr K CP "deeds"
  nP : NoAttr K CP "plan"
  mgP : mg "Program" = some (.ref CP)
  ca : PySem.W.findIn K (.ref CP) "__class__" = some (some (.builtin "object.__class__"))
  cn : PySem.W.specialIn K (.builtin "object.__class__") "__get__" = some (some (.builtin "getset_descriptor.__get__"))
  ct : PySem.W.takesIn K (.builtin "object.__class__") = some true
  cm : PySem.W.mroIn K CP (.type "object") = some true
  ne : PySem.W.findIn K (.ref CP) "__ne__" = some (some (.builtin "object.__ne__"))
/-- a program stands at a -/
structure PgAt (K : PySem.W.Frag) (C CP : Addr) (H : Hp) (a : Addr) (r : List Dd) : Prop where
  ex : ∃ dx q pl ys, H a = some (.ins CP dx (pf q pl)) ∧ RAt K C H q r ∧ H pl = some (.tup ys) ∧ Paired (PlE K C H) ys (layR r (manyR r) 0)
  dp : deepR r ≤ 8
  mn : manyR r ≤ 4000
theorem PgAt.kt {K : PySem.W.Frag} {C CP : Addr} {H H' : Hp} (k : KT H H') {a : Addr} {r : List Dd} (h : PgAt K C CP H a r) : PgAt K C CP H' a r := by
  obtain ⟨dx, q, pl, ys, h1, h2, h3, h4⟩ := h.ex
  exact ⟨⟨dx, q, pl, ys, k _ _ h1 (fun _ e => nomatch e), h2.kt k, k _ _ h3 (fun _ e => nomatch e), pls_kt k h4⟩, h.dp, h.mn⟩
theorem PgAt.same {K : PySem.W.Frag} {C CP : Addr} {H H' : Hp} (s : Same H H') {a : Addr} {r : List Dd} (h : PgAt K C CP H a r) : PgAt K C CP H' a r := h.kt (KT.of s)
def spPInit (K : PySem.W.Frag) (C CP : Addr) : Sp := fun vs H Q _ => ∃ (p dx q : Addr) (r : List Dd), vs = [.ref p, .ref q] ∧ H p = some (.ins CP dx []) ∧ RAt K C H q r ∧ deepR r ≤ 8 ∧ manyR r ≤ 4000 ∧
  ∀ pl ys H', KB p H H' → H' p = some (.ins CP dx (pf q pl)) → H' pl = some (.tup ys) → RAt K C H' q r → Paired (PlE K C H') ys (layR r (manyR r) 0) → Q .non H'
def spPLen (K : PySem.W.Frag) (C CP : Addr) : Sp := fun vs H Q _ => ∃ a r, vs = [.ref a] ∧ PgAt K C CP H a r ∧ Q (.int ((manyR r : Nat) : Int)) H
def spPEq (K : PySem.W.Frag) (C CP : Addr) : Sp := fun vs H Q _ => ∃ a b r u, vs = [.ref a, .ref b] ∧ PgAt K C CP H a r ∧ PgAt K C CP H b u ∧ ∀ H', Same H H' → Q (.bl (decide (r = u))) H'
section
variable {P : Program} {w : World} {K : PySem.W.Frag} {mg : Str → Option Value} {base : Heap} {C CP : Addr}
theorem scPI : FnScope ["self", "deeds", "ends", "plan"] ["self", "deeds"] (defScope sPInit) := ⟨rfl, rfl, rfl, by decide +kernel, rfl, by decide +kernel, by decide +kernel⟩
theorem ok_pinit {f : Addr} {fd : FuncData} (F : Fun K "__init__" "Program.__init__" sPInit f fd) (B : Blt mg) (T : Txt K mg C) (G : FrmC K w mg) (TP : TxtP K mg CP) (DL : Def P w K mg base "look_through" 13 ["row", "floors", "ends"] (spLook K C 9)) (DY : Def P w K mg base "lay_out" 11 ["row", "behind", "ends", "plan"] (spLay K C 9)) : FnOk P w K mg base CX0 14 f fd ["self", "deeds"] (spPInit K C CP) := by
  refine F.ok scPI (fun vs H Q E h => ?_) (fun cdv A outer s H vs Q E hr h => ?_)
  · obtain ⟨p, dx, q, r, rfl, _⟩ := h
    rfl
  · obtain ⟨p, dx, q, r, rfl, hp, hq, hd, hm, k⟩ := h
    have hr11 : Room 11 _ := hr.mono (by decide)
    refine ⟨_, PSs.nox (pss_cons (ps_if (pt_not (pt_val (pe_callB (r := rIsi K) call_isi (by rfl) T.isi PyProof.Rows.boot_isinstance (pa_cons (pv 1) (pa_cons (pe_bltn (v := .ty "tuple") rfl G.mt PyProof.Rows.boot_tuple rfl) pa_nil))))) (pss_one ps_never) pss_nil) (pss_cons (ps_set (i := 2) scPI.nd rfl (Or.inl rfl) (pe_lst pa_nil)) (pss_cons (ps_expr (pe_def DL hr rfl (pa_cons (pv 1) (pa_cons pe_int (pa_cons (pv 2) pa_nil))))) (pss_cons (ps_set (i := 3) scPI.nd rfl (Or.inl rfl) (pe_lst pa_nil)) (pss_cons (ps_expr (pe_def DY hr11 rfl (pa_cons (pv 1) (pa_cons (pe_callB call_len_seq (by rfl) B.len PySem.boot_len (pa_cons (pv 2) pa_nil)) (pa_cons (pv 2) (pa_cons (pv 3) pa_nil)))))) (pss_cons (ps_fld (pv 0) (pv 1) rfl) (pss_one (ps_fld (pv 0) (pe_callTy call_tuple_of (by rfl) G.mt PyProof.Rows.boot_tuple (pa_cons (pv 3) pa_nil)) rfl)))))))), ?_⟩
    have hsl := line4
    obtain ⟨vs, hqv, hvs⟩ := id hq
    refine ⟨_, rfl, _, _, _, _, true, rfl, .ty "tuple", sqt_ty hqv, G.tt, _, rfl, iteF ?_⟩
    refine ⟨Nat.zero_le _, fun e ne => ?_⟩
    have s1 : Same H (upd H e (.lst [])) := Same.new ne
    have he1 : (upd H e (.lst [])) e = some (.lst (numsV [])) := upd_same
    revert s1 he1
    generalize upd H e (.lst []) = H1
    intro s1 he1
    refine ⟨_, rfl, _, rfl, q, e, 0, r, [], rfl, hq.same s1, by omega, by omega, he1, by simpa using hm, fun H2 kb2 he2 => ?_⟩
    rw [List.nil_append] at he2
    have kt2 : KT H1 H2 := kb2.kt he1
    have hep : e ≠ p := fun z => by rw [z, hp] at ne; cases ne
    refine ⟨Nat.zero_le _, fun pn npn => ?_⟩
    have s3 : Same H2 (upd H2 pn (.lst [])) := Same.new npn
    have hpn3 : (upd H2 pn (.lst [])) pn = some (.lst []) := upd_same
    have hpe : e ≠ pn := fun z => by rw [← z, he2] at npn; cases npn
    have hpp : pn ≠ p := fun z => by
      have : H2 p = some (.ins CP dx []) := kb2 _ _ (Ne.symm hep) (s1 _ _ hp)
      rw [z, this] at npn
      cases npn
    revert s3 hpn3
    generalize upd H2 pn (.lst []) = H3
    intro s3 hpn3
    have he3 := s3 _ _ he2
    have hq3 : RAt K C H3 q r := ((hq.same s1).kt kt2).same s3
    refine ⟨_, rfl, _, rfl, e, _, rfl, .inl (SqL.of he3), ?_⟩
    rw [numsV_len, endsR_len]
    refine ⟨_, rfl, _, rfl, q, e, pn, manyR r, r, endsR r 0, [], rfl, hq3, by omega, he3, Pre.whole _, hpn3, hpe, by simpa using hm, fun H4 ys kb4 hp4 hys => ?_⟩
    rw [List.nil_append] at hp4
    have kt4 : KT H3 H4 := kb4.kt hpn3
    have hpz : H4 p = some (.ins CP dx []) := kb4 _ _ (Ne.symm hpp) (s3 _ _ (kb2 _ _ (Ne.symm hep) (s1 _ _ hp)))
    refine ⟨_, rfl, _, rfl, p, CP, dx, [], rfl, hpz, TP.cl, TP.nD, (by show 0 < 1000; decide), ?_⟩
    have hp5 : (upd H4 p (.ins CP dx (putF "deeds" (.ref q) []))) pn = some (.lst ys) := by rw [upd_ne hpp]; exact hp4
    refine ⟨_, rfl, pn, _, rfl, .inl ⟨SqL.of hp5, fun pl npl => ?_⟩⟩
    have hplp : pl ≠ p := fun z => by rw [z, upd_same] at npl; cases npl
    refine ⟨_, rfl, p, CP, dx, _, rfl, by rw [upd_ne (Ne.symm hplp)]; exact upd_same, TP.cl, TP.nP, Nat.lt_of_le_of_lt (length_putF _ _ _) (by show 0 + 1 < 1000; decide), ?_⟩
    have kbz : KB p H4 (upd (upd (upd H4 p (.ins CP dx (putF "deeds" (.ref q) []))) pl (.tup ys)) p (.ins CP dx (pf q pl))) := fun a o na ha => by
      have npl4 : H4 pl = none := by
        rw [upd_ne hplp] at npl
        exact npl
      rw [upd_ne na, upd_ne (ne_of_none ha npl4), upd_ne na]
      exact ha
    have kbH : KB p H H4 := fun a o na ha => by
      have nae : a ≠ e := ne_of_none ha ne
      have h2 := kb2 _ _ nae (s1 _ _ ha)
      have nan : a ≠ pn := ne_of_none h2 npn
      exact kb4 _ _ nan (s3 _ _ h2)
    have fr := Fr.kb hpz kbz
    refine k pl ys _ (kbH.trans kbz) ?_ ?_ ((hq3.kt kt4).fr fr) (pls_fr fr hys)
    · exact upd_same
    · rw [upd_ne hplp, upd_same]
theorem scPL : FnScope ["self"] ["self"] (defScope sPLen) := ⟨rfl, rfl, rfl, by decide +kernel, rfl, by decide +kernel, by decide +kernel⟩
theorem ok_plen {f : Addr} {fd : FuncData} (F : Fun K "__len__" "Program.__len__" sPLen f fd) (B : Blt mg) (TP : TxtP K mg CP) : FnOk P w K mg base CX0 1 f fd ["self"] (spPLen K C CP) := by
  refine F.ok scPL (fun vs H Q E h => ?_) (fun cdv A outer s H vs Q E hr h => ?_)
  · obtain ⟨a, r, rfl, _⟩ := h
    rfl
  · obtain ⟨a, r, rfl, ha, k⟩ := h
    refine ⟨_, pss_one (ps_ret (pe_callB call_len_seq (by rfl) B.len PySem.boot_len (pa_cons (pe_fld (pv 0) rfl) pa_nil))), ?_⟩
    obtain ⟨dx, q, pl, ys, h1, h2, h3, h4⟩ := ha.ex
    refine ⟨_, rfl, _, _, _, _, _, rfl, h1, TP.cl, TP.nP, pf_plan _ _, pl, ys, rfl, .inr (SqT.of h3), ?_⟩
    rw [Paired.length h4, layR_len]
    exact k
theorem scPE : FnScope ["self", "other"] ["self", "other"] (defScope sPEq) := ⟨rfl, rfl, rfl, by decide +kernel, rfl, by decide +kernel, by decide +kernel⟩
theorem ok_peq {f : Addr} {fd : FuncData} (F : Fun K "__eq__" "Program.__eq__" sPEq f fd) (T : Txt K mg C) (TP : TxtP K mg CP) (SE : Spc P w K mg base C "__eq__" 2 ["self", "other"] (spEqT C)) : FnOk P w K mg base CX0 21 f fd ["self", "other"] (spPEq K C CP) := by
  refine F.ok scPE (fun vs H Q E h => ?_) (fun cdv A outer s H vs Q E hr h => ?_)
  · obtain ⟨a, b, r, u, rfl, _⟩ := h
    rfl
  · obtain ⟨a, b, r, u, rfl, ha, hb, k⟩ := h
    refine ⟨_, pss_one (ps_ret (pe_and (pe_callB (r := rIsi K) call_isi (by rfl) T.isi PyProof.Rows.boot_isinstance (pa_cons (pv 1) (pa_cons (pe_glob (v := .ref CP) rfl TP.mgP rfl) pa_nil))) (pe_one (pe_cmpR (op_eqTl (eqT_rows SE 9).2.1 hr) (pe_fld (pv 0) rfl) (pe_fld (pv 1) rfl) (nomark _))))), ?_⟩
    obtain ⟨dx, q, pl, ys, h1, h2, h3, h4⟩ := ha.ex
    obtain ⟨dy, q2, pl2, ys2, g1, g2, g3, g4⟩ := hb.ex
    have d1 := ha.dp
    have d2 := hb.dp
    refine ⟨_, rfl, _, _, _, _, true, rfl, ClsV.own CP, .base (.ins g1 TP.cl TP.ca TP.cn TP.ct TP.cm), kit_self _ _, _, rfl, iteT ?_⟩
    exact ⟨_, rfl, _, _, _, _, _, rfl, h1, TP.cl, TP.nD, pf_deeds _ _, _, rfl, _, _, _, _, _, rfl, g1, TP.cl, TP.nD, pf_deeds _ _, decide (r = u), ⟨q, q2, r, u, rfl, rfl, h2, g2, by omega, by omega, rfl⟩, fun H' s' => k H' s'⟩
end
/-! making a program -/
structure MakerP (P : Program) (w : World) (K : PySem.W.Frag) (mg : Str → Option Value) (base : Heap) (C CP fI : Addr) (fdI : FuncData) : Prop where
  M : Mk K CP fI
  G : FnOk P w K mg base CX0 14 fI fdI ["self", "deeds"] (spPInit K C CP)
  mgP : mg "Program" = some (.ref CP)
  b : Binds K fdI ["self", "deeds"] []
def tP (K : PySem.W.Frag) (C CP : Addr) (t : TA) : TE := fun σ H Q => t σ H fun vs H1 => ∃ q r, vs = [.ref q] ∧ RAt K C H1 q r ∧ deepR r ≤ 8 ∧ manyR r ≤ 4000 ∧ ∀ z H', Same H1 H' → H1 z = none → PgAt K C CP H' z r → Q (.ref z) H'
theorem mk_pg {K : PySem.W.Frag} {C CP q : Addr} {H : Hp} {r : List Dd} {Q : VK} {E : XK} (hq : RAt K C H q r) (hd : deepR r ≤ 8) (hm : manyR r ≤ 4000) (k : ∀ z H', Same H H' → H z = none → PgAt K C CP H' z r → Q (.ref z) H') :
    ∀ x dx, H x = none → H dx = none → dx ≠ x → spPInit K C CP (.ref x :: ([.ref q] ++ [])) (upd (upd H dx (.own x)) x (.ins CP dx [])) (fun v H3 => v = .non ∧ Q (.ref x) H3) E := by
  intro x dx nx ndx ne
  have s0 : Same H (upd (upd H dx (.own x)) x (.ins CP dx [])) := fun b o e => by
    rw [upd_ne (ne_of_none e nx), upd_ne (ne_of_none e ndx)]
    exact e
  refine ⟨x, dx, q, r, rfl, upd_same, hq.same s0, hd, hm, fun pl ys H' kb h1 h2 h3 h4 => ⟨rfl, k x H' (fun b o e => kb _ _ (ne_of_none e nx) (s0 _ _ e)) nx ⟨⟨dx, q, pl, ys, h1, h3, h2, h4⟩, hd, hm⟩⟩⟩
section
open PyProof.Rows
variable {X : Cx} {C CP fI : Addr} {fdI : FuncData} {p pos : Pos} {e : Expr} {es : List Expr} {t : TA}
theorem pe_P (mk : MakerP X.prog X.w X.K X.mg X.base C CP fI fdI) (hr : Room 15 X.A) (hg : Gl X "Program") (ha : PA X (e :: es) t)
    (he : starEach (e :: es) X.env = (false, eval e X.env) :: starEach es X.env := by rfl) (hpl : (backTo pos (starEach es X.env)).any (·.1) = false := by rfl) : PE X (.Call (.Name "Program" p) (e :: es) [] pos) (tP X.K C CP t) := by
  refine ⟨fun pins s σ H Q I h => ?_⟩
  refine wpAny_Call_Name_kw (ld_glob I hg mk.mgP ?_ (by decide))
  refine PySem.W.callWith_K (h₀ := X.base) I.ok.mod.kin mk.M.kp (thn (ha.run pos pins s σ H _ I h) fun us s1 ⟨vs, H1, I1, r, q⟩ => ⟨I1.kIn, ?_⟩) he hpl
  obtain ⟨q, r', rfl, h1, h2, hz, k⟩ := q
  exact run_make mk.M mk.G hr mk.b .nil pass0 I1 r (mk_pg h1 h2 hz k)
end
end Js

set_option Elab.async false
set_option linter.all false
set_option maxRecDepth 100000
set_option maxHeartbeats 2000000
namespace Js
open PySem L2
/-! ### texts, by their signs -/
def tx (cs : List Nat) : Str := ⟨cs.toArray⟩
theorem tx_list (cs : List Nat) : (tx cs).cps.toList = cs := rfl
theorem tx_len (cs : List Nat) : (tx cs).length = cs.length := by
  show cs.toArray.size = _
  rw [List.size_toArray]
theorem tx_of (x : Str) : tx x.cps.toList = x := PyProof.Rows.ext_toList (by rw [tx_list])
theorem tx_text (t : Tr) : t.text = tx t.codes := rfl
theorem tx_append (a b : List Nat) : tx a ++ tx b = tx (a ++ b) := by
  apply PyProof.Rows.ext_toList
  rw [tx_list]
  show (a.toArray ++ b.toArray).toList = a ++ b
  simp
theorem tx_inj {a b : List Nat} (h : tx a = tx b) : a = b := by rw [← tx_list a, ← tx_list b, h]
def repl (n : Nat) (xs : List Nat) : List Nat := (List.replicate n xs).flatten
theorem repl_succ (n : Nat) (xs : List Nat) : repl (n + 1) xs = xs ++ repl n xs := by simp [repl, List.replicate_succ]
theorem repl_len (n : Nat) (xs : List Nat) : (repl n xs).length = n * xs.length := by
  induction n with
  | zero => simp [repl]
  | succ n ih => rw [repl_succ, List.length_append, ih, Nat.succ_mul]; omega
theorem foldl_repl (xs : Array Nat) : ∀ (n : Nat) (acc : Array Nat), ((List.replicate n xs).foldl (· ++ ·) acc).toList = acc.toList ++ repl n xs.toList
  | 0, acc => by simp [repl]
  | n + 1, acc => by
    rw [List.replicate_succ, List.foldl_cons, foldl_repl xs n, repl_succ]
    simp
theorem mul_tx (cs : List Nat) (n : Nat) : PySem.Txt.mul (tx cs) (n : Nat) = tx (repl n cs) := by
  unfold PySem.Txt.mul
  by_cases h : ((n : Nat) : Int) < 1
  · rw [if_pos h]
    have : n = 0 := by omega
    subst this
    rfl
  · rw [if_neg h]
    by_cases h2 : ((((n : Nat) : Int) == 1 || (tx cs).length == 0) = true)
    · rw [if_pos h2]
      rcases Bool.or_eq_true_iff.mp h2 with h3 | h3
      · have : n = 1 := by
          have := eq_of_beq h3
          omega
        subst this
        simp [repl]
      · have h4 : cs.length = 0 := by
          have := eq_of_beq h3
          rw [tx_len] at this
          exact this
        have h5 : cs = [] := List.length_eq_zero_iff.mp h4
        subst h5
        have : repl n [] = [] := by
          apply List.length_eq_zero_iff.mp
          rw [repl_len]
          simp
        rw [this]
    · rw [if_neg h2]
      apply PyProof.Rows.ext_toList
      rw [tx_list]
      show ((List.replicate ((n : Nat) : Int).toNat cs.toArray).foldl (· ++ ·) #[]).toList = _
      rw [foldl_repl, Int.toNat_natCast]
      simp
theorem mul_ok (x : Str) (n : Nat) (h : x.length * n ≤ 1000000) (hn : n ≤ 1000000) (hx : x.length ≤ 1000000) : PySem.MulOk x (n : Nat) := by
  have hs := sizeLine_eq
  refine ⟨?_, fun h1 h2 => ?_, fun h1 h2 => ?_⟩
  · rw [decide_eq_false (by omega), decide_eq_false (by omega)]
    rfl
  · intro z
    have h3 : (1000000 : Int) ≤ (2 ^ 63 - 1) / (n : Nat) := by
      have hp : (0 : Int) < (n : Nat) := by omega
      rw [Int.le_ediv_iff_mul_le hp]
      omega
    omega
  · unfold PySem.Builtin.Str.tooLong
    rw [Int.toNat_natCast]
    exact decide_eq_false (by omega)
section
variable {X : Cx}
theorem op_mulS : OpR X (binaryOp .Mult) (fun x y H Q => ∃ (cs : List Nat) (n : Nat), x = .str (tx cs) ∧ y = .int (n : Nat) ∧ cs.length * n ≤ 1000000 ∧ n ≤ 1000000 ∧ cs.length ≤ 1000000 ∧ Q (.str (tx (repl n cs))) H) := by
  intro pins s σ H x y v u Q I rx ry h
  obtain ⟨cs, n, rfl, rfl, h1, h2, h3, q⟩ := h
  obtain ⟨t, rfl⟩ := rx
  obtain ⟨t', rfl⟩ := ry
  refine PySem.SB.mul (mul_ok _ n (by rw [tx_len]; exact h1) h2 (by rw [tx_len]; exact h3)) fun tk k => ?_
  rw [mul_tx]
  exact ⟨.str _, H, I.tok k, ⟨tk, rfl⟩, q⟩
/-- s + t by their signs -/
theorem op_addX : OpR X (binaryOp .Add) (fun x y H Q => ∃ (a b : List Nat), x = .str (tx a) ∧ y = .str (tx b) ∧ a.length + b.length ≤ 1000000 ∧ Q (.str (tx (a ++ b))) H) :=
  OpR.imp op_add_str fun x y H Q h => by
    obtain ⟨a, b, rfl, rfl, h1, q⟩ := h
    have hs := sizeLine_eq
    exact ⟨_, _, rfl, rfl, by rw [tx_len, tx_len]; omega, by rw [tx_append]; exact q⟩
end
/-! ### how often a sign stands in a text -/
theorem chain_count (x : Str) (c : Nat) (hi : Nat) (hh : hi = x.length) : ∀ (cuts : List Nat) (a f : Nat), PySem.StrLaws.ChainG x ⟨#[c]⟩ hi a cuts f → (∀ k, f ≤ k → ¬ PySem.StrLaws.At x ⟨#[c]⟩ hi k) → cuts.length = (x.cps.toList.drop a).count c
  | [], a, f, h, hn => by
    have e : f = a := h
    subst e
    symm
    rw [List.length_nil, List.count_eq_zero]
    intro hm
    obtain ⟨j, hj⟩ := List.getElem?_of_mem hm
    rw [List.getElem?_drop] at hj
    subst hh
    exact hn (f + j) (by omega) ((PySem.StrLaws.subAt_one x c (f + j)).mpr hj)
  | d :: r, a, f, h, hn => by
    obtain ⟨h1, h2, h3, h4⟩ := h
    have ih := chain_count x c hi hh r (d + 1) f h4 hn
    subst hh
    have hd : x.cps.toList[d]? = some c := (PySem.StrLaws.subAt_one x c d).mp h2
    have hlt := (List.getElem?_eq_some_iff.mp hd).1
    have e1 : x.cps.toList.drop a = (x.cps.toList.drop a).take (d - a) ++ x.cps.toList.drop d := by
      have := List.take_append_drop (d - a) (x.cps.toList.drop a)
      rw [List.drop_drop] at this
      have e : a + (d - a) = d := by omega
      rw [e] at this
      exact this.symm
    have e2 : ((x.cps.toList.drop a).take (d - a)).count c = 0 := by
      rw [List.count_eq_zero]
      intro hm
      obtain ⟨j, hj⟩ := List.getElem?_of_mem hm
      have hj1 : j < d - a := by
        have := (List.getElem?_eq_some_iff.mp hj).1
        rw [List.length_take] at this
        omega
      rw [List.getElem?_take_of_lt hj1, List.getElem?_drop] at hj
      exact h3 (a + j) (by omega) (by omega) ((PySem.StrLaws.subAt_one x c (a + j)).mpr hj)
    have e3 : x.cps.toList.drop d = c :: x.cps.toList.drop (d + 1) := by
      rw [List.drop_eq_getElem_cons hlt, (List.getElem?_eq_some_iff.mp hd).2]
    rw [e1, List.count_append, e2, e3, List.count_cons_self, List.length_cons, ih]
    omega
theorem count_tx (cs : List Nat) (c : Nat) : PySem.Txt.count (tx cs) ⟨#[c]⟩ = ((cs.count c : Nat) : Int) := by
  unfold PySem.Txt.count
  obtain ⟨f, h1, h2⟩ := PySem.StrLaws.occ_tight (tx cs) ⟨#[c]⟩ (by show 1 ≤ 1; decide)
  rw [chain_count (tx cs) c _ rfl _ 0 f h1 h2, List.drop_zero, tx_list]
theorem count_codes : ∀ t : Tr, t.codes.count 40 = t.size
  | .nil => by decide
  | .pr l r => by
    simp only [Tr.codes, Tr.size, List.count_cons, List.count_append, count_codes l, count_codes r]
    simp
    omega
/-! ### slices -/
theorem cut_tx (cs : List Nat) (i j : Nat) (h : i ≤ j) (hj : j ≤ cs.length) : cutS (tx cs) (some (i : Nat)) (some (j : Nat)) = tx ((cs.drop i).take (j - i)) := by
  unfold cutS
  have e1 : min i cs.length = i := Nat.min_eq_left (by omega)
  rw [HT.sIx_nat, HT.sIx_nat, tx_len, tx_list, e1, Nat.min_eq_left hj]
  rfl
theorem cut_neg (cs : List Nat) (i j : Nat) (h : i + j ≤ cs.length) (h0 : 0 < j) : cutS (tx cs) (some (i : Nat)) (some (-(j : Nat) : Int)) = tx ((cs.drop i).take (cs.length - j - i)) := by
  unfold cutS
  have e : HT.sIx (tx cs).length (tx cs).length (some (-((j : Nat) : Int))) = cs.length - j := by
    rw [tx_len]
    show (if (-((j : Nat) : Int)) < 0 then _ else _) = _
    rw [if_pos (by omega)]
    omega
  rw [HT.sIx_nat, e, tx_len, tx_list, Nat.min_eq_left (by omega)]
  rfl
/-! ### how deep -/
def dp1 (c : Nat) : Int := if c = 40 then 1 else if c = 41 then -1 else 0
def dep (cs : List Nat) : Int := (cs.map dp1).sum
theorem dp40 : dp1 40 = 1 := rfl
theorem dep_nil : dep [] = 0 := rfl
theorem dep_cons (c : Nat) (cs : List Nat) : dep (c :: cs) = dp1 c + dep cs := by simp [dep]
theorem dep_append (a b : List Nat) : dep (a ++ b) = dep a + dep b := by simp [dep]
theorem dep_codes : ∀ t : Tr, dep t.codes = 0
  | .nil => rfl
  | .pr l r => by
    simp only [Tr.codes, dep_cons, dep_append, dep_codes l, dep_codes r, dep_nil]
    decide
theorem dep_take_append (a b : List Nat) (j : Nat) : dep ((a ++ b).take j) = if j ≤ a.length then dep (a.take j) else dep a + dep (b.take (j - a.length)) := by
  by_cases h : j ≤ a.length
  · rw [if_pos h, List.take_append_of_le_length h]
  · rw [if_neg h, List.take_append, List.take_of_length_le (by omega), dep_append]
theorem dep_nn : ∀ (t : Tr) (j : Nat), 0 ≤ dep (t.codes.take j)
  | .nil, 0 => by decide
  | .nil, j + 1 => by simp [Tr.codes, dep]; decide
  | .pr l r, 0 => by simp [dep]
  | .pr l r, j + 1 => by
    have hl := dep_nn l
    have hr := dep_nn r
    simp only [Tr.codes, List.take_succ_cons, dep_cons]
    rw [dep_take_append]
    split
    · have := hl j
      simp only [dp1]
      omega
    · rw [dep_take_append, dep_codes l]
      split
      · have := hr (j - l.codes.length)
        simp only [dp1]
        omega
      · rw [dep_codes r]
        match j - l.codes.length - r.codes.length with
        | 0 => simp [dep, dp1]
        | n + 1 => simp [dep, dp1]
/-- between the first sign and the last one some bracket is open -/
theorem dep_pos (t : Tr) (j : Nat) (h0 : 0 < j) (h1 : j < t.codes.length) : 0 < dep (t.codes.take j) := by
  cases t with
  | nil => simp [Tr.codes] at h1; omega
  | pr l r =>
    obtain ⟨j, rfl⟩ : ∃ i, j = i + 1 := ⟨j - 1, by omega⟩
    have hl := dep_nn l
    have hr := dep_nn r
    simp only [Tr.codes, List.length_cons, List.length_append, List.length_nil] at h1
    simp only [Tr.codes, List.take_succ_cons, dep_cons]
    rw [dep_take_append]
    split
    · have := hl j
      rw [dp40]
      omega
    · rw [dep_take_append, dep_codes l]
      split
      · have := hr (j - l.codes.length)
        rw [dp40]
        omega
      · omega
theorem codes_sign : ∀ (t : Tr) (c : Nat), c ∈ t.codes → c = 46 ∨ c = 40 ∨ c = 41
  | .nil, c, h => by simp [Tr.codes] at h; exact .inl h
  | .pr l r, c, h => by
    simp only [Tr.codes, List.mem_cons, List.mem_append, List.not_mem_nil, or_false] at h
    rcases h with h | h | h | h
    · exact .inr (.inl h)
    · exact codes_sign l c h
    · exact codes_sign r c h
    · exact .inr (.inr h)
theorem dot_eq : ((("." : Str))) = Tr.nil.text := by decide +kernel
theorem pr_not_dot (l r : Tr) : decide (V.str (Tr.pr l r).text = V.str ".") = false := by
  rw [dot_eq]
  exact decide_eq_false fun z => Tr.noConfusion (Tr.text_inj (V.str.inj z))
theorem nil_dot : decide (V.str Tr.nil.text = V.str ".") = true := by
  rw [dot_eq]
  simp
end Js

set_option Elab.async false
set_option linter.all false
set_option maxRecDepth 100000
set_option maxHeartbeats 2000000
namespace Js
open PySem L2
abbrev sNamesIn : Stmt := top 29
/-- the names of a deed, in their order -/
def Dd.names : Dd → List Nat
  | .told a _ => [a]
  | .take _ a b => [a, b]
  | .two _ a b c => [a, b, c]
  | .wh a _ => [a]
  | .iff a _ _ => [a]
def namesV (ns : List Nat) : List V := ns.map fun a => V.int ((a : Nat) : Int)
theorem cn (s : Str) (cs : List Nat) (h : s.cps = cs.toArray) : PySem.Txt.count s "n" = ((cs.count 110 : Nat) : Int) := by
  rw [show s = tx cs from by cases s; simp only [tx]; exact congrArg _ h, c_n, count_tx]
theorem cut1n (x : V) (its : List V) (n : Nat) (hn : n ≤ its.length) : cutV (x :: its) (some 1) (some (1 + (n : Int))) = its.take n := by
  have e : HT.sIx (its.length + 1) 0 (some 1) = 1 := by
    show min 1 (its.length + 1) = 1
    omega
  have e2 : HT.sIx (its.length + 1) (its.length + 1) (some (1 + (n : Int))) = n + 1 := by
    have : (1 + (n : Int)) = ((n + 1 : Nat) : Int) := by omega
    rw [this]
    show min (n + 1) (its.length + 1) = n + 1
    omega
  unfold cutV
  rw [List.length_cons, e, e2, List.drop_succ_cons, List.drop_zero, Nat.add_sub_cancel]
/-- the names stand behind the kind -/
theorem names_look {K : PySem.W.Frag} {C : Addr} {H : Hp} {v : V} : ∀ (d : Dd), DAt K C H v d → ∃ p its n, v = .ref p ∧ SqT K H p (.str (kindOf d) :: its) ∧ PySem.Txt.count (formOf d) "n" = ((n : Nat) : Int) ∧ n ≤ its.length ∧ its.take n = namesV d.names ∧ its.length ≤ 3 ∧ 1 ≤ n ∧ n < its.length + 1 ∧ (∀ a ∈ d.names, a < 10)
  | .told a t, h => by
    obtain ⟨p, x, e, h1, h2, h3, h4⟩ := h
    exact ⟨p, _, 1, e, h1, by rw [formOf, cn _ [110, 116] cps_nt]; rfl, by simp, rfl, by simp, by simp, by simp, by simp [Dd.names]; omega⟩
  | .take s a b, h => by
    obtain ⟨p, e, h1, h2, h3⟩ := h
    exact ⟨p, _, 2, e, h1, by rw [formOf, cn _ [110, 110] cps_nn]; rfl, by simp, rfl, by simp, by simp, by simp, by simp [Dd.names]; omega⟩
  | .two s a b c, h => by
    obtain ⟨p, e, h1, h2, h3, h4⟩ := h
    exact ⟨p, _, 3, e, h1, by rw [formOf, cn _ [110, 110, 110] cps_nnn]; rfl, by simp, rfl, by simp, by simp, by simp, by simp [Dd.names]; omega⟩
  | .wh a r, h => by
    obtain ⟨p, q, vs, e, h1, h2, h3, h4⟩ := h
    exact ⟨p, _, 1, e, h1, by rw [formOf, cn _ [110, 114] cps_nr]; rfl, by simp, rfl, by simp, by simp, by simp, by simp [Dd.names]; omega⟩
  | .iff a r o, h => by
    obtain ⟨p, q, vs, q2, vs2, e, h1, h2, h3, h4, h5, h6⟩ := h
    exact ⟨p, _, 1, e, h1, by rw [formOf, cn _ [110, 114, 114] cps_nrr]; rfl, by simp, rfl, by simp, by simp, by simp, by simp [Dd.names]; omega⟩
def spNamesIn (K : PySem.W.Frag) (C : Addr) : Sp := fun vs H Q _ => ∃ v d, vs = [v] ∧ DAt K C H v d ∧ ∀ p H', Same H H' → SqT K H' p (namesV d.names) → Q (.ref p) H'
section
variable {P : Program} {w : World} {K : PySem.W.Frag} {mg : Str → Option Value} {base : Heap} {C : Addr}
theorem scNI : FnScope ["deed"] ["deed"] (defScope sNamesIn) := ⟨rfl, rfl, rfl, by decide +kernel, rfl, by decide +kernel, by decide +kernel⟩
theorem ok_namesIn {f : Addr} {fd : FuncData} (F : Fun K "names_in" "names_in" sNamesIn f fd) (G : FrmC K w mg) : FnOk P w K mg base CX0 1 f fd ["deed"] (spNamesIn K C) := by
  obtain ⟨dF, es, n, mF, kd, hk⟩ := G.ex
  refine F.ok scNI (fun vs H Q E h => ?_) (fun cdv A outer s H vs Q E hr h => ?_)
  · obtain ⟨v, d, rfl, _⟩ := h
    rfl
  · obtain ⟨v, d, rfl, hd, k⟩ := h
    refine ⟨_, pss_one (ps_ret (pe_slice sl_tup (pv 0) (po_some pe_int) (po_some (pe_op op_add pe_int (pe_m1 PySem.F.slot_str_count PySem.F.type_str_count mt_count (pe_ix (r := rIxD K w) ix_kdict (pe_glob (v := .ref dF) rfl mF rfl) (pe_ix (r := rIxT K) ix_tup (pv 0) pe_int (fun _ _ => rfl)) (fun _ _ => rfl)) pe_str))))), ?_⟩
    obtain ⟨p, its, m, rfl, hp, hc, hm, hn, hl3, hm1, hm2, _⟩ := names_look d hd
    obtain ⟨tk, hk⟩ := hk _ (form_in d)
    have hsl := line4
    refine ⟨_, rfl, _, rfl, _, rfl, p, _, 0, _, rfl, rfl, hp, at0 _ _, dF, _, .str (formOf d), rfl, rfl, ⟨es, n, _, kd.at_, kd.lit, hk, ⟨_, rfl⟩⟩, ?_⟩
    refine ⟨⟨_, rfl⟩, _, _, rfl, rfl, ?_⟩
    rw [hc]
    refine ⟨_, _, rfl, rfl, _, rfl, p, _, rfl, hp, ?_, fun q nq => ?_⟩
    · rintro ⟨h0, _⟩
      have e : HT.sIx (its.length + 1) 0 (some 1) = 1 := by
        show min 1 (its.length + 1) = 1
        omega
      rw [List.length_cons, e] at h0
      cases h0
    rw [cut1n _ _ _ hm, hn]
    exact k q _ (Same.new nq) (SqT.of upd_same)
end
end Js

set_option Elab.async false
set_option linter.all false
set_option maxRecDepth 100000
set_option maxHeartbeats 2000000
namespace Js
open PySem L2
abbrev sRowW : Stmt := top 33
abbrev sDeedW : Stmt := top 34
def letS : Nat → Str
  | 0 => "a" | 1 => "b" | 2 => "c" | 3 => "d" | 4 => "e" | 5 => "f" | 6 => "g" | 7 => "h" | 8 => "i" | _ => "j"
/-! the words of deeds; wordsT has a sign ahead of each deed -/
mutual
def Dd.words : Dd → List Str
  | .told a t => [letS a, ("=" : Str), t.text]
  | .take s a b => [letS a, ("=" : Str), takeS s, letS b]
  | .two s a b c => [letS a, ("=" : Str), twoS s, letS b, letS c]
  | .wh a r => [("while" : Str), letS a] ++ (("[" : Str) :: ((wordsT r).drop 1 ++ [("]" : Str)]))
  | .iff a r o => [("if" : Str), letS a] ++ (("[" : Str) :: ((wordsT r).drop 1 ++ [("]" : Str)])) ++ (("[" : Str) :: ((wordsT o).drop 1 ++ [("]" : Str)]))
def wordsT : List Dd → List Str
  | [] => []
  | d :: r => (";" : Str) :: (d.words ++ wordsT r)
end
def wordsR (r : List Dd) : List Str := (wordsT r).drop 1
def wordsL (rs : List (List Dd)) : List Str := rs.flatMap fun r => ("[" : Str) :: (wordsR r ++ [("]" : Str)])
def strV (xs : List Str) : List V := xs.map V.str
theorem strV_app (xs ys : List Str) : strV (xs ++ ys) = strV xs ++ strV ys := List.map_append
theorem strV_len (xs : List Str) : (strV xs).length = xs.length := List.length_map _
theorem wordsT_app : ∀ (a b : List Dd), wordsT (a ++ b) = wordsT a ++ wordsT b
  | [], b => by rw [List.nil_append, wordsT, List.nil_append]
  | d :: a, b => by rw [List.cons_append, wordsT, wordsT_app a b, wordsT, List.cons_append, List.append_assoc]
theorem wordsT_one (d : Dd) : wordsT [d] = (";" : Str) :: d.words := by rw [wordsT, wordsT, List.append_nil]
theorem words_ne : ∀ d : Dd, d.words ≠ []
  | .told _ _ => by simp [Dd.words]
  | .take _ _ _ => by simp [Dd.words]
  | .two _ _ _ _ => by simp [Dd.words]
  | .wh _ _ => by simp [Dd.words]
  | .iff _ _ _ => by simp [Dd.words]
theorem wordsR_nil : wordsR [] = [] := by rw [wordsR, wordsT]; rfl
theorem wordsR_first (d : Dd) : wordsR [d] = d.words := by rw [wordsR, wordsT_one]; rfl
theorem wordsR_snoc (a : List Dd) (d : Dd) (h : a ≠ []) : wordsR (a ++ [d]) = wordsR a ++ [(";" : Str)] ++ d.words := by
  cases a with
  | nil => exact absurd rfl h
  | cons x a => rw [wordsR, wordsT_app, wordsT_one, wordsR, wordsT, List.cons_append, List.drop_succ_cons, List.drop_zero, List.drop_succ_cons, List.drop_zero]; simp
theorem wordsR_ne (a : List Dd) (h : a ≠ []) : wordsR a ≠ [] := by
  cases a with
  | nil => exact absurd rfl h
  | cons x a =>
    rw [wordsR, wordsT, List.drop_succ_cons, List.drop_zero]
    intro z
    exact words_ne x (List.append_eq_nil_iff.mp z).1
mutual
theorem words_len : ∀ d : Dd, d.words.length + 1 ≤ 8 * d.many
  | .told _ _ => by rw [many_told]; simp [Dd.words]
  | .take _ _ _ => by rw [many_take]; simp [Dd.words]
  | .two _ _ _ _ => by rw [many_two]; simp [Dd.words]
  | .wh a r => by
    have := wordsT_len r
    rw [many_wh]
    simp only [Dd.words, List.length_append, List.length_cons, List.length_nil, List.length_drop]
    omega
  | .iff a r o => by
    have := wordsT_len r
    have := wordsT_len o
    rw [many_iff]
    simp only [Dd.words, List.length_append, List.length_cons, List.length_nil, List.length_drop]
    omega
theorem wordsT_len : ∀ r : List Dd, (wordsT r).length ≤ 8 * manyR r
  | [] => by rw [wordsT]; exact Nat.zero_le _
  | d :: r => by
    have := words_len d
    have := wordsT_len r
    rw [many_cons, wordsT]
    simp only [List.length_append, List.length_cons]
    omega
end
theorem wordsR_len (r : List Dd) : (wordsR r).length ≤ 8 * manyR r := by
  have := wordsT_len r
  rw [wordsR, List.length_drop]
  omega
def spRowW (K : PySem.W.Frag) (C : Addr) (n : Nat) : Sp := fun vs H Q _ => ∃ q r, vs = [.ref q] ∧ RAt K C H q r ∧ deepR r < n ∧ manyR r ≤ 4000 ∧ ∀ p H', Same H H' → H p = none → H' p = some (.lst (strV (wordsR r))) → Q (.ref p) H'
def spDeedW (K : PySem.W.Frag) (C : Addr) (n : Nat) : Sp := fun vs H Q _ => ∃ v d, vs = [v] ∧ DAt K C H v d ∧ d.deep < n ∧ d.many ≤ 4000 ∧ ∀ p H', Same H H' → H p = none → H' p = some (.lst (strV d.words)) → Q (.ref p) H'
section
variable {P : Program} {w : World} {K : PySem.W.Frag} {mg : Str → Option Value} {base : Heap} {C : Addr}
theorem scRW : FnScope ["row", "words", "deed"] ["row"] (defScope sRowW) := ⟨rfl, rfl, rfl, by decide +kernel, rfl, by decide +kernel, by decide +kernel⟩
theorem ok_rowW {f fD : Addr} {fd fdD : FuncData} (F : Fun K "row_words" "row_words" sRowW f fd) (FD : Fun K "deed_words" "deed_words" sDeedW fD fdD) (mgd : mg "deed_words" = some (.ref fD)) (bd : Binds K fdD ["deed"] []) (m n : Nat) (GD : FnOk P w K mg base CX0 m fD fdD ["deed"] (spDeedW K C n)) : FnOk P w K mg base CX0 (m + 1) f fd ["row"] (spRowW K C n) := by
  refine F.ok scRW (fun vs H Q E h => ?_) (fun cdv A outer s H vs Q E hr h => ?_)
  · obtain ⟨q, r, rfl, _⟩ := h
    rfl
  · obtain ⟨q, r, rfl, ⟨vs, hq, hvs⟩, hdp, hmn, k⟩ := h
    refine ⟨_, pss_cons (ps_set (i := 1) scRW.nd rfl (Or.inl rfl) (pe_lst pa_nil)) (pss_cons (ps_for PassesOwn.never rfl (pi_tup (pv 0)) (pg_name (i := 2) scRW.nd rfl (Or.inl rfl)) (pss_cons (ps_if (pt_truth (pv 1) (by intro _; rfl)) (pss_one (ps_expr (pe_bm PySem.F.plainAttrs_list PySem.F.slot_list_append PySem.F.type_list_append mt_append (pv 1) (pa_cons pe_str pa_nil)))) pss_nil) (pss_one (ps_expr (pe_bm PySem.F.plainAttrs_list PySem.F.slot_list_extend PySem.F.type_list_extend mt_extend (pv 1) (pa_cons (pe_call GD hr rfl mgd FD.kp bd .nil pass0 (pa_cons (pv 2) pa_nil)) pa_nil)))))) (pss_one (ps_ret (pv 1)))), ?_⟩
    have hsl := line4
    have hlen := DsAt.length r vs hvs
    refine ⟨Nat.zero_le _, fun l nl => ?_⟩
    refine ⟨_, rfl, q, rfl, ⟨_, sqt_kt (KT.of (Same.new nl)) hq⟩, for_tup (K := K) (a := q) (xs := vs) (fun i σ H' => ∃ x2 : Option V, σ = [some (.ref q), some (.ref l), x2] ∧ Same H H' ∧ H' l = some (.lst (strV (wordsR (r.take i))))) ⟨none, rfl, Same.new nl, by rw [upd_same, List.take_zero, wordsR_nil]; rfl⟩ (fun i σ H1 _ z => ?_) ?_ ?_⟩
    · obtain ⟨_, _, s1, _⟩ := z
      exact sqt_kt (KT.of s1) hq
    · rintro i v σ H1 hv ⟨x2, rfl, s1, hl1⟩
      obtain ⟨d, hd, hdv⟩ := DsAt.get r vs i v hvs hv
      have hdd := deepR_mem r d (List.mem_of_getElem? hd)
      have hmt := manyR_take r i d hd
      have hwl := wordsR_len (r.take i)
      have hdl := words_len d
      refine ⟨_, rfl, !(strV (wordsR (r.take i))).isEmpty, .inl ⟨_, SqL.of hl1, rfl⟩, ?_⟩
      by_cases h0 : r.take i = []
      · rw [h0, wordsR_nil] at hl1
        rw [h0, wordsR_nil]
        refine iteF ?_
        refine ⟨_, rfl, .inl ⟨rfl, _, SqL.of hl1⟩, _, rfl, v, d, rfl, DAt_kt (KT.of s1) d v hdv, by omega, by omega, fun p H2 s2 np hp => ?_⟩
        refine ⟨l, p, _, _, rfl, rfl, s2 _ _ hl1, hp, by rw [strV_len, strV_len, List.length_nil]; omega, ?_⟩
        refine ⟨_, rfl, (s1.trans s2).set nl, ?_⟩
        rw [upd_same, take_snoc hd, h0, List.nil_append, wordsR_first]
        rfl
      · have hne := wordsR_ne _ h0
        rw [show (!(strV (wordsR (r.take i))).isEmpty) = true from by
          cases e : wordsR (r.take i) with
          | nil => exact absurd e hne
          | cons _ _ => rfl]
        refine iteT ?_
        refine ⟨_, rfl, .inl ⟨rfl, _, SqL.of hl1⟩, l, _, _, rfl, rfl, hl1, by rw [strV_len]; omega, ?_⟩
        have s1' := s1.set (o := .lst (strV (wordsR (r.take i)) ++ [V.str ";"])) nl
        have hl2 : (upd H1 l (.lst (strV (wordsR (r.take i)) ++ [V.str ";"]))) l = some (.lst (strV (wordsR (r.take i)) ++ [V.str ";"])) := upd_same
        revert s1' hl2
        generalize upd H1 l (.lst (strV (wordsR (r.take i)) ++ [V.str ";"])) = H1'
        intro s1' hl2
        refine ⟨_, rfl, .inl ⟨rfl, _, SqL.of hl2⟩, _, rfl, v, d, rfl, DAt_kt (KT.of s1') d v hdv, by omega, by omega, fun p H2 s2 np hp => ?_⟩
        refine ⟨l, p, _, _, rfl, rfl, s2 _ _ hl2, hp, by rw [List.length_append, strV_len, strV_len, List.length_singleton]; omega, ?_⟩
        refine ⟨_, rfl, (s1'.trans s2).set nl, ?_⟩
        rw [upd_same, take_snoc hd, wordsR_snoc _ _ h0, strV_app, strV_app]
        rfl
    · rintro σ H1 ⟨x2, rfl, s1, hl1⟩
      refine ⟨_, rfl, ?_⟩
      rw [hlen, List.take_length] at hl1
      exact k l H1 s1 nl hl1
theorem scDW : FnScope ["deed", "kind", "letters", "inner", "words", "part", "name"] ["deed"] (defScope sDeedW) := ⟨rfl, rfl, rfl, by decide +kernel, rfl, by decide +kernel, by decide +kernel⟩
theorem let_at (a : Nat) (h : a < 10) : ∃ c, atI (("abcdefghij" : Str)).cps.toList ((a : Nat) : Int) = some c ∧ letS a = ⟨#[c]⟩ := by
  match a, h with
  | 0, _ => exact ⟨97, by decide +kernel, by decide +kernel⟩
  | 1, _ => exact ⟨98, by decide +kernel, by decide +kernel⟩
  | 2, _ => exact ⟨99, by decide +kernel, by decide +kernel⟩
  | 3, _ => exact ⟨100, by decide +kernel, by decide +kernel⟩
  | 4, _ => exact ⟨101, by decide +kernel, by decide +kernel⟩
  | 5, _ => exact ⟨102, by decide +kernel, by decide +kernel⟩
  | 6, _ => exact ⟨103, by decide +kernel, by decide +kernel⟩
  | 7, _ => exact ⟨104, by decide +kernel, by decide +kernel⟩
  | 8, _ => exact ⟨105, by decide +kernel, by decide +kernel⟩
  | 9, _ => exact ⟨106, by decide +kernel, by decide +kernel⟩
theorem words_rows : ∀ d : Dd, d.rows ≠ [] → d.words = [kindOf d, letS (d.names.headD 0)] ++ wordsL d.rows
  | .told _ _, h => absurd rfl h
  | .take _ _ _, h => absurd rfl h
  | .two _ _ _ _, h => absurd rfl h
  | .wh a r, _ => by simp [Dd.words, kindOf, Dd.names, Dd.rows, wordsL, wordsR]
  | .iff a r o, _ => by simp [Dd.words, kindOf, Dd.names, Dd.rows, wordsL, wordsR]
theorem words_flat : ∀ d : Dd, d.rows = [] → kindOf d ≠ ("told" : Str) → d.words = [letS (d.names.headD 0), ("=" : Str), kindOf d] ++ (d.names.map letS).drop 1
  | .told _ _, _, h => absurd rfl h
  | .take _ _ _, _, _ => by simp [Dd.words, kindOf, Dd.names]
  | .two _ _ _ _, _, _ => by simp [Dd.words, kindOf, Dd.names]
  | .wh a r, h, _ => by cases h
  | .iff a r o, h, _ => by cases h
theorem names_cons : ∀ d : Dd, ∃ a ns, d.names = a :: ns
  | .told a _ => ⟨a, _, rfl⟩
  | .take _ a _ => ⟨a, _, rfl⟩
  | .two _ a _ _ => ⟨a, _, rfl⟩
  | .wh a _ => ⟨a, _, rfl⟩
  | .iff a _ _ => ⟨a, _, rfl⟩
theorem told_of : ∀ d : Dd, kindOf d = ("told" : Str) → ∃ a t, d = .told a t
  | .told a t, _ => ⟨a, t, rfl⟩
  | .take false _ _, h => absurd (show ("first" : Str) = "told" from h) (by decide +kernel)
  | .take true _ _, h => absurd (show ("second" : Str) = "told" from h) (by decide +kernel)
  | .two false _ _ _, h => absurd (show ("pair" : Str) = "told" from h) (by decide +kernel)
  | .two true _ _ _, h => absurd (show ("same" : Str) = "told" from h) (by decide +kernel)
  | .wh _ _, h => absurd (show ("while" : Str) = "told" from h) (by decide +kernel)
  | .iff _ _ _, h => absurd (show ("if" : Str) = "told" from h) (by decide +kernel)
theorem names_few : ∀ d : Dd, d.names.length ≤ 3
  | .told _ _ => by simp [Dd.names]
  | .take _ _ _ => by simp [Dd.names]
  | .two _ _ _ _ => by simp [Dd.names]
  | .wh _ _ => by simp [Dd.names]
  | .iff _ _ _ => by simp [Dd.names]
theorem wordsL_snoc (a : List (List Dd)) (r : List Dd) : wordsL (a ++ [r]) = wordsL a ++ ((("[" : Str) :: wordsR r) ++ [("]" : Str)]) := by
  simp [wordsL]
theorem wordsL_len : ∀ rs : List (List Dd), (wordsL rs).length ≤ 8 * manyL rs + 2 * rs.length
  | [] => Nat.zero_le _
  | r :: rs => by
    have h1 := wordsL_len rs
    have h2 := wordsR_len r
    have e : wordsL (r :: rs) = (("[" : Str) :: (wordsR r ++ [("]" : Str)])) ++ wordsL rs := by simp [wordsL]
    rw [e, manyL]
    simp only [List.length_append, List.length_cons, List.length_nil]
    omega
theorem ok_deedW {f fR : Addr} {fd fdR : FuncData} {tL : Tok} (F : Fun K "deed_words" "deed_words" sDeedW f fd) (FR : Fun K "row_words" "row_words" sRowW fR fdR) (mgr : mg "row_words" = some (.ref fR)) (br : Binds K fdR ["row"] []) (B : Blt mg) (G : FrmC K w mg) (mL : mg "LETTERS" = some (.str "abcdefghij" tL)) (SS : Spc P w K mg base C "__str__" 2 ["self"] (spStr C)) (DN : Def P w K mg base "names_in" 1 ["deed"] (spNamesIn K C)) (DR : Def P w K mg base "rows_in" 1 ["deed"] (spRowsIn K C)) (m n : Nat) (hm : 4 ≤ m) (GR : FnOk P w K mg base CX0 m fR fdR ["row"] (spRowW K C n)) : FnOk P w K mg base CX0 (m + 1) f fd ["deed"] (spDeedW K C (n + 1)) := by
  refine F.ok scDW (fun vs H Q E h => ?_) (fun cdv A outer s H vs Q E hr h => ?_)
  · obtain ⟨v, d, rfl, _⟩ := h
    rfl
  · obtain ⟨v, d, rfl, hd, hdp, hmn, k⟩ := h
    have hr1 : Room 1 _ := hr.mono (by omega)
    have hr4 : Room 4 _ := hr.mono (by omega)
    refine ⟨_, pss_cons (ps_set (i := 1) scDW.nd rfl (Or.inl rfl) (pe_ix (r := rIxT K) ix_tup (pv 0) pe_int (fun _ _ => rfl))) (pss_cons (ps_setLc (i := 2) (own := [("name", 6)]) (g := gName 6) (tt := tYes) rfl scDW.nd rfl rfl rfl (pi_tup (pe_def DN hr1 rfl (pa_cons (pv 0) pa_nil))) (blkOk_by (N := ["deed", "kind", "letters", "inner", "words", "part", "name"]) (sc := defScope sDeedW) (by decide +kernel)) (fun _ _ _ _ _ => pg_name (i := 6) scDW.nd rfl (Or.inl rfl)) (fun _ _ _ _ _ => pts_nil) (fun _ _ _ _ _ => (pe_ix (r := rIxS) ix_str (pe_glob (v := .str "abcdefghij") rfl mL ⟨_, rfl⟩) (pv 6) (fun _ _ => rfl)))) (pss_cons (ps_if (pt_cmpR op_eq (pv 1) pe_str (nomark _)) (pss_one (ps_ret (pe_lst (pa_cons (pe_ix (r := rIxL K) ix_list (pv 2) pe_int (fun _ _ => rfl)) (pa_cons pe_str (pa_cons (pe_callTy (call_strT SS hr4) (by rfl) B.str PyProof.Rows.boot_str (pa_cons (pe_ix (r := rIxT K) ix_tup (pv 0) pe_int (fun _ _ => rfl)) pa_nil)) pa_nil)))))) pss_nil) (pss_cons (ps_set (i := 3) scDW.nd rfl (Or.inl rfl) (pe_def DR hr1 rfl (pa_cons (pv 0) pa_nil))) (pss_cons (ps_if (pt_not (pt_truth (pv 3) (by intro _; rfl))) (pss_one (ps_ret (pe_op op_cat (pe_lst (pa_cons (pe_ix (r := rIxL K) ix_list (pv 2) pe_int (fun _ _ => rfl)) (pa_cons pe_str (pa_cons (pv 1) pa_nil)))) (pe_slice sl_list (pv 2) (po_some pe_int) po_none)))) pss_nil) (pss_cons (ps_set (i := 4) scDW.nd rfl (Or.inl rfl) (pe_lst (pa_cons (pv 1) (pa_cons (pe_ix (r := rIxL K) ix_list (pv 2) pe_int (fun _ _ => rfl)) pa_nil)))) (pss_cons (ps_for PassesOwn.never rfl (pi_tup (pv 3)) (pg_name (i := 5) scDW.nd rfl (Or.inl rfl)) (pss_one (ps_expr (pe_bm PySem.F.plainAttrs_list PySem.F.slot_list_extend PySem.F.type_list_extend mt_extend (pv 4) (pa_cons (pe_op op_cat (pe_op op_cat (pe_lst (pa_cons pe_str pa_nil)) (pe_call GR hr rfl mgr FR.kp br .nil pass0 (pa_cons (pv 5) pa_nil))) (pe_lst (pa_cons pe_str pa_nil))) pa_nil))))) (pss_one (ps_ret (pv 4))))))))), ?_⟩
    have hsl := line4
    obtain ⟨p, its, mm, rfl, hp, _, _, _, _, _, _, hn10⟩ := names_look d hd
    obtain ⟨a, ns, hns⟩ := names_cons d
    have hnf := names_few d
    refine ⟨_, rfl, p, _, 0, _, rfl, rfl, hp, at0 _ _, ?_⟩
    refine ⟨_, rfl, _, d, rfl, hd, fun np H1 s1 hnp => ?_⟩
    refine ⟨np, rfl, ⟨_, hnp⟩, fun D nD => lc_tup (K := K) (a := np) (xs := namesV d.names) (fun i H' => Same H1 H' ∧ H' D = some (.lst (strV ((d.names.take i).map letS)))) ⟨Same.new nD, upd_same⟩ (fun i H' _ z => sqt_kt (KT.of z.1) hnp) ?_ ?_⟩
    · rintro i x H2 hx ⟨s2, hD⟩
      rw [namesV, List.getElem?_map] at hx
      cases e : d.names[i]? with
      | none => rw [e] at hx; cases hx
      | some b =>
      rw [e] at hx
      cases Option.some.inj hx
      obtain ⟨c, hc1, hc2⟩ := let_at b (hn10 b (List.mem_of_getElem? e))
      refine ⟨rfl, lc_yes ?_⟩
      refine ⟨_, rfl, _, _, c, rfl, rfl, by show 10 ≤ sizeLine; omega, hc1, ?_⟩
      refine ⟨_, hD, by rw [strV_len, List.length_map, List.length_take]; omega, s2.set nD, ?_⟩
      rw [upd_same, take_snoc e, List.map_append, strV_app, ← hc2]
      rfl
    · rintro H2 ⟨s2, hD⟩
      rw [show (namesV d.names).length = d.names.length from List.length_map _, List.take_length, hns, List.map_cons] at hD
      rw [hns, List.length_cons] at hnf
      have sH := s1.trans s2
      have hd2 := DAt_kt (KT.of sH) d _ hd
      have hp2 := sqt_kt (KT.of sH) hp
      have hlD : H D = none := s1.free nD
      refine ⟨_, rfl, rfl, _, rfl, ?_⟩
      by_cases ht : kindOf d = ("told" : Str)
      · rw [decide_eq_true (congrArg V.str ht)]
        refine iteT ?_
        obtain ⟨a', t, rfl⟩ := told_of d ht
        cases hns
        obtain ⟨p2, x, e2, hq2, ha, hx, hz⟩ := hd2
        cases e2
        refine ⟨_, rfl, D, _, 0, _, rfl, rfl, SqL.of hD, at0 _ _, ?_⟩
        refine ⟨_, rfl, p, _, 2, _, rfl, rfl, hq2, (show atI [V.str "told", V.int (a : Nat), V.ref x] ((2 : Nat) : Int) = some (V.ref x) from atI_nat rfl), x, t, rfl, hx, hz, fun H3 s3 => ?_⟩
        refine ⟨by show 3 ≤ sizeLine; omega, fun l nl => ?_⟩
        exact k l _ ((sH.trans s3).trans (Same.new nl)) ((sH.trans s3).free nl) upd_same
      · rw [decide_eq_false (fun z => ht (V.str.inj z))]
        refine iteF ?_
        refine ⟨_, rfl, _, d, rfl, hd2, fun ip ws H3 s3 hip hws => ?_⟩
        have hwl := Paired.length hws
        have hD3 := s3 _ _ hD
        refine ⟨_, rfl, !ws.isEmpty, .inr (.inl ⟨ws, hip, rfl⟩), ?_⟩
        by_cases hrw : d.rows = []
        · have hw0 : ws = [] := by
            rw [hrw] at hwl
            exact List.length_eq_zero_iff.mp hwl
          subst hw0
          refine iteT ?_
          refine ⟨_, rfl, D, _, 0, _, rfl, rfl, SqL.of hD3, at0 _ _, _, rfl, by show 3 ≤ sizeLine; omega, fun l nl => ?_⟩
          have sl := Same.new nl (o := .lst [V.str (letS a), V.str "=", V.str (kindOf d)])
          refine ⟨_, rfl, _, rfl, D, _, rfl, SqL.of (sl _ _ hD3), fun l2 nl2 => ?_⟩
          have nll : l ≠ l2 := ne_of_none upd_same nl2
          refine ⟨l, l2, _, _, rfl, rfl, (upd_ne nll).trans upd_same, upd_same, ?_, fun l3 nl3 => ?_⟩
          · rw [show strV (letS a :: ns.map letS) = V.str (letS a) :: strV (ns.map letS) from rfl, cut1, strV_len, List.length_map]
            show 3 + _ ≤ _
            omega
          · rw [show strV (letS a :: ns.map letS) = V.str (letS a) :: strV (ns.map letS) from rfl, cut1] at nl3 ⊢
            have sA := ((sH.trans s3).trans sl).trans (Same.new nl2 (o := .lst (strV (ns.map letS))))
            refine k l3 _ (sA.trans (Same.new nl3)) (sA.free nl3) ?_
            rw [upd_same, words_flat d hrw ht, hns]
            rfl
        · have hw1 : ws.isEmpty = false := by
            cases ws with
            | nil => exact absurd (List.length_eq_zero_iff.mp hwl.symm) hrw
            | cons _ _ => rfl
          rw [hw1]
          refine iteF ?_
          refine ⟨_, rfl, _, rfl, D, _, 0, _, rfl, rfl, SqL.of hD3, at0 _ _, by show 2 ≤ sizeLine; omega, fun l nl => ?_⟩
          have hdr := deep_rows d hrw
          have hmr := many_rows d
          have hrl : d.rows.length ≤ 2 := by cases d <;> simp [Dd.rows]
          refine ⟨_, rfl, ip, rfl, ⟨_, sqt_kt (KT.of (Same.new nl)) hip⟩, for_tup (K := K) (a := ip) (xs := ws) (fun j σ H' => ∃ x5 : Option V, σ = [some (.ref p), some (.str (kindOf d)), some (.ref D), some (.ref ip), some (.ref l), x5, none] ∧ Same H3 H' ∧ H' l = some (.lst (strV ([kindOf d, letS a] ++ wordsL (d.rows.take j))))) ⟨none, rfl, Same.new nl, upd_same⟩ (fun j σ H' _ z => ?_) ?_ ?_⟩
          · obtain ⟨_, _, s4, _⟩ := z
            exact sqt_kt (KT.of s4) hip
          · rintro j y σ H4 hy ⟨x5, rfl, s4, hl4⟩
            obtain ⟨r6, hr6, q6, rfl, hq6⟩ := paired_get hws hy
            have hml := manyL_take d.rows j r6 hr6
            have hdl := deepL_mem d.rows r6 (List.mem_of_getElem? hr6)
            have hwL := wordsL_len (d.rows.take j)
            have hwR := wordsR_len r6
            rw [List.length_take] at hwL
            refine ⟨_, rfl, .inl ⟨rfl, _, SqL.of hl4⟩, by show 1 ≤ sizeLine; omega, fun u nu => ?_⟩
            have su := Same.new nu (o := .lst [V.str "["])
            refine ⟨_, rfl, q6, r6, rfl, (hq6.same s4).same su, by omega, by omega, fun p5 H5 s5 np5 hp5 => ?_⟩
            refine ⟨u, p5, _, _, rfl, rfl, s5 _ _ upd_same, hp5, by rw [strV_len]; show 1 + _ ≤ _; omega, fun u2 nu2 => ?_⟩
            have su2 := Same.new nu2 (o := .lst ([V.str "["] ++ strV (wordsR r6)))
            refine ⟨by show 1 ≤ sizeLine; omega, fun u3 nu3 => ?_⟩
            have su3 := Same.new nu3 (o := .lst [V.str "]"])
            refine ⟨u2, u3, _, _, rfl, rfl, su3 _ _ upd_same, upd_same, by rw [List.length_append, strV_len]; show 1 + _ + 1 ≤ _; omega, fun u4 nu4 => ?_⟩
            have su4 := Same.new nu4 (o := .lst (([V.str "["] ++ strV (wordsR r6)) ++ [V.str "]"]))
            have sB := (((su.trans s5).trans su2).trans su3).trans su4
            refine ⟨l, u4, _, _, rfl, rfl, sB _ _ hl4, upd_same, ?_, ?_⟩
            · simp only [List.length_append, strV_len, List.length_cons, List.length_nil]
              omega
            · refine ⟨_, rfl, (s4.trans sB).set nl, ?_⟩
              rw [upd_same, take_snoc hr6, wordsL_snoc, ← List.append_assoc [kindOf d, letS a], strV_app ([kindOf d, letS a] ++ wordsL (d.rows.take j))]
              rw [strV_app (("[" : Str) :: wordsR r6)]
              rfl
          · rintro σ H4 ⟨x5, rfl, s4, hl4⟩
            rw [hwl, List.take_length] at hl4
            refine ⟨_, rfl, ?_⟩
            refine k l H4 ((sH.trans s3).trans s4) ((sH.trans s3).free nl) ?_
            rw [hl4, words_rows d hrw, hns]
            rfl
end
end Js

set_option Elab.async false
set_option linter.all false
set_option maxRecDepth 100000
set_option maxHeartbeats 2000000
namespace Js
open PySem L2
open PySem.Spec PyProof.Rows
abbrev sPartC : Stmt := top 39
abbrev sDeedC : Stmt := top 38
abbrev sRowC : Stmt := top 37
abbrev sCodeOf : Stmt := top 36
/-! ### codes -/
mutual
def Dd.code : Dd → Tr
  | .told a t => rowT [num 0, num a, t]
  | .take s a b => rowT [num (if s then 2 else 1), num a, num b]
  | .two s a b c => rowT [num (if s then 4 else 3), num a, num b, num c]
  | .wh a r => rowT [num 5, num a, codeR r]
  | .iff a r o => rowT [num 6, num a, codeR r, codeR o]
def codeR : List Dd → Tr
  | [] => .nil
  | d :: r => .pr d.code (codeR r)
end
def Dd.kix : Dd → Nat
  | .told _ _ => 0
  | .take s _ _ => if s then 2 else 1
  | .two s _ _ _ => if s then 4 else 3
  | .wh _ _ => 5
  | .iff _ _ _ => 6
def Dd.prts : Dd → List Tr
  | .told a t => [num a, t]
  | .take _ a b => [num a, num b]
  | .two _ a b c => [num a, num b, num c]
  | .wh a r => [num a, codeR r]
  | .iff a r o => [num a, codeR r, codeR o]
theorem code_parts : ∀ d : Dd, d.code = rowT (num d.kix :: d.prts)
  | .told _ _ => by rw [Dd.code]; rfl
  | .take _ _ _ => by rw [Dd.code]; rfl
  | .two _ _ _ _ => by rw [Dd.code]; rfl
  | .wh _ _ => by rw [Dd.code]; rfl
  | .iff _ _ _ => by rw [Dd.code]; rfl
theorem codeR_row : ∀ r : List Dd, codeR r = rowT (r.map Dd.code)
  | [] => by rw [codeR]; rfl
  | d :: r => by rw [codeR, codeR_row r]; rfl
theorem rowT_size_mem : ∀ (ts : List Tr) (t : Tr), t ∈ ts → t.size ≤ (rowT ts).size
  | [], _, h => by cases h
  | x :: ts, t, h => by
    have e : (rowT (x :: ts)).size = 1 + x.size + (rowT ts).size := rfl
    rcases List.mem_cons.mp h with rfl | h
    · omega
    · have := rowT_size_mem ts t h
      omega
theorem rowT_len : ∀ ts : List Tr, ts.length ≤ (rowT ts).size
  | [] => Nat.zero_le _
  | x :: ts => by
    have e : (rowT (x :: ts)).size = 1 + x.size + (rowT ts).size := rfl
    have := rowT_len ts
    rw [List.length_cons]
    omega
/-! ### the forms as a list of keys -/
def formKs : List Str := [("told" : Str), ("first" : Str), ("second" : Str), ("pair" : Str), ("same" : Str), ("while" : Str), ("if" : Str)]
structure FoK (K : PySem.W.Frag) (w : World) (mg : Str → Option Value) : Prop where
  ex : ∃ dF es n, mg "FORMS" = some (.ref dF) ∧ KDict K w dF es n ∧ (∀ kf ∈ forms, ∃ t, PySem.W.nsIn K dF kf.1 = some (some (.str kf.2 t))) ∧ es.size = 7 ∧ ∀ (i : Nat) (h : i < es.size), ∃ z t, formKs[i]? = some z ∧ es[i].key = Value.str z t
/-- the keys of a dict's entries, in their order -/
def KyL : List Str → List DictEntry → Prop
  | [], [] => True
  | z :: zs, e :: es => (∃ t, e.key = Value.str z t) ∧ KyL zs es
  | _, _ => False
theorem KyL.at : ∀ {zs : List Str} {es : List DictEntry}, KyL zs es → es.length = zs.length ∧ ∀ (i : Nat) (h : i < es.length), ∃ z t, zs[i]? = some z ∧ es[i].key = Value.str z t
  | [], [], _ => ⟨rfl, fun i h => absurd h (Nat.not_lt_zero _)⟩
  | z :: zs, e :: es, h => by
    obtain ⟨h1, h2⟩ := KyL.at h.2
    refine ⟨by rw [List.length_cons, List.length_cons, h1], fun i hi => ?_⟩
    cases i with
    | zero =>
      obtain ⟨t, ht⟩ := h.1
      exact ⟨z, t, rfl, ht⟩
    | succ i => exact h2 i (by simpa using hi)
  | [], _ :: _, h => h.elim
  | _ :: _, [], h => h.elim
theorem FoK.of {K : PySem.W.Frag} {w : World} {mg : Str → Option Value} {dF : Addr} {es : Array DictEntry} {n : Nat} (mF : mg "FORMS" = some (.ref dF)) (D : KDict K w dF es n) (hf : ∀ kf ∈ forms, ∃ t, PySem.W.nsIn K dF kf.1 = some (some (.str kf.2 t))) (hk : KyL formKs es.toList) : FoK K w mg := by
  obtain ⟨h1, h2⟩ := hk.at
  have h7 : es.size = 7 := by rw [← Array.length_toList, h1]; rfl
  refine ⟨dF, es, n, mF, D, hf, h7, fun i hi => ?_⟩
  obtain ⟨z, t, e1, e2⟩ := h2 i (by simpa using hi)
  exact ⟨z, t, e1, by simpa using e2⟩
theorem call_listKD {X : Cx} {d : Addr} {es : Array DictEntry} {n : Nat} (hc : X.calm = true) (D : KDict X.K X.w d es n ∧ es.size = 7 ∧ ∀ (i : Nat) (h : i < es.size), ∃ z t, formKs[i]? = some z ∧ es[i].key = Value.str z t) : CallR X (.type "list") (fun xs H Q => xs = [.ref d] ∧ ∀ p, H p = none → Q (.ref p) (upd H p (.lst (strV formKs)))) := by
  obtain ⟨D, h7, hks⟩ := D
  intro pins s σ H xs us Q I r h
  obtain ⟨rfl, q⟩ := h
  obtain ⟨u, rfl, rx⟩ := vals1 r
  cases rx
  have hraw : s.heap.DictRaw d es n := ⟨_, I.kIn _ _ D.at_, ⟨rfl, rfl, rfl⟩, rfl⟩
  refine PySem.W.kdl_call (KdlSrc.rawDict (prog := X.prog) (w := X.w) D.low) (I.ok.hd hc) hraw (by rw [h7, sizeLine_eq]; decide) fun h' tk acc c' hk hD hacc => ?_
  have hl : acc.toList.length = 7 := by rw [Array.length_toList, hacc.1, h7]
  have hv : Vals (strV formKs) acc.toList := by
    have pt : ∀ (xs : List V) (ys : List Value), xs.length = ys.length → (∀ (j : Nat) x y, xs[j]? = some x → ys[j]? = some y → RelV x y) → Vals xs ys := by
      intro xs
      induction xs with
      | nil =>
        intro ys h _
        cases ys with
        | nil => exact .nil
        | cons _ _ => cases h
      | cons x xs ih =>
        intro ys h k
        cases ys with
        | nil => cases h
        | cons y ys => exact .cons (k 0 x y rfl rfl) (ih ys (by simpa using h) fun j a b e1 e2 => k (j + 1) a b e1 e2)
    refine pt _ _ (by rw [hl]; rfl) fun j a b e1 e2 => ?_
    obtain ⟨hi, e3⟩ := hacc.2 j b (by simpa using e2)
    obtain ⟨z, t, hz, e4⟩ := hks j hi
    rw [strV, List.getElem?_map, hz] at e1
    cases Option.some.inj e1
    exact ⟨t, e3.trans e4⟩
  exact ⟨.ref s.heap.objs.size, _, I.laid (t' := tk) hk (Nat.le_refl _) (show ObjOk X.prog X.w _ h' _ (.lst (strV formKs)) from ⟨by rw [sizeLine_eq]; decide, acc.toList, c', hv, by simpa using hD⟩), rfl, q _ (I.hok.fresh (Nat.le_refl _))⟩
theorem kix_at (d : Dd) : (strV formKs)[d.kix]? = some (.str (kindOf d)) ∧ ∀ (m : Nat) (z : V), m < d.kix → (strV formKs)[m]? = some z → eqV z (.str (kindOf d)) = false := by
  have hne : ∀ k : Fin 7, ∀ m : Fin 7, m.1 < k.1 → formKs[m.1]? ≠ formKs[k.1]? := by decide +kernel
  have gen : ∀ (k : Nat) (x : Str), k < 7 → formKs[k]? = some x → (strV formKs)[k]? = some (.str x) ∧ ∀ (m : Nat) (z : V), m < k → (strV formKs)[m]? = some z → eqV z (.str x) = false := by
    intro k x hk hx
    refine ⟨by rw [strV, List.getElem?_map, hx]; rfl, fun m z hm hz => ?_⟩
    rw [strV, List.getElem?_map] at hz
    obtain ⟨y, hy, rfl⟩ := Option.map_eq_some_iff.mp hz
    have hyx : y ≠ x := fun e => hne ⟨k, hk⟩ ⟨m, by omega⟩ hm (by rw [e] at hy; exact hy.trans hx.symm)
    simp [eqV, hyx]
  cases d with
  | told a t => exact gen 0 _ (by decide) rfl
  | take s a b => cases s with
    | false => exact gen 1 _ (by decide) rfl
    | true => exact gen 2 _ (by decide) rfl
  | two s a b c => cases s with
    | false => exact gen 3 _ (by decide) rfl
    | true => exact gen 4 _ (by decide) rfl
  | wh a r => exact gen 5 _ (by decide) rfl
  | iff a r o => exact gen 6 _ (by decide) rfl
theorem strV_flat' (xs : List Str) : (strV xs).all flatV = true := by
  rw [List.all_eq_true]
  intro v hv
  obtain ⟨x, _, rfl⟩ := List.mem_map.mp hv
  rfl
theorem kix_le (d : Dd) : d.kix ≤ 6 := by
  cases d with
  | told a t => exact Nat.zero_le _
  | take s a b => cases s <;> simp [Dd.kix]
  | two s a b c => cases s <;> simp [Dd.kix]
  | wh a r => simp [Dd.kix]
  | iff a r o => simp [Dd.kix]
/-- what a part of a deed codes to, by its sign -/
def PtV (K : PySem.W.Frag) (C : Addr) (H : Hp) (n : Nat) (x : V) (c : Nat) (t : Tr) : Prop := (c = 110 ∧ ∃ a : Nat, a < 10 ∧ x = .int ((a : Nat) : Int) ∧ t = num a) ∨ (c = 116 ∧ ∃ y, x = .ref y ∧ Th C H y t) ∨ (c = 114 ∧ ∃ q r, x = .ref q ∧ RAt K C H q r ∧ deepR r < n ∧ t = codeR r)
theorem PtV.same {K : PySem.W.Frag} {C : Addr} {H H' : Hp} {n : Nat} {x : V} {c : Nat} {t : Tr} (s : Same H H') (h : PtV K C H n x c t) : PtV K C H' n x c t := by
  rcases h with h | ⟨e, y, e1, h⟩ | ⟨e, q, r, e1, h, h2⟩
  · exact .inl h
  · exact .inr (.inl ⟨e, y, e1, h.same s⟩)
  · exact .inr (.inr ⟨e, q, r, e1, h.same s, h2⟩)
theorem deed_parts {K : PySem.W.Frag} {C : Addr} {H : Hp} {v : V} {n : Nat} : ∀ (d : Dd), DAt K C H v d → d.deep < n + 1 → ∃ p its, v = .ref p ∧ SqT K H p (.str (kindOf d) :: its) ∧ its.length = (formOf d).cps.size ∧ d.prts.length = its.length ∧ its ≠ [] ∧ its.length ≤ 3 ∧ ∀ (i : Nat) x c, its[i]? = some x → (formOf d).cps[i]? = some c → ∃ t, d.prts[i]? = some t ∧ PtV K C H n x c t
  | .told a t, h, hn => by
    obtain ⟨p, x, e, h1, h2, h3, h4⟩ := h
    refine ⟨p, _, e, h1, by rw [formOf, cps_nt]; rfl, rfl, by simp, by simp, fun i y c g1 g2 => ?_⟩
    rw [formOf, cps_nt] at g2
    match i, g1, g2 with
    | 0, g1, g2 => cases Option.some.inj g1; cases Option.some.inj g2; exact ⟨_, rfl, .inl ⟨rfl, a, h2, rfl, rfl⟩⟩
    | 1, g1, g2 => cases Option.some.inj g1; cases Option.some.inj g2; exact ⟨_, rfl, .inr (.inl ⟨rfl, x, rfl, h3⟩)⟩
    | i + 2, g1, g2 => simp at g1
  | .take s a b, h, hn => by
    obtain ⟨p, e, h1, h2, h3⟩ := h
    refine ⟨p, _, e, h1, by rw [formOf, cps_nn]; rfl, rfl, by simp, by simp, fun i y c g1 g2 => ?_⟩
    rw [formOf, cps_nn] at g2
    match i, g1, g2 with
    | 0, g1, g2 => cases Option.some.inj g1; cases Option.some.inj g2; exact ⟨_, rfl, .inl ⟨rfl, a, h2, rfl, rfl⟩⟩
    | 1, g1, g2 => cases Option.some.inj g1; cases Option.some.inj g2; exact ⟨_, rfl, .inl ⟨rfl, b, h3, rfl, rfl⟩⟩
    | i + 2, g1, g2 => simp at g1
  | .two s a b c0, h, hn => by
    obtain ⟨p, e, h1, h2, h3, h4⟩ := h
    refine ⟨p, _, e, h1, by rw [formOf, cps_nnn]; rfl, rfl, by simp, by simp, fun i y c g1 g2 => ?_⟩
    rw [formOf, cps_nnn] at g2
    match i, g1, g2 with
    | 0, g1, g2 => cases Option.some.inj g1; cases Option.some.inj g2; exact ⟨_, rfl, .inl ⟨rfl, a, h2, rfl, rfl⟩⟩
    | 1, g1, g2 => cases Option.some.inj g1; cases Option.some.inj g2; exact ⟨_, rfl, .inl ⟨rfl, b, h3, rfl, rfl⟩⟩
    | 2, g1, g2 => cases Option.some.inj g1; cases Option.some.inj g2; exact ⟨_, rfl, .inl ⟨rfl, c0, h4, rfl, rfl⟩⟩
    | i + 3, g1, g2 => simp at g1
  | .wh a r, h, hn => by
    obtain ⟨p, q, vs, e, h1, h2, h3, h4⟩ := h
    rw [Dd.deep] at hn
    refine ⟨p, _, e, h1, by rw [formOf, cps_nr]; rfl, rfl, by simp, by simp, fun i y c g1 g2 => ?_⟩
    rw [formOf, cps_nr] at g2
    match i, g1, g2 with
    | 0, g1, g2 => cases Option.some.inj g1; cases Option.some.inj g2; exact ⟨_, rfl, .inl ⟨rfl, a, h2, rfl, rfl⟩⟩
    | 1, g1, g2 => cases Option.some.inj g1; cases Option.some.inj g2; exact ⟨_, rfl, .inr (.inr ⟨rfl, q, r, rfl, ⟨vs, h3, h4⟩, by omega, rfl⟩)⟩
    | i + 2, g1, g2 => simp at g1
  | .iff a r o, h, hn => by
    obtain ⟨p, q, vs, q2, vs2, e, h1, h2, h3, h4, h5, h6⟩ := h
    rw [Dd.deep] at hn
    refine ⟨p, _, e, h1, by rw [formOf, cps_nrr]; rfl, rfl, by simp, by simp, fun i y c g1 g2 => ?_⟩
    rw [formOf, cps_nrr] at g2
    match i, g1, g2 with
    | 0, g1, g2 => cases Option.some.inj g1; cases Option.some.inj g2; exact ⟨_, rfl, .inl ⟨rfl, a, h2, rfl, rfl⟩⟩
    | 1, g1, g2 => cases Option.some.inj g1; cases Option.some.inj g2; exact ⟨_, rfl, .inr (.inr ⟨rfl, q, r, rfl, ⟨vs, h3, h4⟩, by omega, rfl⟩)⟩
    | 2, g1, g2 => cases Option.some.inj g1; cases Option.some.inj g2; exact ⟨_, rfl, .inr (.inr ⟨rfl, q2, o, rfl, ⟨vs2, h5, h6⟩, by omega, rfl⟩)⟩
    | i + 3, g1, g2 => simp at g1
def spPartC (K : PySem.W.Frag) (C : Addr) (n : Nat) : Sp := fun vs H Q _ => ∃ x c t, vs = [x, .str ⟨#[c]⟩] ∧ PtV K C H n x c t ∧ t.size ≤ 4000 ∧ ∀ a H', Same H H' → Th C H' a t → Q (.ref a) H'
def spDeedC (K : PySem.W.Frag) (C : Addr) (n : Nat) : Sp := fun vs H Q _ => ∃ v d, vs = [v] ∧ DAt K C H v d ∧ d.deep < n ∧ d.code.size ≤ 4000 ∧ ∀ a H', Same H H' → Th C H' a d.code → Q (.ref a) H'
def spRowC (K : PySem.W.Frag) (C : Addr) (n : Nat) : Sp := fun vs H Q _ => ∃ q r, vs = [.ref q] ∧ RAt K C H q r ∧ deepR r < n ∧ (codeR r).size ≤ 4000 ∧ ∀ a H', Same H H' → Th C H' a (codeR r) → Q (.ref a) H'
def spCodeOf (K : PySem.W.Frag) (C CP : Addr) : Sp := fun vs H Q _ => ∃ a r, vs = [.ref a] ∧ PgAt K C CP H a r ∧ (codeR r).size ≤ 4000 ∧ ∀ x H', Same H H' → Th C H' x (codeR r) → Q (.ref x) H'
theorem s_n : (⟨#[110]⟩ : Str) = ("n" : Str) := by decide +kernel
theorem s_t : (⟨#[116]⟩ : Str) = ("t" : Str) := by decide +kernel
theorem s_r : (⟨#[114]⟩ : Str) = ("r" : Str) := by decide +kernel
section
variable {P : Program} {w : World} {K : PySem.W.Frag} {mg : Str → Option Value} {base : Heap} {C CP fI fP : Addr} {fdI fdP : FuncData}
theorem scPa : FnScope ["part", "sign"] ["part", "sign"] (defScope sPartC) := ⟨rfl, rfl, rfl, by decide +kernel, rfl, by decide +kernel, by decide +kernel⟩
theorem scDc : FnScope ["deed", "kind", "told", "part", "sign"] ["deed"] (defScope sDeedC) := ⟨rfl, rfl, rfl, by decide +kernel, rfl, by decide +kernel, by decide +kernel⟩
theorem scRc : FnScope ["deeds", "deed"] ["deeds"] (defScope sRowC) := ⟨rfl, rfl, rfl, by decide +kernel, rfl, by decide +kernel, by decide +kernel⟩
theorem scCo : FnScope ["program"] ["program"] (defScope sCodeOf) := ⟨rfl, rfl, rfl, by decide +kernel, rfl, by decide +kernel, by decide +kernel⟩
theorem ok_partC {f fR : Addr} {fd fdR : FuncData} {n : Nat} (F : Fun K "part_code" "part_code" sPartC f fd) (DNu : Def P w K mg base "number" 4 ["n"] (spNumber C)) (GR : FnOk P w K mg base CX0 (3 * n + 5) fR fdR ["deeds"] (spRowC K C n)) (mgr : mg "row_code" = some (.ref fR)) (kr : PySem.W.keepIn K (.ref fR) = true) (br : Binds K fdR ["deeds"] []) : FnOk P w K mg base CX0 (3 * n + 6) f fd ["part", "sign"] (spPartC K C n) := by
  refine F.ok scPa (fun vs H Q E h => ?_) (fun cdv A outer s H vs Q E hr h => ?_)
  · obtain ⟨x, c, t, rfl, _⟩ := h
    rfl
  · obtain ⟨x, c, t, rfl, hp, hz, k⟩ := h
    have hr4 : Room 4 _ := hr.mono (by omega)
    refine ⟨_, pss_cons (ps_if (pt_cmpR op_eq (pv 1) pe_str (nomark _)) (pss_one (ps_ret (pe_def DNu hr4 rfl (pa_cons (pv 0) pa_nil)))) pss_nil) (pss_cons (ps_if (pt_cmpR op_eq (pv 1) pe_str (nomark _)) (pss_one (ps_ret (pv 0))) pss_nil) (pss_one (ps_ret (pe_call GR hr rfl mgr kr br .nil pass0 (pa_cons (pv 0) pa_nil))))), ?_⟩
    rcases hp with ⟨rfl, a, ha, rfl, rfl⟩ | ⟨rfl, y, rfl, hy⟩ | ⟨rfl, q, r, rfl, hq, hd, rfl⟩
    · refine ⟨_, rfl, rfl, _, rfl, ?_⟩
      rw [s_n, decide_eq_true rfl]
      exact iteT ⟨_, rfl, a, rfl, by omega, fun y H1 s1 hy => k y H1 s1 hy⟩
    · refine ⟨_, rfl, rfl, _, rfl, ?_⟩
      rw [s_t, show decide (V.str ("t" : Str) = V.str ("n" : Str)) = false by decide +kernel]
      refine iteF ⟨_, rfl, rfl, _, rfl, ?_⟩
      rw [decide_eq_true rfl]
      exact iteT ⟨_, rfl, k y H (Same.refl H) hy⟩
    · refine ⟨_, rfl, rfl, _, rfl, ?_⟩
      rw [s_r, show decide (V.str ("r" : Str) = V.str ("n" : Str)) = false by decide +kernel]
      refine iteF ⟨_, rfl, rfl, _, rfl, ?_⟩
      rw [show decide (V.str ("r" : Str) = V.str ("t" : Str)) = false by decide +kernel]
      exact iteF ⟨_, rfl, q, r, rfl, hq, hd, hz, k⟩
theorem ok_deedC {f fP' : Addr} {fd fdP' : FuncData} {n : Nat} (F : Fun K "deed_code" "deed_code" sDeedC f fd) (ml : mg "list" = none) (G : FrmC K w mg) (Fo : FoK K w mg) (DNu : Def P w K mg base "number" 4 ["n"] (spNumber C)) (DRo : Def P w K mg base "row" 4 ["things"] (spRow C)) (GP : FnOk P w K mg base CX0 (3 * n + 6) fP' fdP' ["part", "sign"] (spPartC K C n)) (mgp : mg "part_code" = some (.ref fP')) (kp : PySem.W.keepIn K (.ref fP') = true) (bp : Binds K fdP' ["part", "sign"] []) : FnOk P w K mg base CX0 (3 * n + 7) f fd ["deed"] (spDeedC K C (n + 1)) := by
  obtain ⟨dF, es, nF, mF, kdd, hk, h7, hks⟩ := Fo.ex
  have kdF := (⟨kdd, h7, hks⟩ : KDict K w dF es nF ∧ es.size = 7 ∧ ∀ (i : Nat) (h : i < es.size), ∃ z t, formKs[i]? = some z ∧ es[i].key = Value.str z t)
  refine F.ok scDc (fun vs H Q E h => ?_) (fun cdv A outer s H vs Q E hr h => ?_)
  · obtain ⟨v, d, rfl, _⟩ := h
    rfl
  · obtain ⟨v, d, rfl, hd, hdp, hz, k⟩ := h
    have hr4 : Room 4 _ := hr.mono (by omega)
    have hr0 : Room (3 * n + 6) _ := hr
    refine ⟨_, pss_cons (ps_set (i := 1) scDc.nd rfl (Or.inl rfl) (pe_ix (r := rIxT K) ix_tup (pv 0) pe_int (fun _ _ => rfl))) (pss_cons (ps_set (i := 2) scDc.nd rfl (Or.inl rfl) (pe_lst (pa_cons (pe_def DNu hr4 rfl (pa_cons (pe_bm PySem.F.plainAttrs_list PySem.F.slot_list_index PySem.F.type_list_index mt_index (pe_callTy (call_listKD rfl kdF) (by rfl) ml PyProof.Rows.boot_list (pa_cons (pe_glob (v := .ref dF) rfl mF rfl) pa_nil)) (pa_cons (pv 1) pa_nil)) pa_nil)) pa_nil))) (pss_cons (ps_for PassesOwn.never rfl (pi_zipTS rfl G.mz (pa_cons (pe_slice sl_tup (pv 0) (po_some pe_int) po_none) (pa_cons (pe_ix (r := rIxD K w) ix_kdict (pe_glob (v := .ref dF) rfl mF rfl) (pv 1) (fun _ _ => rfl)) pa_nil))) (pg_tup rfl (pgs_cons (pg_name (i := 3) scDc.nd rfl (Or.inl rfl)) (pgs_cons (pg_name (i := 4) scDc.nd rfl (Or.inl rfl)) pgs_nil))) (pss_one (ps_expr (pe_bm PySem.F.plainAttrs_list PySem.F.slot_list_append PySem.F.type_list_append mt_append (pv 2) (pa_cons (pe_call GP hr0 rfl mgp kp bp .nil pass0 (pa_cons (pv 3) (pa_cons (pv 4) pa_nil))) pa_nil))))) (pss_one (ps_ret (pe_def DRo hr4 rfl (pa_cons (pv 2) pa_nil)))))), ?_⟩
    have hsl := sizeLine_eq
    obtain ⟨p, its, rfl, hp, hl, hpl, hne, hl3, hall⟩ := deed_parts d hd hdp
    rw [code_parts] at hz k
    have hki := kix_le d
    obtain ⟨hk1, hk2⟩ := kix_at d
    obtain ⟨tk, hkf⟩ := hk _ (form_in d)
    refine ⟨_, rfl, p, _, 0, _, rfl, rfl, hp, at0 _ _, ?_⟩
    refine ⟨rfl, fun l nl => ?_⟩
    have sl := Same.new nl (o := .lst (strV formKs))
    have el : (upd H l (.lst (strV formKs))) l = some (.lst (strV formKs)) := upd_same
    revert sl el
    generalize upd H l (.lst (strV formKs)) = H1
    intro sl el
    refine ⟨.inl ⟨rfl, _, SqL.of el⟩, _, rfl, l, _, _, d.kix, _, rfl, rfl, SqL.of el, rfl, strV_flat' _, hk1, by simp [eqV], hk2, d.kix, rfl, by omega, fun a H2 s2 ha => ⟨by show 1 ≤ sizeLine; decide, fun L nL => ?_⟩⟩
    have sL := Same.new nL (o := .lst [V.ref a])
    have eL : (upd H2 L (.lst [V.ref a])) L = some (.lst [V.ref a]) := upd_same
    have s02 := sl.trans s2
    have nLH : H L = none := s02.free nL
    revert sL eL
    generalize upd H2 L (.lst [V.ref a]) = H3
    intro sL eL
    have s03 := s02.trans sL
    refine ⟨_, rfl, _, rfl, p, _, rfl, sqt_kt (KT.of s03) hp, ?_, fun q nq => ?_⟩
    · rintro ⟨h0, _⟩
      have e : HT.sIx (its.length + 1) 0 (some 1) = 1 := by
        show min 1 (its.length + 1) = 1
        omega
      rw [List.length_cons, e] at h0
      cases h0
    rw [cut1]
    have sq := Same.new nq (o := .tup its)
    have eq : (upd H3 q (.tup its)) q = some (.tup its) := upd_same
    revert sq eq
    generalize upd H3 q (.tup its) = H4
    intro sq eq
    have s04 := s03.trans sq
    refine ⟨_, rfl, dF, _, .str (formOf d), rfl, rfl, ⟨es, nF, _, kdd.at_, kdd.lit, hkf, ⟨_, rfl⟩⟩, q, _, its, rfl, SqT.of eq, for_it (n := its.length) (walk_zipTS (K := K) (a := q) (t := formOf d) (xs := its) (by rw [← hl, Nat.min_self])) (fun i σ H' => ∃ (x3 x4 : Option V) (us : List V), σ = [some (.ref p), some (.str (kindOf d)), some (.ref L), x3, x4] ∧ Same H H' ∧ SqT K H' q its ∧ H' L = some (.lst us) ∧ Paired (ThV C H') us (num d.kix :: d.prts.take i)) ⟨none, none, _, rfl, s04, SqT.of eq, sq _ _ eL, .cons ⟨a, rfl, ha.same (sL.trans sq)⟩ (by rw [List.take_zero]; exact .nil)⟩ (fun i σ H' _ z => ?_) ?_ ?_⟩
    · obtain ⟨_, _, _, _, _, hq', _⟩ := z
      exact hq'
    · rintro i y σ H5 H6 hi ⟨x3, x4, us, rfl, s5, hq5, hL5, hus⟩ ⟨T, x, c, rfl, nT, rfl, hx, hc⟩
      have sT := Same.new nT (o := .tup [x, .str ⟨#[c]⟩])
      have eT : (upd H5 T (.tup [x, .str ⟨#[c]⟩])) T = some (.tup [x, .str ⟨#[c]⟩]) := upd_same
      revert sT eT
      generalize upd H5 T (.tup [x, .str ⟨#[c]⟩]) = H6
      intro sT eT
      obtain ⟨t, ht, hpt⟩ := hall i x c hx hc
      have htz := rowT_size_mem (num d.kix :: d.prts) t (List.mem_cons_of_mem _ (List.mem_of_getElem? ht))
      refine ⟨T, _, rfl, SqT.of eT, rfl, _, _, rfl, _, _, rfl, rfl, ?_⟩
      refine ⟨_, rfl, .inl ⟨rfl, _, SqL.of (sT _ _ hL5)⟩, _, rfl, _, rfl, x, c, t, rfl, hpt.same (s5.trans sT), by omega, fun b H7 s7 hb => ?_⟩
      have hL7 := s7 _ _ (sT _ _ hL5)
      have hul := Paired.length hus
      rw [List.length_cons, List.length_take] at hul
      refine ⟨L, _, _, rfl, rfl, hL7, by omega, ?_⟩
      have kt : KT H7 (upd H7 L (.lst (us ++ [V.ref b]))) := KT.lst hL7
      refine ⟨_, _, us ++ [V.ref b], rfl, fun z o' hz' => ?_, sqt_kt kt (sqt_kt (KT.of (sT.trans s7)) hq5), upd_same, ?_⟩
      · rw [upd_ne (ne_of_none hz' nLH)]
        exact s7 _ _ (sT _ _ (s5 _ _ hz'))
      · have hip := (List.getElem?_eq_some_iff.mp ht).1
        have e9 : num d.kix :: d.prts.take (i + 1) = (num d.kix :: d.prts.take i) ++ [t] := by
          rw [List.take_succ_eq_append_getElem hip, (List.getElem?_eq_some_iff.mp ht).2]
          rfl
        rw [e9]
        exact paired_app (ths_kt kt (ths_kt (KT.of (sT.trans s7)) hus)) (.cons ⟨b, rfl, hb.kt kt⟩ .nil)
    · rintro σ H5 ⟨x3, x4, us, rfl, s5, hq5, hL5, hus⟩
      rw [← hpl, List.take_length] at hus
      exact ⟨_, rfl, L, us, _, rfl, hL5, hus, hz, fun b H6 s6 hb => k b H6 (s5.trans s6) hb⟩
theorem ok_rowC {f fD : Addr} {fd fdD : FuncData} {n : Nat} (F : Fun K "row_code" "row_code" sRowC f fd) (DRo : Def P w K mg base "row" 4 ["things"] (spRow C)) (GD : FnOk P w K mg base CX0 (3 * n + 7) fD fdD ["deed"] (spDeedC K C (n + 1))) (mgd : mg "deed_code" = some (.ref fD)) (kd : PySem.W.keepIn K (.ref fD) = true) (bd : Binds K fdD ["deed"] []) : FnOk P w K mg base CX0 (3 * (n + 1) + 5) f fd ["deeds"] (spRowC K C (n + 1)) := by
  refine F.ok scRc (fun vs H Q E h => ?_) (fun cdv A outer s H vs Q E hr h => ?_)
  · obtain ⟨q, r, rfl, _⟩ := h
    rfl
  · obtain ⟨q, r, rfl, hq, hdp, hz, k⟩ := h
    have hr4 : Room 4 _ := hr.mono (by omega)
    refine ⟨_, pss_one (ps_ret (pe_def DRo hr4 rfl (pa_cons (pe_lc (own := [("deed", 1)]) (g := gName 1) (tt := tYes) rfl scRc.nd (pi_tup (pv 0)) (blkOk_by (N := ["deeds", "deed"]) (sc := defScope sRowC) (by decide +kernel)) (fun _ _ _ _ _ => (pg_name (i := 1) scRc.nd rfl (Or.inl rfl))) (fun _ _ _ _ _ => pts_nil) (fun _ _ _ _ _ => (pe_call GD hr rfl mgd kd bd .nil pass0 (pa_cons (pv 1) pa_nil)))) pa_nil))), ?_⟩
    have hsl := sizeLine_eq
    obtain ⟨vs, hqv, hvs⟩ := id hq
    have hvl := DsAt.length r vs hvs
    rw [codeR_row] at hz k
    have hrl := rowT_len (r.map Dd.code)
    rw [List.length_map] at hrl
    refine ⟨_, rfl, q, rfl, ⟨_, hqv⟩, fun D nD => lc_tup (K := K) (a := q) (xs := vs) (fun i H' => Same H H' ∧ ∃ us, H' D = some (.lst us) ∧ Paired (ThV C H') us ((r.map Dd.code).take i)) ⟨Same.new nD, [], upd_same, by rw [List.take_zero]; exact .nil⟩ (fun i H' _ z => sqt_kt (KT.of z.1) hqv) ?_ ?_⟩
    · rintro i v H1 hv ⟨s1, us, hD, hus⟩
      obtain ⟨d, hd, hdv⟩ := DsAt.get r vs i v hvs hv
      have hdm := List.mem_of_getElem? hd
      have hdd := deepR_mem r d hdm
      have hdz := rowT_size_mem (r.map Dd.code) d.code (List.mem_map.mpr ⟨d, hdm, rfl⟩)
      have hul := Paired.length hus
      rw [List.length_take, List.length_map] at hul
      refine ⟨rfl, lc_yes ?_⟩
      refine ⟨_, rfl, v, d, rfl, DAt_kt (KT.of s1) d v hdv, by omega, by omega, fun a H2 s2 ha => ?_⟩
      have hD2 := s2 _ _ hD
      have kt : KT H2 (upd H2 D (.lst (us ++ [V.ref a]))) := KT.lst hD2
      refine ⟨us, hD2, by omega, (s1.trans s2).set nD, us ++ [V.ref a], upd_same, ?_⟩
      have hir := (List.getElem?_eq_some_iff.mp hd).1
      have hmm : (r.map Dd.code)[i]? = some d.code := by rw [List.getElem?_map, hd]; rfl
      have him := (List.getElem?_eq_some_iff.mp hmm).1
      rw [List.take_succ_eq_append_getElem him, (List.getElem?_eq_some_iff.mp hmm).2]
      exact paired_app (ths_kt kt (ths_kt (KT.of s2) hus)) (.cons ⟨a, rfl, ha.kt kt⟩ .nil)
    · rintro H1 ⟨s1, us, hD, hus⟩
      have e : (r.map Dd.code).take vs.length = r.map Dd.code := by
        rw [hvl]
        exact List.take_of_length_le (by rw [List.length_map]; omega)
      rw [e] at hus
      exact ⟨D, us, _, rfl, hD, hus, hz, fun a H2 s2 ha => k a H2 (s1.trans s2) ha⟩
theorem ok_rowC0 {f : Addr} {fd : FuncData} (F : Fun K "row_code" "row_code" sRowC f fd) : FnOk P w K mg base CX0 (3 * 0 + 5) f fd ["deeds"] (spRowC K C 0) := by
  refine F.ok scRc (fun vs H Q E h => ?_) (fun cdv A outer s H vs Q E hr h => ?_)
  · obtain ⟨q, r, rfl, _⟩ := h
    rfl
  · obtain ⟨q, r, _, _, h, _⟩ := h
    exact absurd h (Nat.not_lt_zero _)
theorem ok_codes {fR fD fQ : Addr} {fdR fdD fdQ : FuncData} (FR : Fun K "row_code" "row_code" sRowC fR fdR) (FD : Fun K "deed_code" "deed_code" sDeedC fD fdD) (FP : Fun K "part_code" "part_code" sPartC fQ fdQ) (ml : mg "list" = none) (G : FrmC K w mg) (Fo : FoK K w mg) (DNu : Def P w K mg base "number" 4 ["n"] (spNumber C)) (DRo : Def P w K mg base "row" 4 ["things"] (spRow C))
    (mgr : mg "row_code" = some (.ref fR)) (br : Binds K fdR ["deeds"] []) (mgd : mg "deed_code" = some (.ref fD)) (bd : Binds K fdD ["deed"] []) (mgp : mg "part_code" = some (.ref fQ)) (bp : Binds K fdQ ["part", "sign"] []) : ∀ n, FnOk P w K mg base CX0 (3 * n + 5) fR fdR ["deeds"] (spRowC K C n)
  | 0 => ok_rowC0 FR
  | n + 1 => ok_rowC FR DRo (ok_deedC FD ml G Fo DNu DRo (ok_partC FP DNu (ok_codes FR FD FP ml G Fo DNu DRo mgr br mgd bd mgp bp n) mgr FR.kp br) mgp FP.kp bp) mgd FD.kp bd
theorem ok_codeOf {f : Addr} {fd : FuncData} (F : Fun K "code_of" "code_of" sCodeOf f fd) (TP : TxtP K mg CP) (DRc : Def P w K mg base "row_code" 32 ["deeds"] (spRowC K C 9)) : FnOk P w K mg base CX0 33 f fd ["program"] (spCodeOf K C CP) := by
  refine F.ok scCo (fun vs H Q E h => ?_) (fun cdv A outer s H vs Q E hr h => ?_)
  · obtain ⟨a, r, rfl, _⟩ := h
    rfl
  · obtain ⟨a, r, rfl, ha, hz, k⟩ := h
    refine ⟨_, pss_one (ps_ret (pe_def DRc hr rfl (pa_cons (pe_fld (pv 0) rfl) pa_nil))), ?_⟩
    obtain ⟨dx, q, pl, ys, h1, h2, _, _⟩ := ha.ex
    have := ha.dp
    exact ⟨_, rfl, _, _, _, _, _, rfl, h1, TP.cl, TP.nD, pf_deeds _ _, q, r, rfl, h2, by omega, hz, k⟩
end
end Js

set_option Elab.async false
set_option linter.all false
set_option maxRecDepth 100000
set_option maxHeartbeats 2000000
namespace Js
open PySem L2
theorem nat_log (n : Nat) (h : n ≤ 1000000) : ((n : Nat) : Int).natAbs.log2 < 1920 := by
  rw [Int.natAbs_natCast]
  by_cases h0 : n = 0
  · subst h0; decide
  · exact Nat.lt_of_lt_of_le ((Nat.log2_lt h0).mpr (show n < 2 ^ 20 by omega)) (by decide)
/-! ### isinstance of a caught one -/
section
variable {X : Cx} {a D : Addr} {oe : Obj} {pn : List (Addr × Obj)} {d : Option Addr} {cls : Value}
def rIsX (K : PySem.W.Frag) (D a : Addr) (cls : Value) (d : Option Addr) : List V → Hp → VK → Prop := fun xs H Q => ∃ (c : V) (cv : Value) (b : Bool) (dd : Addr) (fs : List (Str × V)), xs = [.ref a, c] ∧ ClsV c cv ∧ cls = .ref D ∧ d = some dd ∧ H dd = some (.xd fs) ∧ PySem.W.kitOne K (.ref D) cv = some b ∧ Q (.bl b) H
theorem inst_x {s : Shared} {H : Hp} {dd : Addr} {fs : List (Str × V)} {pins : List (Addr × Obj)} {σ : St} (I : Inv (X.suite a ((a, oe) :: pn)) pins σ H s) (hz : Zc (.ref D) d oe) (hf : ∃ vs, oe.data = .fields vs) (e1 : d = some dd) (e2 : H dd = some (.xd fs)) : ∃ od, PySem.W.InstAt s.heap a oe D (some od) := by
  subst e1
  obtain ⟨hget, _⟩ := I.pin (a, oe) (List.mem_append_left _ List.mem_cons_self)
  obtain ⟨vs, hd⟩ := hf
  have hx : ObjOk X.prog X.w H s.heap dd (.xd fs) := I.hok dd _ e2
  obtain ⟨mA, hns, hr⟩ := hx
  obtain ⟨od, ho, hl⟩ := lookIn_ns hns
  exact ⟨od, hget, hz.1, by unfold PySem.W.notCls; rw [hd] <;> rfl, by rw [hz.2]; exact ho⟩
/-- what the class says, so that isinstance asks its instances rightly -/
structure XcC (K : PySem.W.Frag) (D : Addr) : Prop where
  hc : (PySem.W.clsIn K D).isSome = true
  hg : PySem.W.findIn K (.ref D) "__getattribute__" = some (some (.builtin "BaseException.__getattribute__"))
  hk : PySem.W.findIn K (.ref D) "__getattr__" = some none
  hs : PySem.W.subIn K (.ref D) (.type "BaseException") = some true
  ha : PySem.W.findIn K (.ref D) "__class__" = some (some (.builtin "object.__class__"))
  hn : PySem.W.specialIn K (.builtin "object.__class__") "__get__" = some (some (.builtin "getset_descriptor.__get__"))
  ht : PySem.W.takesIn K (.builtin "object.__class__") = some true
  hm : PySem.W.mroIn K D (.type "object") = some true
theorem call_isX (C : XcC X.K D) (hz : Zc cls d oe) (hf : ∃ vs, oe.data = .fields vs) : CallR (X.suite a ((a, oe) :: pn)) (.builtin "isinstance") (rIsX X.K D a cls d) := by
  intro pins s σ H xs us Q I r h
  obtain ⟨c, cv, b, dd, fs, rfl, hcv, rfl, e1, e2, e, q⟩ := h
  obtain ⟨od, J⟩ := inst_x I hz hf e1 e2
  cases r with
  | cons rx rr =>
    cases rr with
    | cons rt rr =>
      cases rr
      cases rx
      have ec := hcv.eq rt
      subst ec
      exact PySem.W.kia_one (PySem.W.kitx_exc C.hc C.hg C.hk C.hs C.ha C.hn C.ht C.hm) I.kIn J e (fun z => nomatch z) fun tk => ⟨.bl b, H, I.kept (t' := tk) fun _ _ z => z, rfl, q⟩
/-- isinstance(e, (C1, ..)) -/
def rIsXt (K : PySem.W.Frag) (D a : Addr) (cls : Value) (d : Option Addr) : List V → Hp → VK → Prop := fun xs H Q => ∃ (tp : Addr) (cs : List V) (cvs : List Value) (b : Bool) (dd : Addr) (fs : List (Str × V)), xs = [.ref a, .ref tp] ∧ H tp = some (.tup cs) ∧ Paired ClsV cs cvs ∧ cls = .ref D ∧ d = some dd ∧ H dd = some (.xd fs) ∧ PySem.W.kitAny K (.ref D) cvs = some b ∧ Q (.bl b) H
theorem call_isXt (C : XcC X.K D) (hz : Zc cls d oe) (hf : ∃ vs, oe.data = .fields vs) : CallR (X.suite a ((a, oe) :: pn)) (.builtin "isinstance") (rIsXt X.K D a cls d) := by
  intro pins s σ H xs us Q I r h
  obtain ⟨tp, cs, cvs, b, dd, fs, rfl, ht, hcv, rfl, e1, e2, e, q⟩ := h
  obtain ⟨od, J⟩ := inst_x I hz hf e1 e2
  cases r with
  | cons rx rr =>
    cases rr with
    | cons rt rr =>
      cases rr
      cases rx
      cases rt
      obtain ⟨its, rv, ⟨o, ho, hcl, n, hdt⟩, _⟩ := I.tuple (SqT.of ht)
      have ev := ClsV.all hcv rv
      subst ev
      obtain ⟨oc, od', oda, osl⟩ := o
      dsimp only at hcl hdt
      subst hcl hdt
      exact PySem.W.kia_tup (PySem.W.kitx_exc C.hc C.hg C.hk C.hs C.ha C.hn C.ht C.hm) I.kIn J ho e (fun z => nomatch z) fun tk => ⟨.bl b, H, I.kept (t' := tk) fun _ _ z => z, rfl, q⟩
end
end Js

set_option Elab.async false
set_option linter.all false
set_option maxRecDepth 100000
set_option maxHeartbeats 4000000
/-! own exception classes over any built-in one -/
namespace JsGx
open PySem PySem.W PyProof.Rows PySem.HandSPX Builtin Builtin.ObjectAttr
section
variable {prog : Program} {w : World} {A : Around} {E : Value → Shared → Prop}
variable {h0 : Heap} {gs : Array GenState} {dr : Drawn} {tt : Nat} {os : OsState} {K : W.Frag}
/-- the first field of an exception without a dict -/
theorem own_first {nm : Str} {tk : Tok} {v : Value} {x C : Addr} {fv : Array Value} {cd : ClassData} {b : Bool} {Q : Fin → Shared → Prop}
    (kin : K.In h0) (at_ : h0.get? x = some { cls := .ref C, data := .fields fv }) (hcd : W.clsIn K C = some cd) (hh : cd.hasDict = true)
    (q : ∀ h1 tk1 dx, (∀ c o, c ≠ x → h0.get? c = some o → h1.get? c = some o) → h0.objs.size ≤ dx → dx ≠ x →
      h1.get? x = some { cls := .ref C, dict := some dx, data := .fields fv } → h1.Ns1 dx (fun y => if y = nm then some v else none) → Q (.done (.ret .none)) ⟨h1, gs, dr, tk1, os⟩) :
    wpAny (model prog w) A (storeInOwnDict (.ref x) (.ref C) (.str nm tk) nm v b) Q E ⟨h0, gs, dr, tt, os⟩ := by
  have lc : W.Looks (model prog w) h0 (classData C) cd := W.looks_clsIn kin hcd
  have nx : x ≠ h0.objs.size := Nat.ne_of_lt (Heap.lt_size at_)
  obtain ⟨n1, bs, mro, ns, qn, hd, sn, sb, ab, col, del⟩ := cd
  cases (show hd = true from hh)
  unfold storeInOwnDict ownDictForStores
  repeat first
    | with_reducible refine store_in_new ?_ ?_
    | with_reducible refine wpAny_loadPart_at at_ ?_
    | with_reducible refine lc.at ?_
    | wp_step
  · exact ⟨_, #[], _, (Heap.get?_update_ne _ _ _ _ nx.symm).trans (Heap.get?_push_at rfl rfl), rfl, fun e he => absurd he (by simp), fun _ => rfl⟩
  · intro h1 tk1 hn1 hs1
    have there := Heap.get?_push_of_some { cls := .type "dict", data := .dict #[] } at_
    have kept : ∀ c o, c ≠ x → h0.get? c = some o → h1.get? c = some o := fun c o nc hc =>
      (hs1.2 c (Nat.ne_of_lt (Heap.lt_size hc))).trans ((Heap.get?_update_ne _ _ _ _ nc).trans (Heap.get?_push_of_some _ hc))
    exact q h1 tk1 h0.objs.size kept (Nat.le_refl _) nx.symm ((hs1.2 x nx).trans (Heap.get?_update_self _ there rfl)) hn1
end
end JsGx
namespace Js
open PySem L2 PySem.Spec PyProof.Rows
/-- an own class at C over the built-in exception B -/
structure GexC (K : PySem.W.Frag) (C : Addr) (B nw ini : String) (tl : List Value) : Prop where
  F : ExcBaseFacts B nw ini tl
  SF : StoreFacts B tl "object.__setattr__" "object"
  cls : ∃ nm q N bs bm sn sub ab col dd k0 k1 k2 k3 k5, K.lookup C = some (excClassObj nm q C N bs bm true sn sub ab col dd k0 k1 k2 k3 k5 nw) ∧ ∀ Y : String, bm.contains (.type Y) = tl.contains (.type Y)
  ov : PySem.W.excOver K C tl = true
  st : PySem.W.findIn K (.ref C) "__setattr__" = some (some (.builtin "object.__setattr__"))
  be : PySem.W.subIn K (.ref C) (.type "BaseException") = some true
  ty : PySem.W.typeIn K (.ref C) = some (.type "type")
  kp : PySem.W.keepIn K (.ref C) = true
section
variable {X : Cx} {pins : List (Addr × Obj)} {σ : L2.St} {H : Hp} {s : Shared} {a C : Addr} {f : Str} {y : V} {u : Value} {B nw ini : String} {tl : List Value}
theorem g_first {A : Around} {Q : Unit → Shared → Prop} {E : Value → Shared → Prop} (T : GexC X.K C B nw ini tl) (I : Inv X pins σ H s) (e : H a = some (exo a C none)) (hno : PySem.W.findIn X.K (.ref C) f = some none) (ry : RelV y u)
    (k : ∀ dx s', H dx = none → dx ≠ a → Inv X pins σ (upd (upd H dx (exd dx [(f, y)])) a (exo a C (some dx))) s' → Q () s') : wpAny (model X.prog X.w) A (setAttr (.ref a) f u) Q E s := by
  obtain ⟨nm, q, N, bs, bm, sn, sub, ab, col, dd, k0, k1, k2, k3, k5, hC, _⟩ := T.cls
  obtain ⟨t1, ho⟩ := exo_at I.hok e
  obtain ⟨hp, g, d, t, os⟩ := s
  have IA : PySem.W.InstAt hp a _ C none := ⟨ho, rfl, rfl, trivial⟩
  refine PySem.W.set_plain I.kIn IA T.st ?_
  refine PySem.W.osa_openX (r := none) T.SF I.kIn IA T.ov (by unfold PySem.W.takerIn; rw [hno]; rfl) fun b => ?_
  refine JsGx.own_first I.kIn ho (by unfold PySem.W.clsIn; rw [hC] <;> rfl) rfl fun h1 tk1 dx kept dn dne hx hn => ?_
  have hnd : H dx = none := I.hok.fresh dn
  have off : ∀ {c : Addr}, H c = none → c ≠ a := fun {c} n z => nomatch (z ▸ n).symm.trans e
  have old : ∀ {c : Addr} {o : Obj}, hp.get? c = some o → c ≠ dx := fun {c o} z => Nat.ne_of_lt (Nat.lt_of_lt_of_le (Heap.lt_size z) dn)
  have U : Un X.fs [] H (upd (upd H dx (exd dx [(f, y)])) a (exo a C (some dx))) hp h1 := by
    refine { keep := ?_, slot := ?_, free := ?_, there := ?_, tups := ?_, frzs := ?_, tbls := ?_ }
    · intro c o z n _ _
      exact kept c o (off n) z
    · intro c o z n _ _
      exact ⟨o.slots, kept c o (off n) z⟩
    · intro c o z n _
      rw [upd_ne (off n), upd_ne (old z)]
      exact n
    · intro c o z _
      by_cases hc : c = a
      · exact ⟨_, hc ▸ hx⟩
      · exact ⟨o, kept c o hc z⟩
    · intro c xs z
      rw [upd_ne (at_ne e z exo_tup), upd_ne (ne_of_none z hnd)]
      exact z
    · intro c o v z
      rw [upd_ne (at_ne e z exo_frz), upd_ne (ne_of_none z hnd)]
      exact z
    · intro c ps z
      refine ⟨#[], ?_⟩
      rw [upd_ne (at_ne e z exo_tbl), upd_ne (ne_of_none z hnd), z]
      simp
  refine k dx _ hnd dne (I.un (t' := tk1) U fun c o z => ?_)
  by_cases hc : c = a
  · subst hc
    cases upd_same.symm.trans z
    exact exo_ok hx
  · rw [upd_ne hc] at z
    by_cases hd : c = dx
    · subst hd
      cases upd_same.symm.trans z
      exact exd_ok hn (relO_put (fs := []) ry fun _ => True.intro)
    · rw [upd_ne hd] at z
      refine (I.hok c o z).stay (fun m v hm zz => kept m v ?_ zz) (fun m hm => ?_) (fun m xs hm => ?_)
      · rcases hm with hm | hm
        · exact hm ▸ hc
        · exact at_ne e hm exo_own
      · rw [upd_ne (at_ne e hm exo_own), upd_ne (ne_of_none hm hnd)]
        exact hm
      · rw [upd_ne (at_ne e hm exo_tup), upd_ne (ne_of_none hm hnd)]
        exact hm
/-- B.__init__(self, ..) -/
theorem g_init {A : Around} {E : Value → Shared → Prop} {us : List Value} {Q : Value → Shared → Prop} (T : GexC X.K C B nw ini tl) (I : Inv X pins σ H s) (e : H a = some (exo a C none)) (hl : us.length ≤ sizeLine) (k : ∀ s', Inv X pins σ H s' → Q .none s') :
    wpAny (model X.prog X.w) A (call (.builtin ini) (.ref a :: us)) Q E s := by
  obtain ⟨nm, q, N, bs, bm, sn, sub, ab, col, dd, k0, k1, k2, k3, k5, hC, hT⟩ := T.cls
  obtain ⟨t1, ho⟩ := exo_at I.hok e
  obtain ⟨hp, g, d, t, os⟩ := s
  refine wpAny_call (PySem.HandSPX.init_base T.F hT (I.kIn _ _ hC) ho hl fun h1 t2 kept hx => k _ ?_)
  have eu : upd H a (exo a C none) = H := funext fun c => by
    by_cases hc : c = a
    · rw [hc, upd_same, e]
    · exact upd_ne hc
  exact eu ▸ I.write (t' := t) (x := a) (e := a) (o := exo a C none) (by rw [e]; exact True.intro) (.inl rfl) kept ⟨_, hx⟩ (exo_ok hx)
end
/-! the rules -/
/-- B.__init__(self, ..), by its signs -/
def tGi (K : PySem.W.Frag) (B nw ini : String) (tl : List Value) (ta : TA) : TE := fun σ H Q => ta σ H fun vs H1 => ∃ (a C : Addr) (r : List V), vs = .ref a :: r ∧ r.length ≤ 1000 ∧ GexC K C B nw ini tl ∧ H1 a = some (exo a C none) ∧ Q .non H1
/-- self.f = e, nothing stored as yet -/
def tGs (K : PySem.W.Frag) (B nw ini : String) (tl : List Value) (f : Str) (to te : TE) : TS := fun D σ H => te σ H fun y H1 => to σ H1 fun x H2 => ∃ a C : Addr, x = .ref a ∧ GexC K C B nw ini tl ∧ PySem.W.findIn K (.ref C) f = some none ∧ H2 a = some (exo a C none) ∧
  ∀ dx, H2 dx = none → dx ≠ a → D.nx σ (upd (upd H2 dx (exd dx [(f, y)])) a (exo a C (some dx)))
section
variable {X : Cx} {o e : Expr} {es : List Expr} {to te : TE} {ta : TA} {f : Str} {p p' p1 p2 pos : Pos} {B nw ini : String} {tl : List Value}
theorem ps_gst (ho : PE X o to) (he : PE X e te) (hs : swapsWith e (some (.Attribute o f p')) pos.line X.env = pure false := by rfl) : PS X (.Assign [.Attribute o f p'] e pos) (tGs X.K B nw ini tl f to te) := by
  constructor
  intro pins s σ H D I h
  refine plainObj_wpAny_Assign_Attribute (thn (he.run pins s σ H _ I h) ?_) hs
  rintro v s1 ⟨y, H1, I1, r1, q1⟩
  refine thn (ho.run pins s1 σ H1 _ I1 q1) ?_
  rintro u s2 ⟨x, H2, I2, r2, a, C, rfl, T, hno, ea, q⟩
  cases (show u = Value.ref a from r2)
  exact g_first T I2 ea hno r1 fun dx s' n ne J => ⟨σ, _, J, q dx n ne⟩
theorem typ_OE : typeOf (.type "OverflowError") = pure (.type "type") := by kernel_rfl
theorem pe_oeinit {pl : Sem Bool} (hg : Gl X "OverflowError") (hm : X.mg "OverflowError" = none) (vV : PySem.W.findCls X.K (.type "OverflowError") (.type "type") "__init__" = some (.val (.builtin "OverflowError.__init__"))) (ha : PA X (e :: es) ta)
    (hc : eval (.Call (.Attribute (.Name "OverflowError" p1) "__init__" p2) (e :: es) [] pos) X.env = (do
      let ov ← eval (.Name "OverflowError" p1) X.env; standAt p2.atName
      let (f, first) ← holding [ov] (getMethod ov "__init__" pl); callWith pos f first (backTo pos (starEach (e :: es) X.env)) (backToKw pos (keywordEach [] X.env))) := by rfl)
    (he : starEach (e :: es) X.env = (false, eval e X.env) :: starEach es X.env := by rfl) (hpl : (backTo pos (starEach es X.env)).any (·.1) = false := by rfl) :
    PE X (.Call (.Attribute (.Name "OverflowError" p1) "__init__" p2) (e :: es) [] pos) (tGi X.K "OverflowError" nw "OverflowError.__init__" tl ta) := by
  constructor
  intro pins s σ H Q I h
  refine PySem.W.methodCall_KW (ld_blt I hg hm PyProof.Rows.Boot.«OverflowError» ?_ (by decide) (by decide)) hc
  obtain ⟨m, fr⟩ := I.fr
  refine PySem.W.method_type fr I.ok.mod.kin typ_OE (by decide +kernel) vV (by decide +kernel) ?_
  show wpAny _ _ (callWith pos (Value.builtin "OverflowError.__init__") [] (backTo pos (starEach (e :: es) X.env)) []) _ _ _
  refine PyProof.Rows.callWith_method1 (thn (ha.run pos pins _ σ H _ (I.tok _) h) ?_) he hpl
  rintro us s1 ⟨vs, H1, I1, r1, a, C, r, rfl, hl, T, ea, q⟩
  cases r1 with
  | @cons _ u0 _ ur ra rr =>
    cases (show u0 = Value.ref a from ra)
    refine g_init T I1 ea ?_ fun s' J => ⟨.non, H1, J, rfl, q⟩
    have e1 := Paired.length rr
    have e2 := sizeLine_eq
    omega
/-- C(e, ..) is made, to be raised -/
theorem pmk_gex {CX : CXT} {x : Str} {C fI : Addr} {k : Nat} {fd : FuncData} {ps : List Str} {sp : Sp} {ds : List Value} {dvs : List V} (T : GexC X.K C B nw ini tl) (iC : PySem.W.findIn X.K (.ref C) "__init__" = some (some (.ref fI))) (tI : PySem.W.typeIn X.K (.ref fI) = some (.type "function"))
    (G : FnOk X.prog X.w X.K X.mg X.base CX k fI fd ps sp) (hr : Room (k + 1) X.A) (hb : Binds X.K fd ps ds) (hd : Vals dvs ds) (hx : Passes CX X (fun _ _ _ => False)) (hg : Gl X x) (hm : X.mg x = some (.ref C)) (ha : PA X (e :: es) ta)
    (hdb : (x == ("__debug__" : Str)) = false := by decide) (he : starEach (e :: es) X.env = (false, eval e X.env) :: starEach es X.env := by rfl) (hpl : (backTo pos (starEach es X.env)).any (·.1) = false := by rfl) :
    PMk X (.Call (.Name x p) (e :: es) [] pos) (tMkO C sp dvs ta) := by
  obtain ⟨nm, q, N, bs, bm, sn, sub, ab, col, dd, k0, k1, k2, k3, k5, hC, hT⟩ := T.cls
  intro pins s σ H Q I h
  refine wpAny_Call_Name_kw (ld_glob I hg hm ?_ hdb)
  refine PySem.W.callWith_K (h₀ := X.base) I.ok.mod.kin T.kp (thn (ha.run pos pins s σ H _ I h) ?_) he hpl
  rintro us ⟨hp, g, dr, tk, os⟩ ⟨vs, H1, I1, r1, hz, q1⟩
  refine ⟨I1.kIn, ?_⟩
  show wpAny _ _ (call (.ref C) us) _ _ _
  have up := Nat.le_succ hp.objs.size
  have hq := q1 (hp.objs.size + 1) (I1.hok.fresh up)
  have kk : ∀ c z, hp.get? c = some z → ((hp.push (PySem.W.kdv_tup us)).push (PySem.HandSPX.excO C hp.objs.size)).get? c = some z := fun c z h => Heap.get?_push_of_some _ (Heap.get?_push_of_some _ h)
  have at1 : ((hp.push (PySem.W.kdv_tup us)).push (PySem.HandSPX.excO C hp.objs.size)).get? (hp.objs.size + 1) = some (PySem.HandSPX.excO C hp.objs.size) := by heap_get
  have I2 : Inv X pins σ (upd H1 (hp.objs.size + 1) (exo (hp.objs.size + 1) C none)) ⟨(hp.push (PySem.W.kdv_tup us)).push (PySem.HandSPX.excO C hp.objs.size), g, dr, tk, os⟩ :=
    I1.laid (t' := tk) kk up (exo_ok at1)
  have r2 : Vals (V.ref (hp.objs.size + 1) :: (vs ++ dvs)) (Value.ref (hp.objs.size + 1) :: (us ++ ds)) := .cons rfl (r1.append hd)
  have hl : (Value.ref (hp.objs.size + 1) :: us ++ ds).length = ps.length := (r2.length.symm.trans (G.len _ _ _ _ hq))
  have hus : us.length ≤ sizeLine := by
    have e1 := Paired.length r1
    have e2 := sizeLine_eq
    omega
  refine wpAny_call (PySem.HandSPX.call_own T.F hT (I1.kIn _ _ hC) (PySem.W.looks_findIn I1.kIn iC) (fun self => PySem.W.bind_fn I1.kIn self tI) hus ?_)
  refine codeAny_mono (G.run _ X.stack _ _ ⟨Value.ref (hp.objs.size + 1) :: us, []⟩ (Value.ref (hp.objs.size + 1) :: (us ++ ds)) _ _ (fun _ _ _ => False) (hr.make C us []) (I2.env0.make C us []) (hb _ (Value.ref (hp.objs.size + 1) :: us) I2.kIn hl) r2 hq) ?_
  rintro (er | fl) s' hq'
  · exact hx pins σ _ _ er s' I2 hq'
  · cases fl with
    | ret u =>
      obtain ⟨v, H2, os2, bare2, un2, hok2, rv, rfl, d, fs, ea, ed, hd1, q2⟩ := hq'
      obtain ⟨h2, g2, d2, t2, os'⟩ := s'
      exact ⟨rv, mk_end (raises_own T.be T.ty) I1 up kk un2 hok2 os2 bare2 ea ed hd1 q2⟩
    | next => exact hq'.elim
    | brk => exact hq'.elim
    | cont => exact hq'.elim
end
end Js

set_option Elab.async false
set_option linter.all false
set_option maxRecDepth 100000
set_option maxHeartbeats 2000000
namespace Js
open PySem L2
/-! ### TooGreat -/
abbrev sTg : Stmt := inClass (top 5) 0
abbrev tlO : List Value := [.type "OverflowError", .type "ArithmeticError", .type "Exception", .type "BaseException", .type "object"]
abbrev GexO (K : PySem.W.Frag) (N : Addr) : Prop := GexC K N "OverflowError" "OverflowError.__new__" "OverflowError.__init__" tlO
structure TgC (K : PySem.W.Frag) (mg : Str → Option Value) (N : Addr) : Prop where
  mgN : mg "TooGreat" = some (.ref N)
  O : GexO K N
  bd : PySem.W.findIn K (.ref N) "bound" = some none
  mOE : mg "OverflowError" = none
  vV : PySem.W.findCls K (.type "OverflowError") (.type "type") "__init__" = some (.val (.builtin "OverflowError.__init__"))
def spTg (K : PySem.W.Frag) : Sp := fun vs H Q _ => ∃ (a N : Addr) (n : Nat), vs = [.ref a, .int (n : Nat)] ∧ n ≤ 1000000 ∧ GexO K N ∧ PySem.W.findIn K (.ref N) "bound" = some none ∧ H a = some (exo a N none) ∧
  ∀ dx, H dx = none → dx ≠ a → Q .non (upd (upd H dx (exd dx [("bound", .int (n : Nat))])) a (exo a N (some dx)))
section
variable {P : Program} {w : World} {K : PySem.W.Frag} {mg : Str → Option Value} {base : Heap} {N C : Addr}
theorem scTg : FnScope ["self", "bound"] ["self", "bound"] (defScope sTg) := ⟨rfl, rfl, rfl, by decide +kernel, rfl, by decide +kernel, by decide +kernel⟩
theorem ok_tg {f : Addr} {fd : FuncData} (F : Fun K "__init__" "TooGreat.__init__" sTg f fd) (T : TgC K mg N) : FnOk P w K mg base CX0 1 f fd ["self", "bound"] (spTg K) := by
  refine F.ok scTg (fun vs H Q E h => ?_) (fun cdv A outer s H vs Q E hr h => ?_)
  · obtain ⟨a, N, n, rfl, _⟩ := h
    rfl
  · obtain ⟨a, N, n, rfl, hn, hO, hno, ha, k⟩ := h
    refine ⟨_, pss_cons (ps_expr (pe_oeinit (nw := "OverflowError.__new__") (tl := tlO) rfl T.mOE T.vV (pa_cons (pv 0) (pa_cons (pe_joined (.cons pe_str (.cons (pe_fmt (pv 1)) .nil))) pa_nil)))) (pss_one (ps_gst (B := "OverflowError") (nw := "OverflowError.__new__") (ini := "OverflowError.__init__") (tl := tlO) (pv 0) (pv 1))), ?_⟩
    have hlg := nat_log n hn
    have hl := PyProof.Rows.int_text_len_1921 hlg
    have hs := sizeLine_eq
    refine ⟨_, rfl, _, rfl, by decide +kernel, _, rfl, .inr ⟨_, rfl, hlg, _, rfl, ?_, ?_⟩⟩
    · rw [PySem.Str.length_append]
      have e : (Str.empty ++ ("greater than " : Str)).length = 13 := by decide +kernel
      omega
    · refine ⟨a, N, _, rfl, by simp, hO, ha, ?_⟩
      exact ⟨_, rfl, _, rfl, a, N, rfl, hO, hno, ha, fun dx h1 h2 => k dx h1 h2⟩
/-- TooGreat(n) is made -/
theorem raise_tg {H1 : Hp} {n : Nat} {Q : XK} (hO : GexO K N) (hno : PySem.W.findIn K (.ref N) "bound" = some none) (hn : n ≤ 1000000)
    (q : ∀ d H', Same H1 H' → H' d = some (.xd [("bound", .int (n : Nat))]) → Q (.ref N) (some d) H') :
    ∀ a, H1 a = none → spTg K [.ref a, .int (n : Nat)] (upd H1 a (exo a N none)) (fun v H2 => v = .non ∧ ∃ (d : Addr) (fs : List (Str × V)), H2 a = some (exo a N (some d)) ∧ H2 d = some (exd d fs) ∧ H1 d = none ∧ Q (.ref N) (some d) (upd (del H2 a) d (.xd fs))) (fun _ _ _ => False) := by
  intro a ha
  refine ⟨a, N, n, rfl, hn, hO, hno, upd_same, fun dx hd ne => ⟨rfl, dx, _, upd_same, (upd_ne ne).trans upd_same, ?_, q dx _ ?_ upd_same⟩⟩
  · rw [upd_ne ne] at hd
    exact hd
  · rw [upd_ne ne] at hd
    intro b o h
    have e1 := ne_of_none h hd
    have e2 := ne_of_none h ha
    rw [upd_ne e1, del_ne e2, upd_ne e2, upd_ne e1, upd_ne e2]
    exact h
/-- the class TooGreat and its __init__ -/
structure TgM (P : Program) (w : World) (K : PySem.W.Frag) (mg : Str → Option Value) (base : Heap) (N fN : Addr) (fdN : FuncData) : Prop where
  T : TgC K mg N
  iN : PySem.W.findIn K (.ref N) "__init__" = some (some (.ref fN))
  tN : PySem.W.typeIn K (.ref fN) = some (.type "function")
  ok : FnOk P w K mg base CX0 1 fN fdN ["self", "bound"] (spTg K)
  bN : Binds K fdN ["self", "bound"] []
/-- Thing.__init__, whatever the size -/
def spInitX (C N : Addr) : Sp := fun vs H Q E => ∃ (p dx : Addr) (x y : V) (n : Nat), vs = [.ref p, x, y] ∧ H p = some (.ins C dx []) ∧ PairsOf C H x y n ∧ n ≤ 100000 ∧ (n ≤ 4000 → Q .non (upd H p (.ins C dx (tf x y (n : Nat))))) ∧
  (4000 < n → ∀ d H', Same H H' → H' d = some (.xd [("bound", .int ((4000 : Nat) : Int))]) → E (.ref N) (some d) H')
theorem ok_initX {f fP fN : Addr} {fd fdP fdN : FuncData} (F : FunD K "__init__" "Thing.__init__" (defArgs sInit) (defBody sInit) (defScope sInit) [.non, .non] [] f fd) (T : Txt K mg C) (AP : At K mg "pairs_in" sPairs ["first", "second"] fP fdP) (M : TgM P w K mg base N fN fdN) :
    FnOk P w K mg base (L2.CX P w) 3 f fd ["self", "first", "second"] (spInitX C N) := by
  have GP : FnOk P w K mg base CX0 1 fP fdP ["first", "second"] (spPairs C) := ok_pairs AP.F T
  obtain ⟨tm, mgM⟩ := T.mgM
  refine F.ok scI (fun vs H Q E h => ?_) (fun cdv A outer s H vs Q E hr h => ?_)
  · obtain ⟨p, dx, x, y, n, rfl, _⟩ := h
    rfl
  · obtain ⟨p, dx, x, y, n, rfl, hp, hxy, hn, k, ke⟩ := h
    have hr1 : Room 1 _ := hr.mono (by decide)
    refine ⟨_, pss_cons (ps_set (i := 3) scI.nd rfl (Or.inl rfl) (pe_call GP hr1 rfl AP.mgf AP.F.kp AP.b .nil pass0 (pa_cons (pv 1) (pa_cons (pv 2) pa_nil))))
      (pss_cons (ps_if (pt_cmpR op_gt (pv 3) (pe_glob (v := .int 4000) rfl mgM ⟨_, rfl⟩) (nomark _)) (pss_one (ps_raise rfl (takes_of rfl rfl rfl rfl) (pmk_gex M.T.O M.iN M.tN M.ok hr M.bN .nil pass0 rfl M.T.mgN (pa_cons (pe_glob (v := .int ((4000 : Nat) : Int)) rfl mgM ⟨_, rfl⟩) pa_nil)))) pss_nil)
      (pss_cons (ps_fld (pv 0) (pv 1) rfl) (pss_cons (ps_fld (pv 0) (pv 2) rfl) (pss_one (ps_fld (pv 0) (pv 3) rfl))))), ?_⟩
    refine ⟨_, rfl, _, rfl, x, y, n, rfl, hxy, ?_⟩
    refine ⟨_, rfl, _, _, rfl, rfl, _, rfl, ?_⟩
    by_cases h4 : n ≤ 4000
    · have ed : decide ((4000 : Int) < (n : Nat)) = false := decide_eq_false (by omega)
      rw [ed]
      refine iteF ?_
      refine ⟨_, rfl, _, rfl, p, C, dx, [], rfl, hp, T.cl, T.nF, (by show 0 < 1000; decide), ?_⟩
      refine ⟨_, rfl, _, rfl, p, C, dx, _, rfl, upd_same, T.cl, T.nS, Nat.lt_of_le_of_lt (length_putF _ _ _) (by show 0 + 1 < 1000; decide), ?_⟩
      refine ⟨_, rfl, _, rfl, p, C, dx, _, rfl, upd_same, T.cl, T.nZ, ?_, ?_⟩
      · have h1 := length_putF "first" x []
        have h2 := length_putF "second" y (putF "first" x [])
        simp only [List.length_nil] at h1
        omega
      · show Q .non (upd (upd (upd H p _) p _) p (.ins C dx (tf x y (n : Nat))))
        rw [upd_upd, upd_upd]
        exact k h4
    · have ed : decide ((4000 : Int) < (n : Nat)) = true := decide_eq_true (by omega)
      rw [ed]
      refine iteT ?_
      exact ⟨by simp, raise_tg M.T.O M.T.bd (by decide) fun d H' sH hd => ke (by omega) d H' sH hd⟩
end
/-! ### made, at given slots -/
section
open PyProof.Rows
variable {X : Cx} {CX : CXT} {C f : Addr} {k : Nat} {fd : FuncData} {ps : List Str} {sp : Sp} {ds us : List Value} {dvs vs : List V} {E : XK} {pins : List (Addr × Obj)} {σ : L2.St} {H : Hp} {s : Shared} {Q : VK}
/-- as run_make, what may be let out told at these slots alone -/
theorem make_at (M : Mk X.K C f) (G : FnOk X.prog X.w X.K X.mg X.base CX k f fd ps sp) (hr : Room (k + 1) X.A) (hb : Binds X.K fd ps ds) (hd : Vals dvs ds) (out : PassesAt CX X σ E) (I : Inv X pins σ H s) (r : Vals vs us)
    (h : ∀ x dx, H x = none → H dx = none → dx ≠ x → sp (.ref x :: (vs ++ dvs)) (upd (upd H dx (.own x)) x (.ins C dx [])) (fun v H2 => v = .non ∧ Q (.ref x) H2) E) : wpAny (model X.prog X.w) X.A (call (.ref C) us) (EP X pins σ Q) X.xe s := by
  have I2 := Inv.made (C := C) I
  have hq := h _ _ (I.hok.fresh (Nat.le_succ _)) (I.hok.fresh (Nat.le_refl _)) (Nat.ne_of_lt (Nat.lt_succ_self s.heap.objs.size))
  have r2 : Vals (V.ref (s.heap.objs.size + 1) :: (vs ++ dvs)) (Value.ref (s.heap.objs.size + 1) :: (us ++ ds)) := .cons rfl (r.append hd)
  have hl : (Value.ref (s.heap.objs.size + 1) :: us ++ ds).length = ps.length := r2.length.symm.trans (G.len _ _ _ _ hq)
  have ran := G.run _ X.stack _ _ ⟨Value.ref (s.heap.objs.size + 1) :: us, []⟩ (Value.ref (s.heap.objs.size + 1) :: (us ++ ds)) _ _ E (hr.make C us []) (I2.env0.make C us []) (hb _ (Value.ref (s.heap.objs.size + 1) :: us) I2.kIn hl) r2 hq
  refine wpAny_call (make_map (f := f) I.kIn M.makes M.init (beq_iff_eq.mp M.fn) (codeAny_mono ran ?_))
  rintro (er | fl) s' z
  · exact out pins _ _ er s' I2 z
  · cases fl with
    | ret u =>
      obtain ⟨v, H3, I3, rv, rfl, q3⟩ := I2.after z
      exact ⟨rv, ⟨V.ref (s.heap.objs.size + 1), H3, I3, rfl, q3⟩⟩
    | next => exact z.elim
    | brk => exact z.elim
    | cont => exact z.elim
end
end Js

set_option Elab.async false
set_option linter.all false
set_option maxRecDepth 100000
set_option maxHeartbeats 2000000
namespace Js
open PySem L2
/-- a Thing of any size made, or refused -/
structure MakerX (P : Program) (w : World) (K : PySem.W.Frag) (mg : Str → Option Value) (base : Heap) (C fI N : Addr) (fdI : FuncData) : Prop where
  M : Mk K C fI
  G : FnOk P w K mg base (L2.CX P w) 3 fI fdI ["self", "first", "second"] (spInitX C N)
  mgC : mg "Thing" = some (.ref C)
  b2 : Binds K fdI ["self", "first", "second"] []
def tTX (C N : Addr) (E : L2.St → XK) (t : TA) : TE := fun σ H Q => t σ H fun vs H1 => ∃ a b t u, vs = [.ref a, .ref b] ∧ Th C H1 a t ∧ Th C H1 b u ∧ 1 + t.size + u.size ≤ 100000 ∧
  (1 + t.size + u.size ≤ 4000 → ∀ z H', Same H1 H' → H1 z = none → Th C H' z (.pr t u) → Q (.ref z) H') ∧
  (4000 < 1 + t.size + u.size → ∀ d H', Same H1 H' → H' d = some (.xd [("bound", .int ((4000 : Nat) : Int))]) → E σ (.ref N) (some d) H')
theorem mk_prX {C N a b : Addr} {H : Hp} {t u : Tr} {Q : VK} {E : XK} (ha : Th C H a t) (hb : Th C H b u) (hz : 1 + t.size + u.size ≤ 100000)
    (k : 1 + t.size + u.size ≤ 4000 → ∀ x H', Same H H' → H x = none → Th C H' x (.pr t u) → Q (.ref x) H')
    (ke : 4000 < 1 + t.size + u.size → ∀ d H', Same H H' → H' d = some (.xd [("bound", .int ((4000 : Nat) : Int))]) → E (.ref N) (some d) H') :
    ∀ x dx, H x = none → H dx = none → dx ≠ x → spInitX C N (.ref x :: ([.ref a, .ref b] ++ [])) (upd (upd H dx (.own x)) x (.ins C dx [])) (fun v H3 => v = .non ∧ Q (.ref x) H3) E := by
  intro x dx nx ndx ne
  have s0 : Same H (upd (upd H dx (.own x)) x (.ins C dx [])) := (Same.new ndx).trans (Same.new (by rw [upd_ne (Ne.symm ne)]; exact nx))
  refine ⟨x, dx, _, _, 1 + t.size + u.size, rfl, upd_same, .inr ⟨a, b, t, u, rfl, rfl, ha.same s0, hb.same s0, rfl⟩, hz, fun h4 => ⟨rfl, ?_⟩, fun h4 d H' sH hd => ke h4 d H' (s0.trans sH) hd⟩
  rw [upd_upd]
  have s1 : Same H (upd (upd H dx (.own x)) x (.ins C dx (tf (.ref a) (.ref b) ((1 + t.size + u.size : Nat) : Int)))) := (Same.new ndx).trans (Same.new (by rw [upd_ne (Ne.symm ne)]; exact nx))
  exact k h4 x _ s1 nx (.pr upd_same (ha.same s1) (hb.same s1))
section
open PyProof.Rows
variable {X : Cx} {C N fI : Addr} {fdI : FuncData} {p pos : Pos} {e : Expr} {es : List Expr} {t : TA} {E : L2.St → XK}
theorem pe_T2X (mk : MakerX X.prog X.w X.K X.mg X.base C fI N fdI) (hr : Room 4 X.A) (hg : Gl X "Thing") (out : ∀ σ, PassesAt (L2.CX X.prog X.w) X σ (E σ)) (ha : PA X (e :: es) t)
    (he : starEach (e :: es) X.env = (false, eval e X.env) :: starEach es X.env := by rfl) (hpl : (backTo pos (starEach es X.env)).any (·.1) = false := by rfl) : PE X (.Call (.Name "Thing" p) (e :: es) [] pos) (tTX C N E t) := by
  refine ⟨fun pins s σ H Q I h => ?_⟩
  refine wpAny_Call_Name_kw (ld_glob I hg mk.mgC ?_ (by decide))
  refine PySem.W.callWith_K (h₀ := X.base) I.ok.mod.kin mk.M.kp (thn (ha.run pos pins s σ H _ I h) fun us s1 ⟨vs, H1, I1, r, q⟩ => ⟨I1.kIn, ?_⟩) he hpl
  obtain ⟨a, b, t, u, rfl, h1, h2, hz, k, ke⟩ := q
  exact make_at mk.M mk.G hr mk.b2 .nil (out σ) I1 r (mk_prX h1 h2 hz k ke)
end
/-- what the top says of TooGreat and the other refusals -/
structure RfC (K : PySem.W.Frag) (mg : Str → Option Value) (N : Addr) : Prop where
  tg : TgC K mg N
  xf : XfC K N
  xc : XcC K N
  ex : PySem.W.exmOne K (.ref N) (.ref N) = some true
  oe : PySem.W.kitOne K (.ref N) (.type "OverflowError") = some true
  oth : ∃ n1 n2 n3 n4 n5 n6 : Addr, mg "NoName" = some (.ref n1) ∧ mg "NoProgram" = some (.ref n2) ∧ mg "NoRoom" = some (.ref n3) ∧ mg "NoSaying" = some (.ref n4) ∧ mg "NoStep" = some (.ref n5) ∧ mg "NoText" = some (.ref n6) ∧
    PySem.W.kitAny K (.ref N) [.ref n1, .ref n2, .ref n3, .ref n4, .ref n5, .ref n6] = some false
end Js

set_option Elab.async false
set_option linter.all false
set_option maxRecDepth 100000
set_option maxHeartbeats 4000000
/-! refusals whose context is None; objects made while one is handled -/
namespace Js
open PySem L2 PySem.Spec PyProof.Rows
/-- a def, whatever it may let out -/
theorem okC {CX : CXT} {P : Program} {w : World} {K : PySem.W.Frag} {mg : Str → Option Value} {base : Heap} {x ql : Str} {st : Stmt} {f : Addr} {fd : FuncData} {N ps : List Str} {k : Nat} {sp : Sp} (F : Fun K x ql st f fd) (S : FnScope N ps (defScope st)) (hl : ∀ vs H Q E, sp vs H Q E → vs.length = ps.length)
    (hb : ∀ (cdv : Value) (A : Around) (outer : List Env) (s : Shared) (H : Hp) (vs : List V) (Q : VK) (E : XK), Room k (A.deeper (envOfC ql (defScope st) s.heap.objs.size f cdv)) → sp vs H Q E →
      ∃ t, PSs (cxOf CX P w K mg base N ql (defScope st) f cdv A outer s H E) (defBody st) t ∧ t { nx := fun _ H' => Q .non H', rt := Q } (start N vs) H) :
    FnOk P w K mg base CX (k + 1) f fd ps sp := by
  obtain ⟨o1, o2, o3, o4, o5, o6, o7, o8, o9, e, look, code⟩ := F.ex
  subst e
  exact fn_of look code S hl (fun A outer s H vs Q E room h => hb _ A outer s H vs Q E room h)
section
variable {X : Cx} {e : Expr} {es : List Expr} {ta : TA} {p pos : Pos} {B nw ini : String} {tl : List Value}
/-- an own exception over B, its context None -/
theorem pmk_gexN {CX : CXT} {x : Str} {C fI : Addr} {k : Nat} {fd : FuncData} {ps : List Str} {sp : Sp} {ds : List Value} {dvs : List V} (T : GexC X.K C B nw ini tl) (iC : PySem.W.findIn X.K (.ref C) "__init__" = some (some (.ref fI))) (tI : PySem.W.typeIn X.K (.ref fI) = some (.type "function"))
    (G : FnOk X.prog X.w X.K X.mg X.base CX k fI fd ps sp) (hr : Room (k + 1) X.A) (hb : Binds X.K fd ps ds) (hd : Vals dvs ds) (hx : Passes CX X (fun _ _ _ => False)) (hg : Gl X x) (hm : X.mg x = some (.ref C)) (ha : PA X (e :: es) ta)
    (hdb : (x == ("__debug__" : Str)) = false := by decide) (he : starEach (e :: es) X.env = (false, eval e X.env) :: starEach es X.env := by rfl) (hpl : (backTo pos (starEach es X.env)).any (·.1) = false := by rfl) :
    L2N.PMk X (.Call (.Name x p) (e :: es) [] pos) (tMkO C sp dvs ta) := by
  obtain ⟨nm, q, N, bs, bm, sn, sub, ab, col, dd, k0, k1, k2, k3, k5, hC, hT⟩ := T.cls
  intro pins s σ H Q I h
  refine wpAny_Call_Name_kw (ld_glob I hg hm ?_ hdb)
  refine PySem.W.callWith_K (h₀ := X.base) I.ok.mod.kin T.kp (thn (ha.run pos pins s σ H _ I h) ?_) he hpl
  rintro us ⟨hp, g, dr, tk, os⟩ ⟨vs, H1, I1, r1, hz, q1⟩
  refine ⟨I1.kIn, ?_⟩
  show wpAny _ _ (call (.ref C) us) _ _ _
  have up := Nat.le_succ hp.objs.size
  have hq := q1 (hp.objs.size + 1) (I1.hok.fresh up)
  have kk : ∀ c z, hp.get? c = some z → ((hp.push (PySem.W.kdv_tup us)).push (PySem.HandSPX.excO C hp.objs.size)).get? c = some z := fun c z h => Heap.get?_push_of_some _ (Heap.get?_push_of_some _ h)
  have at1 : ((hp.push (PySem.W.kdv_tup us)).push (PySem.HandSPX.excO C hp.objs.size)).get? (hp.objs.size + 1) = some (PySem.HandSPX.excO C hp.objs.size) := by heap_get
  have I2 : Inv X pins σ (upd H1 (hp.objs.size + 1) (exo (hp.objs.size + 1) C none)) ⟨(hp.push (PySem.W.kdv_tup us)).push (PySem.HandSPX.excO C hp.objs.size), g, dr, tk, os⟩ :=
    I1.laid (t' := tk) kk up (exo_ok at1)
  have r2 : Vals (V.ref (hp.objs.size + 1) :: (vs ++ dvs)) (Value.ref (hp.objs.size + 1) :: (us ++ ds)) := .cons rfl (r1.append hd)
  have hl : (Value.ref (hp.objs.size + 1) :: us ++ ds).length = ps.length := (r2.length.symm.trans (G.len _ _ _ _ hq))
  have hus : us.length ≤ sizeLine := by
    have e1 := Paired.length r1
    have e2 := sizeLine_eq
    omega
  refine wpAny_call (PySem.HandSPX.call_own T.F hT (I1.kIn _ _ hC) (PySem.W.looks_findIn I1.kIn iC) (fun self => PySem.W.bind_fn I1.kIn self tI) hus ?_)
  refine codeAny_mono (G.run _ X.stack _ _ ⟨Value.ref (hp.objs.size + 1) :: us, []⟩ (Value.ref (hp.objs.size + 1) :: (us ++ ds)) _ _ (fun _ _ _ => False) (hr.make C us []) (I2.env0.make C us []) (hb _ (Value.ref (hp.objs.size + 1) :: us) I2.kIn hl) r2 hq) ?_
  rintro (er | fl) s' hq'
  · exact hx pins σ _ _ er s' I2 hq'
  · cases fl with
    | ret u =>
      obtain ⟨v, H2, os2, bare2, un2, hok2, rv, rfl, d, fs, ea, ed, hd1, q2⟩ := hq'
      obtain ⟨h2, g2, d2, t2, os'⟩ := s'
      obtain ⟨t0, G2, J, kG, ge, hoe, na⟩ := mk_end0 (d2 := d2) (t2 := t2) I1 up kk un2 hok2 os2 bare2 ea ed hd1
      exact ⟨rv, ⟨_, _, _, ⟨G2, g2, d2, t2, os'⟩, _, .ref C, some d, rfl, J, kG, ge, hoe, ⟨rfl, rfl, fun vs e => by cases e; rfl⟩, rfl, rfl, na, rfl, bare2, raises_own T.be T.ty, q2⟩⟩
    | next => exact hq'.elim
    | brk => exact hq'.elim
    | cont => exact hq'.elim
end
section
variable {P : Program} {w : World} {K : PySem.W.Frag} {mg : Str → Option Value} {base : Heap} {N C : Addr}
theorem ok_initN {f fP fN : Addr} {fd fdP fdN : FuncData} (F : FunD K "__init__" "Thing.__init__" (defArgs sInit) (defBody sInit) (defScope sInit) [.non, .non] [] f fd) (T : Txt K mg C) (AP : At K mg "pairs_in" sPairs ["first", "second"] fP fdP) (M : TgM P w K mg base N fN fdN) :
    FnOk P w K mg base (L2N.CX P w) 3 f fd ["self", "first", "second"] (spInitX C N) := by
  have GP : FnOk P w K mg base CX0 1 fP fdP ["first", "second"] (spPairs C) := ok_pairs AP.F T
  obtain ⟨tm, mgM⟩ := T.mgM
  refine F.ok scI (fun vs H Q E h => ?_) (fun cdv A outer s H vs Q E hr h => ?_)
  · obtain ⟨p, dx, x, y, n, rfl, _⟩ := h
    rfl
  · obtain ⟨p, dx, x, y, n, rfl, hp, hxy, hn, k, ke⟩ := h
    have hr1 : Room 1 _ := hr.mono (by decide)
    refine ⟨_, pss_cons (ps_set (i := 3) scI.nd rfl (Or.inl rfl) (pe_call GP hr1 rfl AP.mgf AP.F.kp AP.b .nil pass0 (pa_cons (pv 1) (pa_cons (pv 2) pa_nil))))
      (pss_cons (ps_if (pt_cmpR op_gt (pv 3) (pe_glob (v := .int 4000) rfl mgM ⟨_, rfl⟩) (nomark _)) (pss_one (L2N.ps_raise rfl (L2N.takes_of rfl rfl rfl rfl) (pmk_gexN M.T.O M.iN M.tN M.ok hr M.bN .nil pass0 rfl M.T.mgN (pa_cons (pe_glob (v := .int ((4000 : Nat) : Int)) rfl mgM ⟨_, rfl⟩) pa_nil)))) pss_nil)
      (pss_cons (ps_fld (pv 0) (pv 1) rfl) (pss_cons (ps_fld (pv 0) (pv 2) rfl) (pss_one (ps_fld (pv 0) (pv 3) rfl))))), ?_⟩
    refine ⟨_, rfl, _, rfl, x, y, n, rfl, hxy, ?_⟩
    refine ⟨_, rfl, _, _, rfl, rfl, _, rfl, ?_⟩
    by_cases h4 : n ≤ 4000
    · have ed : decide ((4000 : Int) < (n : Nat)) = false := decide_eq_false (by omega)
      rw [ed]
      refine iteF ?_
      refine ⟨_, rfl, _, rfl, p, C, dx, [], rfl, hp, T.cl, T.nF, (by show 0 < 1000; decide), ?_⟩
      refine ⟨_, rfl, _, rfl, p, C, dx, _, rfl, upd_same, T.cl, T.nS, Nat.lt_of_le_of_lt (length_putF _ _ _) (by show 0 + 1 < 1000; decide), ?_⟩
      refine ⟨_, rfl, _, rfl, p, C, dx, _, rfl, upd_same, T.cl, T.nZ, ?_, ?_⟩
      · have h1 := length_putF "first" x []
        have h2 := length_putF "second" y (putF "first" x [])
        simp only [List.length_nil] at h1
        omega
      · show Q .non (upd (upd (upd H p _) p _) p (.ins C dx (tf x y (n : Nat))))
        rw [upd_upd, upd_upd]
        exact k h4
    · have ed : decide ((4000 : Int) < (n : Nat)) = true := decide_eq_true (by omega)
      rw [ed]
      refine iteT ?_
      exact ⟨by simp, raise_tg M.T.O M.T.bd (by decide) fun d H' sH hd => ke (by omega) d H' sH hd⟩
end
/-- a Thing of any size made, or refused; the refusal's context is None -/
structure MakerN (P : Program) (w : World) (K : PySem.W.Frag) (mg : Str → Option Value) (base : Heap) (C fI N : Addr) (fdI : FuncData) : Prop where
  M : Mk K C fI
  G : FnOk P w K mg base (L2N.CX P w) 3 fI fdI ["self", "first", "second"] (spInitX C N)
  mgC : mg "Thing" = some (.ref C)
  b2 : Binds K fdI ["self", "first", "second"] []
section
variable {X : Cx} {C N fI : Addr} {fdI : FuncData} {p pos : Pos} {e : Expr} {es : List Expr} {t : TA} {E : L2.St → XK}
theorem pe_T2N (mk : MakerN X.prog X.w X.K X.mg X.base C fI N fdI) (hr : Room 4 X.A) (hg : Gl X "Thing") (out : ∀ σ, PassesAt (L2N.CX X.prog X.w) X σ (E σ)) (ha : PA X (e :: es) t)
    (he : starEach (e :: es) X.env = (false, eval e X.env) :: starEach es X.env := by rfl) (hpl : (backTo pos (starEach es X.env)).any (·.1) = false := by rfl) : PE X (.Call (.Name "Thing" p) (e :: es) [] pos) (tTX C N E t) := by
  refine ⟨fun pins s σ H Q I h => ?_⟩
  refine wpAny_Call_Name_kw (ld_glob I hg mk.mgC ?_ (by decide))
  refine PySem.W.callWith_K (h₀ := X.base) I.ok.mod.kin mk.M.kp (thn (ha.run pos pins s σ H _ I h) fun us s1 ⟨vs, H1, I1, r, q⟩ => ⟨I1.kIn, ?_⟩) he hpl
  obtain ⟨a, b, t, u, rfl, h1, h2, hz, k, ke⟩ := q
  exact make_at mk.M mk.G hr mk.b2 .nil (out σ) I1 r (mk_prX h1 h2 hz k ke)
end
/-! ### made while a refusal is handled -/
open L2H in
section
variable {X : Cx} {C f : Addr} {k : Nat} {fd : FuncData} {ps : List Str} {sp : Sp} {ds : List Value} {dvs : List V} {p pos : Pos} {x : Str} {e : Expr} {es : List Expr} {t : TA}
theorem hot_suite {a : Addr} {oe : Obj} {cls : Value} {d : Option Addr} {pn : List (Addr × Obj)} (hz : L2N.Zn cls d oe) (hf : ∃ vs, oe.data = .fields vs) : HotC (X.suite a ((a, oe) :: pn)) := by
  obtain ⟨vs, hv⟩ := hf
  exact ⟨(a, oe), ⟨rfl, vs, hv, hz.2.2 vs hv⟩, List.mem_cons_self⟩
theorem make_hot {us : List Value} {vs : List V} {pins : List (Addr × Obj)} {σ : L2.St} {H : Hp} {s : Shared} {Q : VK} (M : Mk X.K C f) (G : FnH X.prog X.w X.K X.mg X.base CX0 k f fd ps sp) (hr : RoomH (k + 1) X.A) (hc : HotC X) (hb : Binds X.K fd ps ds) (hd : Vals dvs ds) (I : Inv X pins σ H s) (r : Vals vs us)
    (h : ∀ x dx, H x = none → H dx = none → dx ≠ x → sp (.ref x :: (vs ++ dvs)) (upd (upd H dx (.own x)) x (.ins C dx [])) (fun v H2 => v = .non ∧ Q (.ref x) H2) E0) : wpAny (model X.prog X.w) X.A (call (.ref C) us) (EP X pins σ Q) X.xe s := by
  obtain ⟨pp, hot, hin⟩ := hc
  have I2 := Inv.made (C := C) I
  have hq := h _ _ (I.hok.fresh (Nat.le_succ _)) (I.hok.fresh (Nat.le_refl _)) (Nat.ne_of_lt (Nat.lt_succ_self s.heap.objs.size))
  have r2 : Vals (V.ref (s.heap.objs.size + 1) :: (vs ++ dvs)) (Value.ref (s.heap.objs.size + 1) :: (us ++ ds)) := .cons rfl (r.append hd)
  have hl : (Value.ref (s.heap.objs.size + 1) :: us ++ ds).length = ps.length := r2.length.symm.trans (G.len _ _ _ _ hq)
  obtain ⟨g1, g2, g3, g4, g5⟩ := I2.pin pp (List.mem_append_left _ hin)
  have pinned : PinOk X.stack _ _ pp := ⟨g1, g2, fun hm => Or.elim (List.mem_cons.mp (I2.stkSub pp.1 hm)) g3 g4, g5⟩
  have ran := G.run (X.A.under (.builtin "type.__call__" ⟨.ref C :: us, []⟩)) X.stack _ _ ⟨Value.ref (s.heap.objs.size + 1) :: us, []⟩ (Value.ref (s.heap.objs.size + 1) :: (us ++ ds)) _ _ E0 pp (hr.make C us []) hot pinned (I2.env0.make C us []) (hb _ (Value.ref (s.heap.objs.size + 1) :: us) I2.kIn hl) r2 hq
  refine wpAny_call (make_map (f := f) I.kIn M.makes M.init (beq_iff_eq.mp M.fn) (codeAny_mono ran ?_))
  rintro (er | fl) s' z
  · exact pass0 _ _ _ _ er s' I2 z
  · cases fl with
    | ret u =>
      obtain ⟨v, H3, I3, rv, rfl, q3⟩ := I2.after z
      exact ⟨rv, ⟨V.ref (s.heap.objs.size + 1), H3, I3, rfl, q3⟩⟩
    | next => exact z.elim
    | brk => exact z.elim
    | cont => exact z.elim
/-- C(x, ..) in the suite of an except -/
theorem pe_makeH (M : Mk X.K C f) (G : FnH X.prog X.w X.K X.mg X.base CX0 k f fd ps sp) (hr : RoomH (k + 1) X.A) (hc : HotC X) (hg : Gl X x) (hm : X.mg x = some (.ref C)) (hb : Binds X.K fd ps ds) (hd : Vals dvs ds) (ha : PA X (e :: es) t)
    (hdb : (x == ("__debug__" : Str)) = false := by decide) (he : starEach (e :: es) X.env = (false, eval e X.env) :: starEach es X.env := by rfl) (hpl : (backTo pos (starEach es X.env)).any (·.1) = false := by rfl) : PE X (.Call (.Name x p) (e :: es) [] pos) (tMake C sp dvs E0 t) := by
  refine ⟨fun pins s σ H Q I h => ?_⟩
  refine wpAny_Call_Name_kw (ld_glob I hg hm ?_ hdb)
  refine PySem.W.callWith_K (h₀ := X.base) I.ok.mod.kin M.kp (thn (ha.run pos pins s σ H _ I h) fun us s1 ⟨vs, H1, I1, r, q⟩ => ⟨I1.kIn, ?_⟩) he hpl
  exact make_hot M G hr hc hb hd I1 r q
end
end Js

set_option Elab.async false
set_option linter.all false
set_option maxRecDepth 100000
set_option maxHeartbeats 2000000
/-! comprehensions whose element may raise (out of a call) -/
namespace L2N
open PySem PySem.Spec PyProof.Rows L2
theorem inv_xe {X : Cx} {xe' : Value → Shared → Prop} {pins : List (Addr × Obj)} {σ : St} {H : Hp} {s : Shared} (I : Inv X pins σ H s) : Inv { X with xe := xe' } pins σ H s := by
  obtain ⟨ok, os, bare, base, loc, cell, free, freeC, pin, hok, len⟩ := I
  obtain ⟨a1, a2, a3, a4, a5, a6, a7, a8, a9, a10, a11, a12, a13, a14, a15, a16, a17, a18⟩ := ok
  exact ⟨⟨a1, a2, a3, a4, a5, a6, a7, a8, a9, a10, a11, a12, a13, a14, a15, a16, a17, a18⟩, os, bare, base, loc, cell, free, freeC, pin, hok, len⟩
/-- an exception out of a call, in the air of a block -/
def XEB (X : Cx) (W : XK) (u : Value) (s' : Shared) : Prop :=
  ∃ (a : Addr) (B : Heap) (sI : Shared) (pins : List (Addr × Obj)) (σ : St) (H : Hp) (cls : Value) (d : Option Addr),
    u = .ref a ∧ Inv X pins σ H sI ∧ (∀ b o, sI.heap.get? b = some o → b ∉ frs X.stack → B.get? b = some o) ∧ sI.heap.UpToSlots s'.heap ∧
      HandSPX.FlyingZ B X.stack a (Zn cls d) s'.heap ∧ H a = none ∧ s'.os = sI.os ∧ AllBare s'.gens ∧ W cls d H
/-- the context of a block whose element may raise -/
abbrev blkX (X : Cx) (W : XK) (s : Shared) (H : Hp) (scope : Scope) (cenv : Env) (fp : List Addr) : Cx := { X.blk s H scope cenv fp with xe := XEB (X.blk s H scope cenv fp) W }
section
variable {X : Cx} {pins : List (Addr × Obj)} {σ : St} {H : Hp} {s s' : Shared} {W : XK} {E : XK}
theorem XEB.of_call (I : Inv X pins σ H s) (hW : ∀ cls d H', E cls d H' → W cls d H') {u : Value} (c : CX X.prog X.w X.stack H s E u s') : XEB X W u s' := by
  obtain ⟨a, B, H', cls, d, rfl, fl, hok, ub, na, os, ag, hE⟩ := c
  obtain ⟨G, g1, g2⟩ := restrict s'.heap fun b => (B.get? b).isSome || decide (b ∈ frs X.stack)
  have st : B.StaysIn s'.heap := fl.1
  have gB : ∀ b o, B.get? b = some o → G.get? b = some o := fun b o e => by
    rw [g1 b (by simp [e])]
    exact st b o e
  have gF : ∀ b, b ∈ frs X.stack → G.get? b = s'.heap.get? b := fun b hb => g1 b (by simp [hb])
  have og : ∀ b o, G.get? b = some o → s'.heap.get? b = some o ∧ ((B.get? b).isSome = true ∨ b ∈ frs X.stack) := fun b o e => by
    cases q : ((B.get? b).isSome || decide (b ∈ frs X.stack)) with
    | false => rw [g2 b q] at e; cases e
    | true =>
      rw [g1 b q] at e
      exact ⟨e, by simpa [Bool.or_eq_true] using q⟩
  refine ⟨a, B, { s with heap := G, gens := s'.gens, drawn := s'.drawn, toks := s'.toks }, pins, σ, H', cls, d, rfl, ?_, fun b o e hb => ?_, Heap.UpToSlots.of_keeps fun b o e => (og b o e).1, fl, na, os, ag, hW _ _ _ hE⟩
  · refine I.call (ch := []) ⟨fun b o e n hb _ => gB b o (ub.keep b o e n hb), fun b o e n hb _ => ?_, fun b o e n _ => ub.free b o e n, fun b o e _ => ?_, ub.tups, ub.frzs, ub.tbls⟩ (hok.kept gB) ag (fun _ z => nomatch z)
    · obtain ⟨sl, q⟩ := ub.slot b o e hb
      exact ⟨sl, by rw [gF b hb]; exact q⟩
    · by_cases hb : b ∈ frs X.stack
      · obtain ⟨sl, q⟩ := ub.slot b o e hb
        exact ⟨_, by rw [gF b hb]; exact q⟩
      · obtain ⟨o', q⟩ := ub.there b o e hb
        exact ⟨o', gB b o' q⟩
  · obtain ⟨e', h⟩ := og b o e
    rcases h with h | h
    · obtain ⟨o', q⟩ := Option.isSome_iff_exists.mp h
      have z := st b o' q
      rw [e'] at z; cases z
      exact q
    · exact absurd h hb
/-- what a callee may let out is taken by the block -/
theorem passes_blk {sb : Shared} {Hb : Hp} {scope : Scope} {cenv : Env} {fp : List Addr} (hW : ∀ cls d H', E cls d H' → W cls d H') : ∀ (pins : List (Addr × Obj)) (σ : St) (H : Hp) (s : Shared) (e : Value) (s' : Shared), Inv (blkX X W sb Hb scope cenv fp) pins σ H s → CX X.prog X.w X.stack H s E e s' → (blkX X W sb Hb scope cenv fp).xe e s' :=
  fun _ σ _ _ e s' I c => XEB.of_call (X := X.blk sb Hb scope cenv fp) (inv_xe (X := blkX X W sb Hb scope cenv fp) (xe' := fun _ _ => False) I) hW c
end
section
variable {X : Cx}
/-- the block lets it go, the def's own frame holds it -/
theorem errX {WX' : WX} {W : XK} {pins : List (Addr × Obj)} {σ : St} {H3 : Hp} {s3 : Shared} {scope : Scope} {cl : List (Str × Addr)} {fp : List Addr} {use : Option (Value → Sem Unit)} {Qf : Value → Shared → Prop} {D : Addr}
    (hs : X.stack = X.env :: X.outer) (hf : X.env.frame = some X.env.locals) (tk : Takes X WX') (hW : ∀ cls d σ H, W cls d H → WX' cls d σ H) (I3 : Inv X pins σ H3 s3)
    (f3 : ∀ b ∈ fp, FpOk X pins H3 b ∧ b < s3.heap.objs.size) {u : Value} {s' : Shared}
    (x : XEB (X.blk s3 H3 scope (compEnvC scope cl s3.heap.objs.size X.env) fp) W u s') :
    notedBy (model X.prog X.w) X.A (compEnvC scope cl s3.heap.objs.size X.env) (fun e s'' => compEnds (model X.prog X.w) X.A X.xe use Qf (.ref D) (compEnvC scope cl s3.heap.objs.size X.env) (.error e) s'') u s' := by
  obtain ⟨a, B, sI, pins', σ', H', cls, d, rfl, I', nb, up, fl, na, os, ag, w⟩ := x
  have fl : HandSPX.FlyingZ B X.stack a (Zn cls d) s'.heap := fl
  have nb : ∀ b o, sI.heap.get? b = some o → b ∉ frs X.stack → B.get? b = some o := nb
  have hfr : X.A.frames = some (X.env :: X.outer) := by rw [I3.ok.frames, hs]
  rw [hs] at fl
  obtain ⟨B', b1, b2⟩ := restrict B fun b => !(b == s3.heap.objs.size)
  have bb : ∀ b o, B'.get? b = some o → b ≠ s3.heap.objs.size ∧ B.get? b = some o := fun b o e => by
    by_cases q : b = s3.heap.objs.size
    · rw [b2 b (by simp [q])] at e
      cases e
    · rw [b1 b (by simp [q])] at e
      exact ⟨q, e⟩
  have bn : ∀ b, B.get? b = none → B'.get? b = none := fun b e => by
    cases q : B'.get? b with
    | none => rfl
    | some o => rw [(bb b o q).2] at e; cases e
  have ffs : ∀ (l : List Env) (h : Heap), h.FunFrames B l → h.FunFrames B' l := fun l h => by
    induction l with
    | nil => exact fun _ => trivial
    | cons e r ih =>
      rintro ⟨k1, ⟨L, o, k2, k3, k4, k5⟩, k6⟩
      exact ⟨k1, ⟨L, o, k2, bn _ k3, k4, k5⟩, ih k6⟩
  obtain ⟨m, hn, _⟩ := I'.loc
  have hn : sI.heap.Ns s3.heap.objs.size m := hn
  have fl' : HandSPX.FlyingZ B' (X.env :: X.outer) a (Zn cls d) s'.heap := by
    obtain ⟨k1, k2, k3, oe, vs, T, oT, ts, he, hz, hd, h1, hnT, hTe, hT, hdT, h3⟩ := fl
    exact ⟨fun b o e => k1 b o (bb b o e).2, bn _ k2, ffs _ _ k3, oe, vs, T, oT, ts, he, hz, hd, h1, bn _ hnT, hTe, hT, hdT, h3⟩
  show wpAny _ X.A (noteFrame (.ref a) (compEnvC scope cl s3.heap.objs.size X.env)) _ _ s'
  rw [noteFrame_env (.ref a) (show (compEnvC scope cl s3.heap.objs.size X.env).frame = X.env.frame from rfl)]
  refine PXN.looks_onZ Zn.steady hfr hf fl' fun h1 hh1 up1 => ?_
  have hn1 : h1.Ns s3.heap.objs.size m := Heap.Ns.upToSlots (Heap.Ns.upToSlots hn up) up1
  refine ⟨m, hn1, fun h2 m2 hn2 hs2 => ?_⟩
  have hn2 : h2.Ns s3.heap.objs.size m2 := hn2
  have hs2 : Heap.SameBut s3.heap.objs.size h1 h2 := hs2
  obtain ⟨q1, q2, q3, oe, vs, T, oT, ts, he, hz, hd, h1', hnT, hTe, hT, hdT, h3⟩ := hh1
  have notC : ∀ {b : Addr} {o : Obj} {vs : Array Value}, h1.get? b = some o → o.data = .fields vs → b ≠ s3.heap.objs.size := fun {b o vs} e dd z => by
    obtain ⟨oL, es, ep, hoL, hdL, _⟩ := hn1
    rw [z, hoL] at e
    cases e
    rw [hdL] at dd
    cases dd
  have q1' : B'.StaysIn h2 := fun b o e => (hs2.2 b (bb b o e).1).trans (q1 b o e)
  have q3' : h2.FunFrames B' (X.env :: X.outer) := Heap.FunFrames.sameBut hs2 hn2 q3
  have q4' : HandSPX.TracedZ h2 B' a (Zn cls d) (rawInt X.env.locals) := ⟨oe, vs, T, oT, ts, (hs2.2 a (notC he hd)).trans he, hz, hd, h1', hnT, hTe, (hs2.2 T (notC hT hdT)).trans hT, hdT, h3⟩
  unfold PySem.passOn
  refine wpAny_bind (wpAny_field ((hs2.2 a (notC he hd)).trans he) hd h1' ?_)
  rw [if_neg (show ¬ ((Value.ref T == Value.none) = true) from by simp)]
  have fin : wpAny (model X.prog X.w) X.A (setFlight (.ref a) (compEnvC scope cl s3.heap.objs.size X.env).frame) (fun _ s4 => wpAny (model X.prog X.w) X.A (throw (.ref a) : Sem Value) (fun _ _ => False) X.xe s4) X.xe { s' with heap := h2 } := by
    rw [show (compEnvC scope cl s3.heap.objs.size X.env).frame = some X.env.locals from hf]
    refine HandSPX.setFlight_anyZ q1' q3' q4' fun h4 r1 r3 r4 up4 => wpAny_throw (tk _ _ ?_)
    obtain ⟨G, g1, g2⟩ := restrict sI.heap fun b => !(b == s3.heap.objs.size)
    have gg : ∀ b o, G.get? b = some o → b ≠ s3.heap.objs.size ∧ sI.heap.get? b = some o := fun b o e => by
      by_cases q : b = s3.heap.objs.size
      · rw [g2 b (by simp [q])] at e
        cases e
      · rw [g1 b (by simp [q])] at e
        exact ⟨q, e⟩
    have I7 : Inv X pins σ H' sI := I3.call' (ch := fp) I'.os I'.base I'.hok I'.bare fun b hb => ⟨(f3 b hb).1.2.2.2.1, (f3 b hb).1.2.1, (f3 b hb).1.2.2.2.2.1, (f3 b hb).1.2.2.2.2.2⟩
    have nC : H' s3.heap.objs.size = none := I'.free
    obtain ⟨f0, f1, f2, f3', f4, f5⟩ := I3.fpOk (Nat.le_refl _) nC
    have J : Inv X pins σ H' { sI with heap := G, toks := sI.toks } := I7.turned (t' := sI.toks) (fun b o hb e => by rw [g1 b (by simp [hb])]; exact e) f0 f1 f3' f4 f5
    refine ⟨a, B', { sI with heap := G, toks := sI.toks }, pins, σ, H', cls, d, rfl, J, fun b o e hb => ?_, fun b o e hnf => ?_, .inr (.inr ?_), na, os, ag, hW _ _ _ _ w⟩
    · obtain ⟨z1, z2⟩ := gg b o e
      rw [b1 b (by simp [z1])]
      exact nb b o z2 hb
    · obtain ⟨z1, z2⟩ := gg b o e
      obtain ⟨sl1, e1⟩ := up b o z2 hnf
      obtain ⟨sl2, e2⟩ := up1 b _ e1 hnf
      obtain ⟨sl3, e3⟩ := up4 b _ ((hs2.2 b z1).trans e2) hnf
      exact ⟨sl3, e3⟩
    · rw [hs]
      exact ⟨r1, q2, r3, r4⟩
  first
    | exact wpAny_bind (wpAny_pure (wpAny_bind fin))
    | exact wpAny_bind fin
theorem lc_coreX {WX' : WX} {WK : XK} {pins : List (Addr × Obj)} {s : Shared} {σ : St} {H : Hp} {Q : VK} {elt tg iter : Expr} {ifs : List Expr} {scope : Scope} {own : List (Str × Nat)} {pos pos' : Pos} {wi : TI} {g : TG} {tt : TT} {te : TE} {use : Option (Value → Sem Unit)} {Qf : Value → Shared → Prop}
    (hs0 : X.stack = X.env :: X.outer) (hf0 : X.env.frame = some X.env.locals) (tk : Takes X WX') (hW : ∀ cls d σ H, WK cls d H → WX' cls d σ H) (hc : X.calm = true) (hN : X.N.Nodup) (I : Inv X pins σ H s) (hi : PI X tg iter wi) (ok : BlkOk X.N X.env.scope scope own)
    (hg : ∀ (s : Shared) (H : Hp) (C : Addr) (cl : List (Str × Addr)) (fp : List Addr), PG (blkX X WK s H scope (compEnvC scope cl C X.env) fp) tg g) (ht : ∀ (s : Shared) (H : Hp) (C : Addr) (cl : List (Str × Addr)) (fp : List Addr), PTs (blkX X WK s H scope (compEnvC scope cl C X.env) fp) ifs tt)
    (he : ∀ (s : Shared) (H : Hp) (C : Addr) (cl : List (Str × Addr)) (fp : List Addr), PE (blkX X WK s H scope (compEnvC scope cl C X.env) fp) elt te) (hs : ∀ x, foldedSetIterable iter X.env x = pure x)
    (h : tLc wi g tt te (own.map (·.2)) σ H Q)
    (hRR : ∀ D cenv s' m H', Inv X pins σ H' s' → Q (.ref D) H' → s'.heap.Ns cenv.locals m → FpOk X pins H' cenv.locals → compEnds (model X.prog X.w) X.A X.xe use Qf (.ref D) cenv (.ok .next) s') :
    wpAny (model X.prog X.w) X.A (comprehension (.ListComp elt [⟨tg, iter, ifs, 0⟩] scope pos) scope X.env pos' (newList []) false (eval iter X.env) use) Qf X.xe s := by
  have hfree : ∀ y ∈ scope.names, y.2 = .free → ∃ c, X.env.cells.lookup y.1 = some c := fun y hy e => by
    rcases ok.free y hy e with k | k
    · exact I.ok.has _ (.inl k)
    · exact I.ok.has _ (.inr k)
  refine comprehension_at (use := use) rfl hs (closure_ok hfree) ok.kind (fun y hy e => by rw [ok.uniq y hy, e])
    (thn (hi.run pins s σ H _ I h) fun xv s1 hx => thn hx fun itv s2 h2 => ?_)
  obtain ⟨it, fp, tn, J, H2, e, I2, T, st2, f2, q⟩ := h2
  subst e
  refine wpAny_newObj_type (newEnv_comp ?_) (by show 0 ≤ sizeLine; decide)
  generalize hD : s2.heap.objs.size = D
  have hDn : H2 D = none := I2.hok.fresh (Nat.le_of_eq hD)
  obtain ⟨W, ⟨m0, w0⟩, turn⟩ := q D hDn
  -- the new list
  generalize hs3 : ({ s2 with heap := s2.heap.push { cls := .type "list", data := .seq ([] : List Value).toArray } } : Shared) = s3
  have I3 : Inv X pins σ (upd H2 D (.lst [])) s3 := by
    rw [← hs3]
    refine I2.laid (t' := s2.toks) (fun b o e => Heap.get?_push_of_some _ e) (Nat.le_of_eq hD) ⟨Nat.zero_le _, [], 0, .nil, ?_⟩
    rw [← hD]
    exact Heap.get?_push_size _ rfl
  have h3 : s3.heap = s2.heap.push { cls := .type "list", data := .seq ([] : List Value).toArray } := by rw [← hs3]
  have sz : ∀ b ∈ fp, b < s2.heap.objs.size := fun b hb => by
    obtain ⟨o, e, _⟩ := T.obj _ _ st2 b hb
    exact Heap.lt_size e
  have f3 : ∀ b ∈ fp, FpOk X pins (upd H2 D (.lst [])) b ∧ b < s3.heap.objs.size := fun b hb => by
    have hlt := sz b hb
    refine ⟨⟨?_, (f2 b hb).2⟩, by rw [h3, Heap.size_push]; exact Nat.lt_succ_of_lt hlt⟩
    rw [upd_ne (by rw [← hD]; exact Nat.ne_of_lt hlt)]
    exact (f2 b hb).1
  have st3 : tn 0 s3.heap := T.keep _ _ _ st2 fun b _ o e => by rw [h3]; exact Heap.get?_push_of_some _ e
  have I4 := block_start I3 ok hN f3
  have pg := hg s3 (upd H2 D (.lst [])) s3.heap.objs.size (cellsFrom (s3.heap.objs.size + 1) scope.names (cloFrom X.env.cells scope.names [])) fp
  have pt := ht s3 (upd H2 D (.lst [])) s3.heap.objs.size (cellsFrom (s3.heap.objs.size + 1) scope.names (cloFrom X.env.cells scope.names [])) fp
  have pe := he s3 (upd H2 D (.lst [])) s3.heap.objs.size (cellsFrom (s3.heap.objs.size + 1) scope.names (cloFrom X.env.cells scope.names [])) fp
  show codeAny _ _ (.compStart (.ListComp elt [⟨tg, iter, ifs, 0⟩] scope pos) 0 (.ref it) (.ref D) (compEnvC scope (cellsFrom (s3.heap.objs.size + 1) scope.names (cloFrom X.env.cells scope.names [])) s3.heap.objs.size X.env)) (compEnds (model X.prog X.w) X.A X.xe use Qf (.ref D) (compEnvC scope (cellsFrom (s3.heap.objs.size + 1) scope.names (cloFrom X.env.cells scope.names [])) s3.heap.objs.size X.env)) { s3 with heap := pushCells (s3.heap.push { cls := .type "dict", data := .dict #[] }) scope.names }
  have nfp : ∀ b ∈ fp, (upd H2 D (.lst [])) b = none := fun b hb => (f3 b hb).1.1
  have er : ∀ (u : Value) (s' : Shared), (blkX X WK s3 (upd H2 D (.lst [])) scope (compEnvC scope (cellsFrom (s3.heap.objs.size + 1) scope.names (cloFrom X.env.cells scope.names [])) s3.heap.objs.size X.env) fp).xe u s' → notedBy (model X.prog X.w) X.A (compEnvC scope (cellsFrom (s3.heap.objs.size + 1) scope.names (cloFrom X.env.cells scope.names [])) s3.heap.objs.size X.env) (fun e s'' => compEnds (model X.prog X.w) X.A X.xe use Qf (.ref D) (compEnvC scope (cellsFrom (s3.heap.objs.size + 1) scope.names (cloFrom X.env.cells scope.names [])) s3.heap.objs.size X.env) (.error e) s'') u s' :=
    fun u s' x => errX (X := X) (use := use) (Qf := Qf) (D := D) hs0 hf0 tk hW I3 f3 x
  generalize hce : compEnvC scope (cellsFrom (s3.heap.objs.size + 1) scope.names (cloFrom X.env.cells scope.names [])) s3.heap.objs.size X.env = ce at I4 pg pt pe er ⊢
  have cL : ce.locals = s3.heap.objs.size := by subst hce; rfl
  generalize hH3 : upd H2 D (.lst []) = H3 at I3 I4 pg pt pe w0 nfp f3 er
  generalize hs4 : ({ s3 with heap := pushCells (s3.heap.push { cls := .type "dict", data := .dict #[] }) scope.names } : Shared) = s4 at I4 ⊢
  have st4 : tn 0 s4.heap := T.keep _ _ _ st3 fun b _ o e => by rw [← hs4]; exact pushCells_keeps _ _ _ _ (Heap.get?_push_of_some _ e)
  have stat : ∀ {σ' : St} {H' : Hp} {s' : Shared}, Inv (X.blk s3 H3 scope ce fp) [] σ' H' s' → (∀ b ∈ fp, H' b = none) → ∀ b ∈ fp, FpOk (X.blk s3 H3 scope ce fp) [] H' b := fun {σ' H' s'} I' hn b hb =>
    ⟨hn b hb, (I'.ok.exf b hb).1, I'.ok.exfs b hb, .inl hb, fun x c e => (I'.ok.exf b hb).2 x c e, fun p hp => absurd (show p ∈ ([] : List (Addr × Obj)) ++ [] from hp) (by simp)⟩
  have loop : codeAny (model X.prog X.w) X.A (.compLoop (.ListComp elt [⟨tg, iter, ifs, 0⟩] scope pos) 0 (.ref it) (.ref D) ce) (compEnds (model X.prog X.w) X.A X.xe use Qf (.ref D) ce) s4 := by
    refine compLoop_any (fun n s' => ∃ i H', Inv (X.blk s3 H3 scope ce fp) [] (wipe σ (own.map (·.2))) H' s' ∧ tn i s'.heap ∧ (∀ b ∈ fp, H' b = none) ∧ W i n H') ?_ m0 ⟨0, H3, I4, st4, nfp, w0⟩
    rintro n s5 ⟨i, H5, I5, st5, n5, w5⟩
    rcases turn i n H5 w5 with ⟨stop, qq⟩ | ⟨go, Nx, hNx, step⟩
    · have td := T.done (X.blk s3 H3 scope ce fp) rfl rfl rfl hc i [] s5 _ H5 (fun _ _ => False) I5 (stat I5 n5) st5 stop
      refine thnF td fun r s6 ⟨hr, I6⟩ => ?_
      subst hr
      -- back in the def's context
      have I7 : Inv X pins σ H5 s6 := I3.call' (ch := fp) I6.os I6.base I6.hok I6.bare fun b hb => ⟨(f3 b hb).1.2.2.2.1, (f3 b hb).1.2.1, (f3 b hb).1.2.2.2.2.1, (f3 b hb).1.2.2.2.2.2⟩
      have nC : H5 s3.heap.objs.size = none := by
        have z : H5 ce.locals = none := I6.free
        rw [cL] at z
        exact z
      obtain ⟨m, hn, _⟩ := I6.loc
      have hn : s6.heap.Ns ce.locals m := hn
      rw [cL] at hn
      exact hRR D ce s6 m H5 I7 qq (by rw [cL]; exact hn) (by rw [cL]; exact I3.fpOk (Nat.le_refl _) nC)
    · have ti := T.item (X.blk s3 H3 scope ce fp) rfl rfl rfl hc i [] s5 _ H5 (fun _ _ => False) I5 (stat I5 n5) st5 go
      refine thnF ti fun r s6 ⟨u, hr, h6⟩ => ?_
      subst hr
      refine thnF h6 fun _ s7 ⟨x, H7, I7, r7, y7, st7, n7⟩ => ?_
      have I7' := I7.pinned (stat I7 n7) (T.obj _ _ st7)
      refine wpAny_mono (pg.run _ s7 _ H7 x u _ (inv_xe I7') r7 (step x H7 y7)) (fun _ s8 ⟨σ8, H8, I8, hw8, q8⟩ => ?_) er
      refine wpAny_mono (pt.run _ s8 σ8 H8 _ I8 q8) (fun b s9 ⟨H9, I9, q9⟩ => ?_) er
      -- the turn's end
      have fin : ∀ {s' : Shared} {H' : Hp}, Inv (X.blk s3 H3 scope ce fp) ([] ++ pinsAt fp s7.heap) σ8 H' s' → Nx H' → ∃ m, m < n ∧ ∃ i H', Inv (X.blk s3 H3 scope ce fp) [] (wipe σ (own.map (·.2))) H' s' ∧ tn i s'.heap ∧ (∀ b ∈ fp, H' b = none) ∧ W i m H' := fun {s' H'} I' nx => by
        obtain ⟨m', hm, w'⟩ := hNx H' nx
        have pin' : ∀ b ∈ fp, ∀ o, s7.heap.get? b = some o → s'.heap.get? b = some o ∧ H' b = none := fun b hb o e =>
          let z := I'.pin (b, o) (List.mem_append_right _ (List.mem_append_right _ (mem_pinsAt hb e)))
          ⟨z.1, z.2.1⟩
        have hl : (wipe σ (own.map (·.2))).length = σ8.length := by rw [← hw8, wipe_length]
        refine ⟨m', hm, i + 1, H', (I'.unpinned (pins := [])).weak hl (fun j v e => ?_), T.keep _ _ _ st7 fun b hb o e => (pin' b hb o e).1, fun b hb => ?_, w'⟩
        · rw [← hw8] at e
          exact (wipe_some e).1
        · obtain ⟨o, e, _⟩ := T.obj _ _ st7 b hb
          exact (pin' b hb o e).2
      cases b with
      | false =>
        simp only [Bool.false_eq_true, if_false] at q9 ⊢
        exact fin (inv_xe I9) q9
      | true =>
        simp only [if_true] at q9 ⊢
        refine wpAny_mono (pe.run _ s9 σ8 H9 _ I9 q9) (fun z s10 ⟨yv, H10, I10, r10, acc, hD10, hz10, nx⟩ => ?_) er
        exact app_ok (X := X.blk s3 H3 scope ce fp) (inv_xe I10) hD10 hz10 r10 fun s11 I11 => fin I11 nx
  exact codeAny_compStart_list loop (T.self X.A 0 _ _ _ st4 loop)
/-- as a value -/
theorem pe_lcX {WX' : WX} {WK : XK} {elt tg iter : Expr} {ifs : List Expr} {scope : Scope} {own : List (Str × Nat)} {pos : Pos} {wi : TI} {g : TG} {tt : TT} {te : TE} (hs0 : X.stack = X.env :: X.outer) (hf0 : X.env.frame = some X.env.locals) (tk : Takes X WX') (hW : ∀ cls d σ H, WK cls d H → WX' cls d σ H) (hc : X.calm = true) (hN : X.N.Nodup) (hi : PI X tg iter wi) (ok : BlkOk X.N X.env.scope scope own)
    (hg : ∀ (s : Shared) (H : Hp) (C : Addr) (cl : List (Str × Addr)) (fp : List Addr), PG (blkX X WK s H scope (compEnvC scope cl C X.env) fp) tg g) (ht : ∀ (s : Shared) (H : Hp) (C : Addr) (cl : List (Str × Addr)) (fp : List Addr), PTs (blkX X WK s H scope (compEnvC scope cl C X.env) fp) ifs tt)
    (he : ∀ (s : Shared) (H : Hp) (C : Addr) (cl : List (Str × Addr)) (fp : List Addr), PE (blkX X WK s H scope (compEnvC scope cl C X.env) fp) elt te) (hs : ∀ x, foldedSetIterable iter X.env x = pure x := by intro _; rfl) :
    PE X (.ListComp elt [⟨tg, iter, ifs, 0⟩] scope pos) (tLc wi g tt te (own.map (·.2))) := by
  refine ⟨fun pins s σ H Q I h => ?_⟩
  rw [eval_ListComp]
  refine lc_coreX hs0 hf0 tk hW hc hN I hi ok hg ht he hs h fun D C s' m H' I' q hn f => ⟨m, hn, fun h'' sb => ?_⟩
  obtain ⟨f0, f1, f2, f3, f4, f5⟩ := f
  exact ⟨.ref D, H', I'.turned (t' := s'.toks) (fun b o hb e => (sb.2 b hb).trans e) f0 f1 f3 f4 f5, rfl, q⟩

end
end L2N

set_option Elab.async false
set_option linter.all false
set_option maxRecDepth 100000
set_option maxHeartbeats 2000000
/-! codes of programs, or a refusal where they are too great -/
namespace Js
open PySem L2
open PySem.Spec PyProof.Rows
def ErrN (N : Addr) (E : XK) (H : Hp) : Prop := ∀ d H', Same H H' → H' d = some (.xd [("bound", .int ((4000 : Nat) : Int))]) → E (.ref N) (some d) H'
theorem ErrN.same {N : Addr} {E : XK} {H H1 : Hp} (s : Same H H1) (h : ErrN N E H) : ErrN N E H1 := fun d H' s' hd => h d H' (s.trans s') hd
def spRowN (C N : Addr) : Sp := fun vs H Q E => ∃ l xs ts, vs = [.ref l] ∧ H l = some (.lst xs) ∧ Paired (ThV C H) xs ts ∧ (∀ t ∈ ts, t.size ≤ 4000) ∧ ((rowT ts).size ≤ 4000 → ∀ a H', Same H H' → Th C H' a (rowT ts) → Q (.ref a) H') ∧ (4000 < (rowT ts).size → ErrN N E H)
/-- what a part of a deed codes to, by its sign -/
def PtN (K : PySem.W.Frag) (C : Addr) (H : Hp) (n : Nat) (x : V) (c : Nat) (t : Tr) : Prop := (c = 110 ∧ ∃ a : Nat, a < 10 ∧ x = .int ((a : Nat) : Int) ∧ t = num a) ∨ (c = 116 ∧ ∃ y, x = .ref y ∧ Th C H y t ∧ t.size ≤ 4000) ∨ (c = 114 ∧ ∃ q r, x = .ref q ∧ RAt K C H q r ∧ deepR r < n ∧ manyR r ≤ 4000 ∧ t = codeR r)
theorem PtN.same {K : PySem.W.Frag} {C : Addr} {H H' : Hp} {n : Nat} {x : V} {c : Nat} {t : Tr} (s : Same H H') (h : PtN K C H n x c t) : PtN K C H' n x c t := by
  rcases h with h | ⟨e, y, e1, h, hz⟩ | ⟨e, q, r, e1, h, h2, h3⟩
  · exact .inl h
  · exact .inr (.inl ⟨e, y, e1, h.same s, hz⟩)
  · exact .inr (.inr ⟨e, q, r, e1, h.same s, h2, h3⟩)
theorem deed_partsN {K : PySem.W.Frag} {C : Addr} {H : Hp} {v : V} {n : Nat} : ∀ (d : Dd), DAt K C H v d → d.deep < n + 1 → d.many ≤ 4000 → ∃ p its, v = .ref p ∧ SqT K H p (.str (kindOf d) :: its) ∧ its.length = (formOf d).cps.size ∧ d.prts.length = its.length ∧ its ≠ [] ∧ its.length ≤ 3 ∧ ∀ (i : Nat) x c, its[i]? = some x → (formOf d).cps[i]? = some c → ∃ t, d.prts[i]? = some t ∧ PtN K C H n x c t
  | .told a t, h, hn, hmy => by
    obtain ⟨p, x, e, h1, h2, h3, h4⟩ := h
    refine ⟨p, _, e, h1, by rw [formOf, cps_nt]; rfl, rfl, by simp, by simp, fun i y c g1 g2 => ?_⟩
    rw [formOf, cps_nt] at g2
    match i, g1, g2 with
    | 0, g1, g2 => cases Option.some.inj g1; cases Option.some.inj g2; exact ⟨_, rfl, .inl ⟨rfl, a, h2, rfl, rfl⟩⟩
    | 1, g1, g2 => cases Option.some.inj g1; cases Option.some.inj g2; exact ⟨_, rfl, .inr (.inl ⟨rfl, x, rfl, h3, h4⟩)⟩
    | i + 2, g1, g2 => simp at g1
  | .take s a b, h, hn, hmy => by
    obtain ⟨p, e, h1, h2, h3⟩ := h
    refine ⟨p, _, e, h1, by rw [formOf, cps_nn]; rfl, rfl, by simp, by simp, fun i y c g1 g2 => ?_⟩
    rw [formOf, cps_nn] at g2
    match i, g1, g2 with
    | 0, g1, g2 => cases Option.some.inj g1; cases Option.some.inj g2; exact ⟨_, rfl, .inl ⟨rfl, a, h2, rfl, rfl⟩⟩
    | 1, g1, g2 => cases Option.some.inj g1; cases Option.some.inj g2; exact ⟨_, rfl, .inl ⟨rfl, b, h3, rfl, rfl⟩⟩
    | i + 2, g1, g2 => simp at g1
  | .two s a b c0, h, hn, hmy => by
    obtain ⟨p, e, h1, h2, h3, h4⟩ := h
    refine ⟨p, _, e, h1, by rw [formOf, cps_nnn]; rfl, rfl, by simp, by simp, fun i y c g1 g2 => ?_⟩
    rw [formOf, cps_nnn] at g2
    match i, g1, g2 with
    | 0, g1, g2 => cases Option.some.inj g1; cases Option.some.inj g2; exact ⟨_, rfl, .inl ⟨rfl, a, h2, rfl, rfl⟩⟩
    | 1, g1, g2 => cases Option.some.inj g1; cases Option.some.inj g2; exact ⟨_, rfl, .inl ⟨rfl, b, h3, rfl, rfl⟩⟩
    | 2, g1, g2 => cases Option.some.inj g1; cases Option.some.inj g2; exact ⟨_, rfl, .inl ⟨rfl, c0, h4, rfl, rfl⟩⟩
    | i + 3, g1, g2 => simp at g1
  | .wh a r, h, hn, hmy => by
    obtain ⟨p, q, vs, e, h1, h2, h3, h4⟩ := h
    rw [Dd.deep] at hn
    rw [many_wh] at hmy
    refine ⟨p, _, e, h1, by rw [formOf, cps_nr]; rfl, rfl, by simp, by simp, fun i y c g1 g2 => ?_⟩
    rw [formOf, cps_nr] at g2
    match i, g1, g2 with
    | 0, g1, g2 => cases Option.some.inj g1; cases Option.some.inj g2; exact ⟨_, rfl, .inl ⟨rfl, a, h2, rfl, rfl⟩⟩
    | 1, g1, g2 => cases Option.some.inj g1; cases Option.some.inj g2; exact ⟨_, rfl, .inr (.inr ⟨rfl, q, r, rfl, ⟨vs, h3, h4⟩, by omega, by omega, rfl⟩)⟩
    | i + 2, g1, g2 => simp at g1
  | .iff a r o, h, hn, hmy => by
    obtain ⟨p, q, vs, q2, vs2, e, h1, h2, h3, h4, h5, h6⟩ := h
    rw [Dd.deep] at hn
    rw [many_iff] at hmy
    refine ⟨p, _, e, h1, by rw [formOf, cps_nrr]; rfl, rfl, by simp, by simp, fun i y c g1 g2 => ?_⟩
    rw [formOf, cps_nrr] at g2
    match i, g1, g2 with
    | 0, g1, g2 => cases Option.some.inj g1; cases Option.some.inj g2; exact ⟨_, rfl, .inl ⟨rfl, a, h2, rfl, rfl⟩⟩
    | 1, g1, g2 => cases Option.some.inj g1; cases Option.some.inj g2; exact ⟨_, rfl, .inr (.inr ⟨rfl, q, r, rfl, ⟨vs, h3, h4⟩, by omega, by omega, rfl⟩)⟩
    | 2, g1, g2 => cases Option.some.inj g1; cases Option.some.inj g2; exact ⟨_, rfl, .inr (.inr ⟨rfl, q2, o, rfl, ⟨vs2, h5, h6⟩, by omega, by omega, rfl⟩)⟩
    | i + 3, g1, g2 => simp at g1
def spPartN (K : PySem.W.Frag) (C N : Addr) (n : Nat) : Sp := fun vs H Q E => ∃ x c t, vs = [x, .str ⟨#[c]⟩] ∧ PtN K C H n x c t ∧ (t.size ≤ 4000 → ∀ a H', Same H H' → Th C H' a t → Q (.ref a) H') ∧ (4000 < t.size → ErrN N E H)
def spDeedN (K : PySem.W.Frag) (C N : Addr) (n : Nat) : Sp := fun vs H Q E => ∃ v d, vs = [v] ∧ DAt K C H v d ∧ d.deep < n ∧ d.many ≤ 4000 ∧ (d.code.size ≤ 4000 → ∀ a H', Same H H' → Th C H' a d.code → Q (.ref a) H') ∧ (4000 < d.code.size → ErrN N E H)
def spRowCN (K : PySem.W.Frag) (C N : Addr) (n : Nat) : Sp := fun vs H Q E => ∃ q r, vs = [.ref q] ∧ RAt K C H q r ∧ deepR r < n ∧ manyR r ≤ 4000 ∧ ((codeR r).size ≤ 4000 → ∀ a H', Same H H' → Th C H' a (codeR r) → Q (.ref a) H') ∧ (4000 < (codeR r).size → ErrN N E H)
def spCodeN (K : PySem.W.Frag) (C CP N : Addr) : Sp := fun vs H Q E => ∃ a r, vs = [.ref a] ∧ PgAt K C CP H a r ∧ ((codeR r).size ≤ 4000 → ∀ x H', Same H H' → Th C H' x (codeR r) → Q (.ref x) H') ∧ (4000 < (codeR r).size → ErrN N E H)
theorem len_manyN : ∀ r : List Dd, r.length ≤ manyR r
  | [] => Nat.zero_le _
  | d :: r => by
    rw [List.length_cons, many_cons]
    have := len_manyN r
    have := many_pos d
    omega
theorem many_memN : ∀ (r : List Dd) (d : Dd), d ∈ r → d.many ≤ manyR r
  | [], d, h => by cases h
  | e :: r, d, h => by
    rw [many_cons]
    rcases List.mem_cons.mp h with rfl | h
    · omega
    · have := many_memN r d h
      omega
theorem passAt_blk {X : Cx} {WK : XK} {sb : Shared} {Hb : Hp} {scope : Scope} {cenv : Env} {fp : List Addr} (σ : L2.St) : PassesAt (L2N.CX X.prog X.w) (L2N.blkX X WK sb Hb scope cenv fp) σ WK := fun pins H s e s' I c => L2N.passes_blk (fun _ _ _ h => h) pins σ H s e s' I c
section
variable {P : Program} {w : World} {K : PySem.W.Frag} {mg : Str → Option Value} {base : Heap} {C CP N fI fP : Addr} {fdI fdP : FuncData}
theorem ok_rowN {f : Addr} {fd : FuncData} (F : Fun K "row" "row" sRow f fd) (T : Txt K mg C) (mrev : mg "reversed" = none) (mk : Maker P w K mg base C fI fdI) (mx : MakerN P w K mg base C fI N fdI) : FnOk P w K mg base (L2N.CX P w) 5 f fd ["things"] (spRowN C N) := by
  refine okC F scR (fun vs H Q E h => ?_) (fun cdv A outer s H vs Q E hr h => ?_)
  · obtain ⟨l, xs, ts, rfl, _⟩ := h
    rfl
  · obtain ⟨l, xs, ts, rfl, hl, hps, hm, k, ke⟩ := h
    have hr3 : Room 3 _ := hr.mono (by decide)
    refine ⟨_, pss_cons (ps_set (i := 1) scR.nd rfl (Or.inl rfl) (pe_T0 mk hr3 rfl)) (pss_cons (ps_for (passes_of rfl) rfl (pi_reversed rfl mrev (pa_cons (pv 0) pa_nil)) (pg_name (i := 2) scR.nd rfl (Or.inl rfl)) (pss_one (ps_set (i := 1) scR.nd rfl (Or.inl rfl) (pe_T2N mx hr rfl (fun σ => L2N.passAt (L2N.takes_of rfl rfl rfl rfl) σ) (pa_cons (pv 2) (pa_cons (pv 1) pa_nil)))))) (pss_one (ps_ret (pv 1)))), ?_⟩
    have hlen := Paired.length hps
    intro x0 H1 s1 _ h1
    refine ⟨_, rfl, l, xs, rfl, SqL.of (s1 _ _ hl), for_it (walk_rev (K := K) (a := l) (xs := xs)) (fun i σ H' => ∃ x a, σ = [some (.ref l), some (.ref a), x] ∧ Same H H' ∧ Th C H' a (rowT (ts.drop (xs.length - i))) ∧ (rowT (ts.drop (xs.length - i))).size ≤ 4000) ⟨none, x0, rfl, s1, ?_, ?_⟩ ?_ ?_ ?_⟩
    · rw [Nat.sub_zero, hlen, List.drop_length]
      exact h1
    · rw [Nat.sub_zero, hlen, List.drop_length]
      exact Nat.zero_le _
    · rintro i σ H2 _ ⟨x, a, rfl, s2, h2, _⟩
      exact SqL.of (s2 _ _ hl)
    · rintro i y σ H2 H3 hi ⟨x, a, rfl, s2, h2, hz2⟩ ⟨rfl, hy⟩
      obtain ⟨ty, e1, b, rfl, hb⟩ := paired_get hps hy
      have e2 := row_drop ts _ _ e1
      have e3 : xs.length - 1 - i + 1 = xs.length - i := by omega
      have e4 : xs.length - 1 - i = xs.length - (i + 1) := by omega
      have hsz := row_drop_size ts (xs.length - 1 - i)
      rw [e2, e3] at hsz
      have hty := hm ty (List.mem_of_getElem? e1)
      refine ⟨_, rfl, _, rfl, _, _, _, _, rfl, hb.same s2, h2, by omega, fun h4 x2 H4 s4 _ h4' => ?_, fun h4 d H4 s4 hd => ?_⟩
      · refine ⟨_, x2, rfl, s2.trans s4, ?_, ?_⟩
        · rw [← e4, e2, e3]
          exact h4'
        · rw [← e4, e2, e3]
          simp only [Tr.size]
          omega
      · refine ke ?_ d H4 (s2.trans s4) hd
        simp only [Tr.size] at hsz
        omega
    · rintro σ H2 ⟨x, a, rfl, s2, h2, hz2⟩
      rw [Nat.sub_self, List.drop_zero] at h2 hz2
      exact ⟨_, rfl, k hz2 a H2 s2 h2⟩
theorem ok_partN {f fR : Addr} {fd fdR : FuncData} {n : Nat} (F : Fun K "part_code" "part_code" sPartC f fd) (DNu : Def P w K mg base "number" 4 ["n"] (spNumber C)) (GR : FnOk P w K mg base (L2N.CX P w) (3 * n + 5) fR fdR ["deeds"] (spRowCN K C N n)) (mgr : mg "row_code" = some (.ref fR)) (kr : PySem.W.keepIn K (.ref fR) = true) (br : Binds K fdR ["deeds"] []) : FnOk P w K mg base (L2N.CX P w) (3 * n + 6) f fd ["part", "sign"] (spPartN K C N n) := by
  refine okC F scPa (fun vs H Q E h => ?_) (fun cdv A outer s H vs Q E hr h => ?_)
  · obtain ⟨x, c, t, rfl, _⟩ := h
    rfl
  · obtain ⟨x, c, t, rfl, hp, k, ke⟩ := h
    have hr4 : Room 4 _ := hr.mono (by omega)
    refine ⟨_, pss_cons (ps_if (pt_cmpR op_eq (pv 1) pe_str (nomark _)) (pss_one (ps_ret (pe_def DNu hr4 rfl (pa_cons (pv 0) pa_nil)))) pss_nil) (pss_cons (ps_if (pt_cmpR op_eq (pv 1) pe_str (nomark _)) (pss_one (ps_ret (pv 0))) pss_nil) (pss_one (ps_ret (pe_callS GR hr rfl mgr kr br (fun σ => L2N.passAt (L2N.takes_of rfl rfl rfl rfl) σ) (pa_cons (pv 0) pa_nil))))), ?_⟩
    rcases hp with ⟨rfl, a, ha, rfl, rfl⟩ | ⟨rfl, y, rfl, hy, ht⟩ | ⟨rfl, q, r, rfl, hq, hd, hmy, rfl⟩
    · refine ⟨_, rfl, rfl, _, rfl, ?_⟩
      rw [s_n, decide_eq_true rfl]
      exact iteT ⟨_, rfl, a, rfl, by omega, fun y H1 s1 hy => k (by rw [num_size]; omega) y H1 s1 hy⟩
    · refine ⟨_, rfl, rfl, _, rfl, ?_⟩
      rw [s_t, show decide (V.str ("t" : Str) = V.str ("n" : Str)) = false by decide +kernel]
      refine iteF ⟨_, rfl, rfl, _, rfl, ?_⟩
      rw [decide_eq_true rfl]
      exact iteT ⟨_, rfl, k ht y H (Same.refl H) hy⟩
    · refine ⟨_, rfl, rfl, _, rfl, ?_⟩
      rw [s_r, show decide (V.str ("r" : Str) = V.str ("n" : Str)) = false by decide +kernel]
      refine iteF ⟨_, rfl, rfl, _, rfl, ?_⟩
      rw [show decide (V.str ("r" : Str) = V.str ("t" : Str)) = false by decide +kernel]
      exact iteF ⟨_, rfl, q, r, rfl, hq, hd, hmy, k, ke⟩
theorem ok_deedN {f fP' : Addr} {fd fdP' : FuncData} {n : Nat} (F : Fun K "deed_code" "deed_code" sDeedC f fd) (ml : mg "list" = none) (G : FrmC K w mg) (Fo : FoK K w mg) (DNu : Def P w K mg base "number" 4 ["n"] (spNumber C)) {fRo : Addr} {fdRo : FuncData} (GRo : FnOk P w K mg base (L2N.CX P w) 5 fRo fdRo ["things"] (spRowN C N)) (mgro : mg "row" = some (.ref fRo)) (kro : PySem.W.keepIn K (.ref fRo) = true) (bro : Binds K fdRo ["things"] []) (GP : FnOk P w K mg base (L2N.CX P w) (3 * n + 6) fP' fdP' ["part", "sign"] (spPartN K C N n)) (mgp : mg "part_code" = some (.ref fP')) (kp : PySem.W.keepIn K (.ref fP') = true) (bp : Binds K fdP' ["part", "sign"] []) : FnOk P w K mg base (L2N.CX P w) (3 * n + 7) f fd ["deed"] (spDeedN K C N (n + 1)) := by
  obtain ⟨dF, es, nF, mF, kdd, hk, h7, hks⟩ := Fo.ex
  have kdF := (⟨kdd, h7, hks⟩ : KDict K w dF es nF ∧ es.size = 7 ∧ ∀ (i : Nat) (h : i < es.size), ∃ z t, formKs[i]? = some z ∧ es[i].key = Value.str z t)
  refine okC F scDc (fun vs H Q E h => ?_) (fun cdv A outer s H vs Q E hr h => ?_)
  · obtain ⟨v, d, rfl, _⟩ := h
    rfl
  · obtain ⟨v, d, rfl, hd, hdp, hmy, k, ke⟩ := h
    have hr4 : Room 4 _ := hr.mono (by omega)
    have hr5 : Room 5 _ := hr.mono (by omega)
    have hr0 : Room (3 * n + 6) _ := hr
    refine ⟨_, pss_cons (ps_set (i := 1) scDc.nd rfl (Or.inl rfl) (pe_ix (r := rIxT K) ix_tup (pv 0) pe_int (fun _ _ => rfl))) (pss_cons (ps_set (i := 2) scDc.nd rfl (Or.inl rfl) (pe_lst (pa_cons (pe_def DNu hr4 rfl (pa_cons (pe_bm PySem.F.plainAttrs_list PySem.F.slot_list_index PySem.F.type_list_index mt_index (pe_callTy (call_listKD rfl kdF) (by rfl) ml PyProof.Rows.boot_list (pa_cons (pe_glob (v := .ref dF) rfl mF rfl) pa_nil)) (pa_cons (pv 1) pa_nil)) pa_nil)) pa_nil))) (pss_cons (ps_for (passes_of rfl) rfl (pi_zipTS rfl G.mz (pa_cons (pe_slice sl_tup (pv 0) (po_some pe_int) po_none) (pa_cons (pe_ix (r := rIxD K w) ix_kdict (pe_glob (v := .ref dF) rfl mF rfl) (pv 1) (fun _ _ => rfl)) pa_nil))) (pg_tup rfl (pgs_cons (pg_name (i := 3) scDc.nd rfl (Or.inl rfl)) (pgs_cons (pg_name (i := 4) scDc.nd rfl (Or.inl rfl)) pgs_nil))) (pss_one (ps_expr (pe_bm PySem.F.plainAttrs_list PySem.F.slot_list_append PySem.F.type_list_append mt_append (pv 2) (pa_cons (pe_callS GP hr0 rfl mgp kp bp (fun σ => L2N.passAt (L2N.takes_of rfl rfl rfl rfl) σ) (pa_cons (pv 3) (pa_cons (pv 4) pa_nil))) pa_nil))))) (pss_one (ps_ret (pe_callS GRo hr5 rfl mgro kro bro (fun σ => L2N.passAt (L2N.takes_of rfl rfl rfl rfl) σ) (pa_cons (pv 2) pa_nil)))))), ?_⟩
    have hsl := sizeLine_eq
    obtain ⟨p, its, rfl, hp, hl, hpl, hne, hl3, hall⟩ := deed_partsN d hd hdp hmy
    rw [code_parts] at k ke
    have hki := kix_le d
    obtain ⟨hk1, hk2⟩ := kix_at d
    obtain ⟨tk, hkf⟩ := hk _ (form_in d)
    refine ⟨_, rfl, p, _, 0, _, rfl, rfl, hp, at0 _ _, ?_⟩
    refine ⟨rfl, fun l nl => ?_⟩
    have sl := Same.new nl (o := .lst (strV formKs))
    have el : (upd H l (.lst (strV formKs))) l = some (.lst (strV formKs)) := upd_same
    revert sl el
    generalize upd H l (.lst (strV formKs)) = H1
    intro sl el
    refine ⟨.inl ⟨rfl, _, SqL.of el⟩, _, rfl, l, _, _, d.kix, _, rfl, rfl, SqL.of el, rfl, strV_flat' _, hk1, by simp [eqV], hk2, d.kix, rfl, by omega, fun a H2 s2 ha => ⟨by show 1 ≤ sizeLine; decide, fun L nL => ?_⟩⟩
    have sL := Same.new nL (o := .lst [V.ref a])
    have eL : (upd H2 L (.lst [V.ref a])) L = some (.lst [V.ref a]) := upd_same
    have s02 := sl.trans s2
    have nLH : H L = none := s02.free nL
    revert sL eL
    generalize upd H2 L (.lst [V.ref a]) = H3
    intro sL eL
    have s03 := s02.trans sL
    refine ⟨_, rfl, _, rfl, p, _, rfl, sqt_kt (KT.of s03) hp, ?_, fun q nq => ?_⟩
    · rintro ⟨h0, _⟩
      have e : HT.sIx (its.length + 1) 0 (some 1) = 1 := by
        show min 1 (its.length + 1) = 1
        omega
      rw [List.length_cons, e] at h0
      cases h0
    rw [cut1]
    have sq := Same.new nq (o := .tup its)
    have eq : (upd H3 q (.tup its)) q = some (.tup its) := upd_same
    revert sq eq
    generalize upd H3 q (.tup its) = H4
    intro sq eq
    have s04 := s03.trans sq
    refine ⟨_, rfl, dF, _, .str (formOf d), rfl, rfl, ⟨es, nF, _, kdd.at_, kdd.lit, hkf, ⟨_, rfl⟩⟩, q, _, its, rfl, SqT.of eq, for_it (n := its.length) (walk_zipTS (K := K) (a := q) (t := formOf d) (xs := its) (by rw [← hl, Nat.min_self])) (fun i σ H' => ∃ (x3 x4 : Option V) (us : List V), σ = [some (.ref p), some (.str (kindOf d)), some (.ref L), x3, x4] ∧ Same H H' ∧ SqT K H' q its ∧ H' L = some (.lst us) ∧ Paired (ThV C H') us (num d.kix :: d.prts.take i) ∧ ∀ t ∈ num d.kix :: d.prts.take i, t.size ≤ 4000) ⟨none, none, _, rfl, s04, SqT.of eq, sq _ _ eL, .cons ⟨a, rfl, ha.same (sL.trans sq)⟩ (by rw [List.take_zero]; exact .nil), fun t ht => by
      rw [List.take_zero, List.mem_singleton] at ht
      rw [ht, num_size]
      omega⟩ (fun i σ H' _ z => ?_) ?_ ?_⟩
    · obtain ⟨_, _, _, _, _, hq', _⟩ := z
      exact hq'
    · rintro i y σ H5 H6 hi ⟨x3, x4, us, rfl, s5, hq5, hL5, hus, hall4⟩ ⟨T, x, c, rfl, nT, rfl, hx, hc⟩
      have sT := Same.new nT (o := .tup [x, .str ⟨#[c]⟩])
      have eT : (upd H5 T (.tup [x, .str ⟨#[c]⟩])) T = some (.tup [x, .str ⟨#[c]⟩]) := upd_same
      revert sT eT
      generalize upd H5 T (.tup [x, .str ⟨#[c]⟩]) = H6
      intro sT eT
      obtain ⟨t, ht, hpt⟩ := hall i x c hx hc
      have htz := rowT_size_mem (num d.kix :: d.prts) t (List.mem_cons_of_mem _ (List.mem_of_getElem? ht))
      refine ⟨T, _, rfl, SqT.of eT, rfl, _, _, rfl, _, _, rfl, rfl, ?_⟩
      refine ⟨_, rfl, .inl ⟨rfl, _, SqL.of (sT _ _ hL5)⟩, _, rfl, _, rfl, x, c, t, rfl, hpt.same (s5.trans sT), fun ht4 b H7 s7 hb => ?_, fun h4 => (ke (by omega)).same (s5.trans sT)⟩
      have hL7 := s7 _ _ (sT _ _ hL5)
      have hul := Paired.length hus
      rw [List.length_cons, List.length_take] at hul
      refine ⟨L, _, _, rfl, rfl, hL7, by omega, ?_⟩
      have kt : KT H7 (upd H7 L (.lst (us ++ [V.ref b]))) := KT.lst hL7
      refine ⟨_, _, us ++ [V.ref b], rfl, fun z o' hz' => ?_, sqt_kt kt (sqt_kt (KT.of (sT.trans s7)) hq5), upd_same, ?_, ?_⟩
      · rw [upd_ne (ne_of_none hz' nLH)]
        exact s7 _ _ (sT _ _ (s5 _ _ hz'))
      · have hip := (List.getElem?_eq_some_iff.mp ht).1
        have e9 : num d.kix :: d.prts.take (i + 1) = (num d.kix :: d.prts.take i) ++ [t] := by
          rw [List.take_succ_eq_append_getElem hip, (List.getElem?_eq_some_iff.mp ht).2]
          rfl
        rw [e9]
        exact paired_app (ths_kt kt (ths_kt (KT.of (sT.trans s7)) hus)) (.cons ⟨b, rfl, hb.kt kt⟩ .nil)
      · have hip := (List.getElem?_eq_some_iff.mp ht).1
        rw [List.take_succ_eq_append_getElem hip, (List.getElem?_eq_some_iff.mp ht).2]
        intro u hu
        rw [← List.cons_append, List.mem_append, List.mem_singleton] at hu
        rcases hu with hu | rfl
        · exact hall4 u hu
        · exact ht4
    · rintro σ H5 ⟨x3, x4, us, rfl, s5, hq5, hL5, hus, hall4⟩
      rw [← hpl, List.take_length] at hus hall4
      exact ⟨_, rfl, L, us, _, rfl, hL5, hus, hall4, fun h4 b H6 s6 hb => k h4 b H6 (s5.trans s6) hb, fun h4 => (ke h4).same s5⟩
theorem ok_rowCN {f fD : Addr} {fd fdD : FuncData} {n : Nat} (F : Fun K "row_code" "row_code" sRowC f fd) {fRo : Addr} {fdRo : FuncData} (GRo : FnOk P w K mg base (L2N.CX P w) 5 fRo fdRo ["things"] (spRowN C N)) (mgro : mg "row" = some (.ref fRo)) (kro : PySem.W.keepIn K (.ref fRo) = true) (bro : Binds K fdRo ["things"] []) (GD : FnOk P w K mg base (L2N.CX P w) (3 * n + 7) fD fdD ["deed"] (spDeedN K C N (n + 1))) (mgd : mg "deed_code" = some (.ref fD)) (kd : PySem.W.keepIn K (.ref fD) = true) (bd : Binds K fdD ["deed"] []) : FnOk P w K mg base (L2N.CX P w) (3 * (n + 1) + 5) f fd ["deeds"] (spRowCN K C N (n + 1)) := by
  refine okC F scRc (fun vs H Q E h => ?_) (fun cdv A outer s H vs Q E hr h => ?_)
  · obtain ⟨q, r, rfl, _⟩ := h
    rfl
  · obtain ⟨q, r, rfl, hq, hdp, hmy, k, ke⟩ := h
    have hr5 : Room 5 _ := hr.mono (by omega)
    refine ⟨_, pss_one (ps_ret (pe_callS GRo hr5 rfl mgro kro bro (fun σ => L2N.passAt (L2N.takes_of rfl rfl rfl rfl) σ) (pa_cons (L2N.pe_lcX (WK := fun cls d H => E cls d H) (own := [("deed", 1)]) (g := gName 1) (tt := tYes) rfl rfl (L2N.takes_of rfl rfl rfl rfl) (fun _ _ _ _ h => h) rfl scRc.nd (pi_tup (pv 0)) (blkOk_by (N := ["deeds", "deed"]) (sc := defScope sRowC) (by decide +kernel)) (fun _ _ _ _ _ => (pg_name (i := 1) scRc.nd rfl (Or.inl rfl))) (fun _ _ _ _ _ => pts_nil) (fun _ _ _ _ _ => by exact (pe_callS GD hr rfl mgd kd bd (fun σ => passAt_blk σ) (pa_cons (pv 1) pa_nil)))) pa_nil))), ?_⟩
    have hsl := sizeLine_eq
    obtain ⟨vs, hqv, hvs⟩ := id hq
    have hvl := DsAt.length r vs hvs
    rw [codeR_row] at k ke
    have hml := len_manyN r
    refine ⟨_, rfl, q, rfl, ⟨_, hqv⟩, fun D nD => lc_tup (K := K) (a := q) (xs := vs) (fun i H' => Same H H' ∧ ∃ us, H' D = some (.lst us) ∧ Paired (ThV C H') us ((r.map Dd.code).take i) ∧ ∀ t ∈ (r.map Dd.code).take i, t.size ≤ 4000) ⟨Same.new nD, [], upd_same, by rw [List.take_zero]; exact .nil, fun t ht => by rw [List.take_zero] at ht; cases ht⟩ (fun i H' _ z => sqt_kt (KT.of z.1) hqv) ?_ ?_⟩
    · rintro i v H1 hv ⟨s1, us, hD, hus, hall⟩
      obtain ⟨d, hd, hdv⟩ := DsAt.get r vs i v hvs hv
      have hdm := List.mem_of_getElem? hd
      have hdd := deepR_mem r d hdm
      have hdz := rowT_size_mem (r.map Dd.code) d.code (List.mem_map.mpr ⟨d, hdm, rfl⟩)
      have hul := Paired.length hus
      rw [List.length_take, List.length_map] at hul
      refine ⟨rfl, lc_yes ?_⟩
      refine ⟨_, rfl, v, d, rfl, DAt_kt (KT.of s1) d v hdv, by omega, by have := many_memN r d hdm; omega, fun hd4 a H2 s2 ha => ?_, fun h4 => (ke (by omega)).same s1⟩
      have hD2 := s2 _ _ hD
      have kt : KT H2 (upd H2 D (.lst (us ++ [V.ref a]))) := KT.lst hD2
      have hir := (List.getElem?_eq_some_iff.mp hd).1
      have hmm : (r.map Dd.code)[i]? = some d.code := by rw [List.getElem?_map, hd]; rfl
      have him := (List.getElem?_eq_some_iff.mp hmm).1
      refine ⟨us, hD2, by omega, (s1.trans s2).set nD, us ++ [V.ref a], upd_same, ?_, ?_⟩
      · rw [List.take_succ_eq_append_getElem him, (List.getElem?_eq_some_iff.mp hmm).2]
        exact paired_app (ths_kt kt (ths_kt (KT.of s2) hus)) (.cons ⟨a, rfl, ha.kt kt⟩ .nil)
      · rw [List.take_succ_eq_append_getElem him, (List.getElem?_eq_some_iff.mp hmm).2]
        intro u hu
        rw [List.mem_append, List.mem_singleton] at hu
        rcases hu with hu | rfl
        · exact hall u hu
        · exact hd4
    · rintro H1 ⟨s1, us, hD, hus, hall⟩
      have e : (r.map Dd.code).take vs.length = r.map Dd.code := by
        rw [hvl]
        exact List.take_of_length_le (by rw [List.length_map]; omega)
      rw [e] at hus hall
      exact ⟨D, us, _, rfl, hD, hus, hall, fun h4 a H2 s2 ha => k h4 a H2 (s1.trans s2) ha, fun h4 => (ke h4).same s1⟩
theorem ok_rowCN0 {f : Addr} {fd : FuncData} (F : Fun K "row_code" "row_code" sRowC f fd) : FnOk P w K mg base (L2N.CX P w) (3 * 0 + 5) f fd ["deeds"] (spRowCN K C N 0) := by
  refine okC F scRc (fun vs H Q E h => ?_) (fun cdv A outer s H vs Q E hr h => ?_)
  · obtain ⟨q, r, rfl, _⟩ := h
    rfl
  · obtain ⟨q, r, _, _, h, _⟩ := h
    exact absurd h (Nat.not_lt_zero _)
theorem ok_codesN {fR fD fQ fRo : Addr} {fdR fdD fdQ fdRo : FuncData} (FR : Fun K "row_code" "row_code" sRowC fR fdR) (FD : Fun K "deed_code" "deed_code" sDeedC fD fdD) (FP : Fun K "part_code" "part_code" sPartC fQ fdQ) (ml : mg "list" = none) (G : FrmC K w mg) (Fo : FoK K w mg) (DNu : Def P w K mg base "number" 4 ["n"] (spNumber C)) (GRo : FnOk P w K mg base (L2N.CX P w) 5 fRo fdRo ["things"] (spRowN C N)) (mgro : mg "row" = some (.ref fRo)) (kro : PySem.W.keepIn K (.ref fRo) = true) (bro : Binds K fdRo ["things"] [])
    (mgr : mg "row_code" = some (.ref fR)) (br : Binds K fdR ["deeds"] []) (mgd : mg "deed_code" = some (.ref fD)) (bd : Binds K fdD ["deed"] []) (mgp : mg "part_code" = some (.ref fQ)) (bp : Binds K fdQ ["part", "sign"] []) : ∀ n, FnOk P w K mg base (L2N.CX P w) (3 * n + 5) fR fdR ["deeds"] (spRowCN K C N n)
  | 0 => ok_rowCN0 FR
  | n + 1 => ok_rowCN FR GRo mgro kro bro (ok_deedN FD ml G Fo DNu GRo mgro kro bro (ok_partN FP DNu (ok_codesN FR FD FP ml G Fo DNu GRo mgro kro bro mgr br mgd bd mgp bp n) mgr FR.kp br) mgp FP.kp bp) mgd FD.kp bd
theorem ok_codeOfN {f fR : Addr} {fd fdR : FuncData} (F : Fun K "code_of" "code_of" sCodeOf f fd) (TP : TxtP K mg CP) (GR : FnOk P w K mg base (L2N.CX P w) 32 fR fdR ["deeds"] (spRowCN K C N 9)) (mgr : mg "row_code" = some (.ref fR)) (kr : PySem.W.keepIn K (.ref fR) = true) (br : Binds K fdR ["deeds"] []) : FnOk P w K mg base (L2N.CX P w) 33 f fd ["program"] (spCodeN K C CP N) := by
  refine okC F scCo (fun vs H Q E h => ?_) (fun cdv A outer s H vs Q E hr h => ?_)
  · obtain ⟨a, r, rfl, _⟩ := h
    rfl
  · obtain ⟨a, r, rfl, ha, k, ke⟩ := h
    refine ⟨_, pss_one (ps_ret (pe_callS GR hr rfl mgr kr br (fun σ => L2N.passAt (L2N.takes_of rfl rfl rfl rfl) σ) (pa_cons (pe_fld (pv 0) rfl) pa_nil))), ?_⟩
    obtain ⟨dx, q, pl, ys, h1, h2, _, _⟩ := ha.ex
    have := ha.dp
    exact ⟨_, rfl, _, _, _, _, _, rfl, h1, TP.cl, TP.nD, pf_deeds _ _, q, r, rfl, h2, by omega, ha.mn, k, ke⟩
end
end Js

set_option Elab.async false
set_option linter.all false
set_option maxRecDepth 100000
set_option maxHeartbeats 2000000
namespace Js
open PySem L2
theorem repl_succ' (n : Nat) (xs : List Nat) : repl (n + 1) xs = repl n xs ++ xs := by
  induction n with
  | zero => simp [repl]
  | succ n ih =>
    have e : repl (n + 1 + 1) xs = xs ++ repl (n + 1) xs := repl_succ (n + 1) xs
    rw [e, ih, ← List.append_assoc, ← repl_succ n xs, ih]
def numT : Nat → Tr
  | 0 => .nil
  | n + 1 => .pr .nil (numT n)
theorem numT_size : ∀ n, (numT n).size = n
  | 0 => rfl
  | n + 1 => by simp only [numT, Tr.size, numT_size n]; omega
theorem numT_codes : ∀ n, (numT n).codes = repl n [40, 46] ++ [46] ++ repl n [41]
  | 0 => rfl
  | n + 1 => by
    have ih := numT_codes n
    show 40 :: ([46] ++ ((numT n).codes ++ [41])) = _
    rw [ih, repl_succ n [40, 46], repl_succ' n [41]]
    simp
def lcT : Nat → Tr
  | 0 => .nil
  | n + 1 => .pr (lcT n) .nil
theorem lcT_size : ∀ n, (lcT n).size = n
  | 0 => rfl
  | n + 1 => by simp only [lcT, Tr.size, lcT_size n]; omega
theorem lcT_codes : ∀ n, (lcT n).codes = repl n [40] ++ [46] ++ repl n [46, 41]
  | 0 => rfl
  | n + 1 => by
    have ih := lcT_codes n
    show 40 :: ((lcT n).codes ++ ([46] ++ [41])) = _
    rw [ih, repl_succ n [40], repl_succ' n [46, 41]]
    simp
def tV (t : Tr) : V := .str t.text
theorem list_split : ∀ (n : Nat) (ts : List Tr), n + 1 < ts.length → ∃ tp t u tq, ts = tp ++ t :: u :: tq ∧ tp.length = n
  | 0, t :: u :: tq, _ => ⟨[], t, u, tq, rfl, rfl⟩
  | 0, [t], h => by simp at h
  | 0, [], h => by simp at h
  | n + 1, [], h => by simp at h
  | n + 1, t :: ts, h => by
    obtain ⟨tp, x, u, tq, e, l⟩ := list_split n ts (by simpa using h)
    exact ⟨t :: tp, x, u, tq, by rw [e]; rfl, by simp [l]⟩
def tsz' (ts : List Tr) : Nat := (ts.map Tr.size).sum
theorem tsz'_append (a b : List Tr) : tsz' (a ++ b) = tsz' a + tsz' b := by simp [tsz']
theorem tsz'_cons (a : Tr) (b : List Tr) : tsz' (a :: b) = a.size + tsz' b := by simp [tsz']
theorem tsz'_rep (n : Nat) : tsz' (List.replicate n .nil) = 0 := by
  induction n with
  | zero => rfl
  | succ n ih => rw [List.replicate_succ, tsz'_cons, ih]; rfl
theorem rep_dots (n : Nat) : (List.replicate n [V.str "."]).flatten = (List.replicate n Tr.nil).map tV := by
  induction n with
  | zero => rfl
  | succ n ih =>
    rw [List.replicate_succ, List.flatten_cons, ih, List.replicate_succ, List.map_cons, dot_eq]
    rfl
theorem c_40 : (("(" : Str)) = tx [40] := by decide +kernel
theorem c_41 : ((")" : Str)) = tx [41] := by decide +kernel
theorem c_46 : (("." : Str)) = tx [46] := by decide +kernel
theorem c_4046 : (("(." : Str)) = tx [40, 46] := by decide +kernel
theorem c_4641 : ((".)" : Str)) = tx [46, 41] := by decide +kernel
def spText : Sp := fun vs H Q _ => ∃ (p : Addr) (m : Nat), vs = [.ref p, .int (m : Nat)] ∧ BagOk H p ∧ m ≤ 400 ∧ ∀ (t : Tr) H', KB p H H' → BagOk H' p → t.size = m → Q (.str t.text) H'
/-- '(' + x + y + ')' -/
theorem pair_text (t u : Tr) : tx ([40] ++ t.codes ++ u.codes ++ [41]) = (Tr.pr t u).text := by
  rw [tx_text]
  congr 1
  simp [Tr.codes]
end Js

set_option Elab.async false
set_option linter.all false
set_option maxRecDepth 100000
set_option maxHeartbeats 2000000
namespace Js
open PySem L2
open PySem PySem.Spec PyProof.Rows L2
abbrev sNt16 : Stmt := top 54
abbrev sRowText : Stmt := top 55
abbrev sLc16 : Stmt := top 56
theorem num_numT : ∀ n, num n = numT n
  | 0 => rfl
  | n + 1 => by rw [num, numT, num_numT n]
theorem num_text (n : Nat) : (num n).text = tx (repl n [40, 46] ++ [46] ++ repl n [41]) := by rw [tx_text, num_numT, numT_codes]
def opens (ts : List Tr) : List Nat := (ts.map fun t => 40 :: t.codes).flatten
theorem row_codes : ∀ ts : List Tr, (rowT ts).codes = opens ts ++ [46] ++ repl ts.length [41]
  | [] => rfl
  | t :: r => by
    have ih := row_codes r
    show 40 :: (t.codes ++ ((rowT r).codes ++ [41])) = _
    rw [ih, List.length_cons, repl_succ' r.length [41]]
    simp [opens]
theorem joinL_opens : ∀ ts : List Tr, TL.joinL [] ((ts.map fun t => tx (40 :: t.codes)).map TL.tl) = opens ts
  | [] => rfl
  | [t] => by simp [opens, TL.joinL]; rfl
  | t :: u :: r => by
    have ih := joinL_opens (u :: r)
    show (40 :: t.codes) ++ ([] ++ TL.joinL [] (((u :: r).map fun t => tx (40 :: t.codes)).map TL.tl)) = _
    rw [ih]
    simp [opens]
theorem join_opens (ts : List Tr) : PySem.Txt.join ("" : Str) (ts.map fun t => tx (40 :: t.codes)) = tx (opens ts) := by
  rw [TL.join_eq]
  refine PyProof.Rows.ext_toList ?_
  exact (TL.tl_join _ _).trans (joinL_opens ts)
theorem opens_len (ts : List Tr) : (opens ts).length + ts.length + 1 = 3 * (rowT ts).size + 1 := by
  have h := congrArg List.length (row_codes ts)
  rw [Tr.codes_len] at h
  simp only [List.length_append, repl_len, List.length_cons, List.length_nil] at h
  omega
theorem row_mem : ∀ (ts : List Tr) (t : Tr), t ∈ ts → t.size < (rowT ts).size
  | u :: r, t, h => by
    simp only [rowT, Tr.size]
    rcases List.mem_cons.mp h with rfl | h
    · omega
    · have := row_mem r t h
      omega
theorem opens_sum (ts : List Tr) : ((ts.map fun t => tx (40 :: t.codes)).map (·.length)).sum = (opens ts).length := by
  induction ts with
  | nil => rfl
  | cons t r ih =>
    simp only [List.map_cons, List.sum_cons, ih, opens, List.flatten_cons, List.length_append]
    rw [tx_len]
theorem tyT16 {K : PySem.W.Frag} {H : Hp} {a : Addr} {xs : List V} (h : SqT K H a xs) : TyX K H (.ref a) (.type "tuple") := by
  rcases h with (h | ⟨o, h⟩) | ⟨o, its, n, h1, h2, _⟩
  · exact .base (.tup h)
  · exact .fTuple h
  · exact .kTuple h1 h2
def spNt : Sp := fun vs H Q _ => ∃ n : Nat, vs = [.int (n : Nat)] ∧ n ≤ 1000 ∧ ∀ H', Same H H' → Q (.str (num n).text) H'
def spRowText (K : PySem.W.Frag) : Sp := fun vs H Q _ => ∃ (l : Addr) (ts : List Tr), vs = [.ref l] ∧ SqL K H l (ts.map fun u => .str u.text) ∧ (rowT ts).size ≤ 100000 ∧ ∀ H', Same H H' → Q (.str (rowT ts).text) H'
def spLc16 (K : PySem.W.Frag) (C : Addr) (n : Nat) : Sp := fun vs H Q _ => ∃ q r, vs = [.ref q] ∧ RAt K C H q r ∧ deepR r < n ∧ manyR r ≤ 4000 ∧ (codeR r).size ≤ 100000 ∧ ∀ H', Same H H' → Q (.str (codeR r).text) H'
section
variable {P : Program} {w : World} {K : PySem.W.Frag} {mg : Str → Option Value} {base : Heap} {C : Addr}
theorem scNt : FnScope ["_law_n"] ["_law_n"] (defScope sNt16) := ⟨rfl, rfl, rfl, by decide +kernel, rfl, by decide +kernel, by decide +kernel⟩
theorem scLc16 : FnScope ["_law_deeds_here", "_law_kinds", "_law_found", "_law_deed_here", "_law_some", "_law_piece"] ["_law_deeds_here"] (defScope sLc16) := ⟨rfl, rfl, rfl, by decide +kernel, rfl, by decide +kernel, by decide +kernel⟩
theorem ok_nt {f : Addr} {fd : FuncData} (F : Fun K "_law_number_text" "_law_number_text" sNt16 f fd) : FnOk P w K mg base CX0 1 f fd ["_law_n"] spNt := by
  refine F.ok scNt (fun vs H Q E h => ?_) (fun cdv A outer s H vs Q E hr h => ?_)
  · obtain ⟨n, rfl, _⟩ := h
    rfl
  · obtain ⟨n, rfl, hn, k⟩ := h
    refine ⟨_, pss_one (ps_ret (pe_op op_addX (pe_op op_addX (pe_op op_mulS pe_str (pv 0)) pe_str) (pe_op op_mulS pe_str (pv 0)))), ?_⟩
    refine ⟨_, rfl, _, n, congrArg V.str c_4046, rfl, by simp; omega, by omega, by simp, _, _, rfl, congrArg V.str c_46, by rw [repl_len]; simp; omega, _, rfl, _, n, congrArg V.str c_41, rfl, by simp; omega, by omega, by simp, _, _, rfl, rfl, ?_, ?_⟩
    · simp only [List.length_append, repl_len, List.length_cons, List.length_nil]; omega
    rw [← num_text]
    exact k H (Same.refl H)
theorem scRT : FnScope ["_law_texts", "_law_text"] ["_law_texts"] (defScope sRowText) := ⟨rfl, rfl, rfl, by decide +kernel, rfl, by decide +kernel, by decide +kernel⟩
theorem ok_rowText {f : Addr} {fd : FuncData} (F : Fun K "_law_row_text" "_law_row_text" sRowText f fd) (B : Blt mg) : FnOk P w K mg base CX0 1 f fd ["_law_texts"] (spRowText K) := by
  refine F.ok scRT (fun vs H Q E h => ?_) (fun cdv A outer s H vs Q E hr h => ?_)
  · obtain ⟨l, ts, rfl, _⟩ := h
    rfl
  · obtain ⟨l, ts, rfl, hl, hz, k⟩ := h
    refine ⟨_, pss_one (ps_ret (pe_op op_addX (pe_op op_addX (pe_join pe_str (pe_lc (own := [("_law_text", 1)]) (g := gName 1) (tt := tYes) rfl scRT.nd (pi_list (pv 0)) (blkOk_by (N := ["_law_texts", "_law_text"]) (sc := defScope sRowText) (by decide +kernel)) (fun _ _ _ _ _ => pg_name (i := 1) scRT.nd rfl (Or.inl rfl)) (fun _ _ _ _ _ => pts_nil) (fun _ _ _ _ _ => (pe_op op_addX pe_str (pv 1))))) pe_str) (pe_op op_mulS pe_str (pe_callB call_len_seq (by rfl) B.len PySem.boot_len (pa_cons (pv 0) pa_nil))))), ?_⟩
    have hsl : 1000000 < sizeLine := by rw [sizeLine_eq]; decide
    have hol := opens_len ts
    have hos := opens_sum ts
    refine ⟨⟨_, rfl⟩, _, rfl, l, rfl, ⟨_, hl⟩, fun R nR => lc_list (K := K) (a := l) (xs := ts.map fun u => .str u.text) (fun i H' => Same H H' ∧ H' R = some (.lst ((ts.take i).map fun t => .str (tx (40 :: t.codes))))) ⟨Same.new nR, upd_same⟩ (fun i H' _ z => z.1.seq hl) ?_ ?_⟩
    · rintro i y H8 hy ⟨s8, hR⟩
      rw [List.getElem?_map] at hy
      obtain ⟨t, ht, rfl⟩ := Option.map_eq_some_iff.mp hy
      have hi := (List.getElem?_eq_some_iff.mp ht).1
      have eg := (List.getElem?_eq_some_iff.mp ht).2
      have hcl := Tr.codes_len t
      have hmt := row_mem ts t (List.mem_of_getElem? ht)
      refine ⟨rfl, lc_yes ?_⟩
      refine ⟨_, rfl, [40], t.codes, congrArg V.str c_40, rfl, by simp; omega, ?_⟩
      have hlt := rowT_len ts
      refine ⟨_, hR, by rw [List.length_map, List.length_take]; omega, s8.set nR, ?_⟩
      rw [upd_same, List.take_succ_eq_append_getElem hi, eg, List.map_append]
      rfl
    · rintro H8 ⟨s8, hR⟩
      rw [List.length_map, List.take_length] at hR
      have hlt := rowT_len ts
      have hR' : H8 R = some (.lst ((ts.map fun t => tx (40 :: t.codes)).map V.str)) := by
        rw [hR, List.map_map]
        rfl
      refine ⟨"", R, ts.map (fun t => tx (40 :: t.codes)), rfl, rfl, .inl (SqL.of hR'), ?_, ?_⟩
      · rw [hos, show (("" : Str)).length = 0 from rfl]
        omega
      rw [join_opens]
      refine ⟨_, _, rfl, congrArg V.str c_46, by simp; omega, _, rfl, l, _, rfl, .inl (s8.seq hl), [41], ts.length, congrArg V.str c_41, ?_, by simp; omega, by omega, by simp, _, _, rfl, rfl, ?_, ?_⟩
      · rw [List.length_map]
      · simp only [List.length_append, repl_len, List.length_cons, List.length_nil]
        omega
      · have hk := k H8 s8
        rw [tx_text, row_codes] at hk
        exact hk
theorem ok_lc16 {f : Addr} {fd : FuncData} (F : Fun K "_law_code" "_law_code" sLc16 f fd) (mgf : mg "_law_code" = some (.ref f)) (b : Binds K fd ["_law_deeds_here"] []) (B : Blt mg) (T : Txt K mg C) (mt : mg "tuple" = none) (Ci : PySem.W.kitOne K (.ref C) (.type "int") = some false) (Ct : PySem.W.kitOne K (.ref C) (.type "tuple") = some false) (SS : Spc P w K mg base C "__str__" 2 ["self"] (spStr C)) (DNt : Def P w K mg base "_law_number_text" 1 ["_law_n"] spNt) (DRt : Def P w K mg base "_law_row_text" 1 ["_law_texts"] (spRowText K)) : ∀ n, FnOk P w K mg base CX0 (n + 5) f fd ["_law_deeds_here"] (spLc16 K C n) := by
  intro n
  induction n with
  | zero =>
    refine F.ok scLc16 (fun vs H Q E h => ?_) (fun cdv A outer s H vs Q E hr h => ?_)
    · obtain ⟨q, r, rfl, _⟩ := h
      rfl
    · obtain ⟨q, r, _, _, h, _⟩ := h
      exact absurd h (Nat.not_lt_zero _)
  | succ n G' =>
  refine F.ok scLc16 (fun vs H Q E h => ?_) (fun cdv A outer s H vs Q E hr h => ?_)
  · obtain ⟨q, r, rfl, _⟩ := h
    rfl
  · obtain ⟨q, r, rfl, hq, hdp, hmy, hz, k⟩ := h
    have hr1 : Room 1 _ := hr.mono (by omega)
    have hr4 : Room 4 _ := hr.mono (by omega)
    refine ⟨_, pss_cons (ps_set (i := 1) scLc16.nd rfl (Or.inl rfl) (pe_lst (pa_cons pe_str (pa_cons pe_str (pa_cons pe_str (pa_cons pe_str (pa_cons pe_str (pa_cons pe_str (pa_cons pe_str pa_nil))))))))) (pss_cons (ps_set (i := 2) scLc16.nd rfl (Or.inl rfl) (pe_lst pa_nil)) (pss_cons (ps_for PassesOwn.never rfl (pi_tup (pv 0)) (pg_name (i := 3) scLc16.nd rfl (Or.inl rfl)) (pss_cons (ps_set (i := 4) scLc16.nd rfl (Or.inl rfl) (pe_lst (pa_cons (pe_def DNt hr1 rfl (pa_cons (pe_bm PySem.F.plainAttrs_list PySem.F.slot_list_index PySem.F.type_list_index mt_index (pv 1) (pa_cons (pe_ix (r := rIxT K) ix_tup (pv 3) pe_int (fun _ _ => rfl)) pa_nil)) pa_nil)) pa_nil))) (pss_cons (ps_for PassesOwn.never rfl (pi_tup (pe_slice sl_tup (pv 3) (po_some pe_int) po_none)) (pg_name (i := 5) scLc16.nd rfl (Or.inl rfl)) (pss_one (ps_if (pt_val (pe_callB (r := rIsi K) call_isi (by rfl) T.isi PyProof.Rows.boot_isinstance (pa_cons (pv 5) (pa_cons (pe_bltn (v := .ty "int") rfl B.int PyProof.Rows.boot_int rfl) pa_nil)))) (pss_one (ps_expr (pe_bm PySem.F.plainAttrs_list PySem.F.slot_list_append PySem.F.type_list_append mt_append (pv 4) (pa_cons (pe_def DNt hr1 rfl (pa_cons (pv 5) pa_nil)) pa_nil)))) (pss_one (ps_if (pt_val (pe_callB (r := rIsi K) call_isi (by rfl) T.isi PyProof.Rows.boot_isinstance (pa_cons (pv 5) (pa_cons (pe_bltn (v := .ty "tuple") rfl mt PyProof.Rows.boot_tuple rfl) pa_nil)))) (pss_one (ps_expr (pe_bm PySem.F.plainAttrs_list PySem.F.slot_list_append PySem.F.type_list_append mt_append (pv 4) (pa_cons (pe_call G' hr rfl mgf F.kp b .nil pass0 (pa_cons (pv 5) pa_nil)) pa_nil)))) (pss_one (ps_expr (pe_bm PySem.F.plainAttrs_list PySem.F.slot_list_append PySem.F.type_list_append mt_append (pv 4) (pa_cons (pe_callTy (call_strT SS hr4) (by rfl) B.str PyProof.Rows.boot_str (pa_cons (pv 5) pa_nil)) pa_nil))))))))) (pss_one (ps_expr (pe_bm PySem.F.plainAttrs_list PySem.F.slot_list_append PySem.F.type_list_append mt_append (pv 2) (pa_cons (pe_def DRt hr1 rfl (pa_cons (pv 4) pa_nil)) pa_nil))))))) (pss_one (ps_ret (pe_def DRt hr1 rfl (pa_cons (pv 2) pa_nil)))))), ?_⟩
    have hsl := line4
    obtain ⟨vs, hqv, hvs⟩ := id hq
    have hvl := DsAt.length r vs hvs
    have hml := len_manyN r
    rw [codeR_row] at hz k
    refine ⟨by show 7 ≤ sizeLine; omega, fun L1 nL1 => ?_⟩
    have s1 := Same.new nL1 (o := .lst (strV formKs))
    have e1 : (upd H L1 (.lst (strV formKs))) L1 = some (.lst (strV formKs)) := upd_same
    revert s1 e1
    show Same H (upd H L1 (.lst [V.str "told", V.str "first", V.str "second", V.str "pair", V.str "same", V.str "while", V.str "if"])) → (upd H L1 (.lst [V.str "told", V.str "first", V.str "second", V.str "pair", V.str "same", V.str "while", V.str "if"])) L1 = some (.lst (strV formKs)) → _
    generalize upd H L1 (.lst [V.str "told", V.str "first", V.str "second", V.str "pair", V.str "same", V.str "while", V.str "if"]) = H1
    intro s1 e1
    refine ⟨Nat.zero_le _, fun L2 nL2 => ?_⟩
    have s2 := Same.new nL2 (o := .lst [])
    have e2 : (upd H1 L2 (.lst [])) L2 = some (.lst []) := upd_same
    revert s2 e2
    generalize upd H1 L2 (.lst []) = H2
    intro s2 e2
    refine ⟨_, rfl, q, rfl, ⟨_, sqt_kt (KT.of (s1.trans s2)) hqv⟩, for_tup (K := K) (a := q) (xs := vs) (fun i σ H' => ∃ x3 x4 x5 : Option V, σ = [some (.ref q), some (.ref L1), some (.ref L2), x3, x4, x5] ∧ Same H1 H' ∧ H' L2 = some (.lst (((r.take i).map Dd.code).map fun u => .str u.text))) ⟨none, none, none, rfl, s2, e2⟩ (fun i σ H' _ z => by obtain ⟨_, _, _, _, z, _⟩ := z; exact sqt_kt (KT.of (s1.trans z)) hqv) ?_ ?_⟩
    · rintro i v σ H3 hv ⟨x3, x4, x5, rfl, s3, e3⟩
      obtain ⟨d, hd, hdv⟩ := DsAt.get r vs i v hvs hv
      have hdm := List.mem_of_getElem? hd
      have hdd := deepR_mem r d hdm
      have hdy := many_memN r d hdm
      have hdz := rowT_size_mem (r.map Dd.code) d.code (List.mem_map.mpr ⟨d, hdm, rfl⟩)
      obtain ⟨p, its, rfl, hp, hl, hpl, hne, hl3, hall⟩ := deed_partsN (n := n) d hdv (by omega) (by omega)
      rw [code_parts] at hdz
      have hki := kix_le d
      obtain ⟨hk1, hk2⟩ := kix_at d
      have s03 := s1.trans s3
      have hp3 := sqt_kt (KT.of s03) hp
      have e13 := s3 _ _ e1
      refine ⟨_, rfl, .inl ⟨rfl, _, SqL.of e13⟩, _, rfl, p, _, 0, _, rfl, rfl, hp3, at0 _ _, L1, _, _, d.kix, _, rfl, rfl, SqL.of e13, rfl, strV_flat' _, hk1, by simp [eqV], hk2, d.kix, rfl, by omega, fun H4 s4 => ?_⟩
      refine ⟨by show 1 ≤ sizeLine; omega, fun L4 nL4 => ?_⟩
      have s5 := Same.new nL4 (o := .lst [V.str (num d.kix).text])
      have e5 : (upd H4 L4 (.lst [V.str (num d.kix).text])) L4 = some (.lst [V.str (num d.kix).text]) := upd_same
      revert s5 e5
      generalize upd H4 L4 (.lst [V.str (num d.kix).text]) = H5
      intro s5 e5
      have s35 := s4.trans s5
      refine ⟨_, rfl, _, rfl, p, _, rfl, sqt_kt (KT.of s35) hp3, ?_, fun q5 nq5 => ?_⟩
      · rintro ⟨h0, _⟩
        have e : HT.sIx (its.length + 1) 0 (some 1) = 1 := by
          show min 1 (its.length + 1) = 1
          omega
        rw [List.length_cons, e] at h0
        cases h0
      rw [cut1]
      have s6 := Same.new nq5 (o := .tup its)
      have e6 : (upd H5 q5 (.tup its)) q5 = some (.tup its) := upd_same
      revert s6 e6
      generalize upd H5 q5 (.tup its) = H6
      intro s6 e6
      have s36 := s35.trans s6
      refine ⟨q5, rfl, ⟨_, SqT.of e6⟩, for_tup (K := K) (a := q5) (xs := its) (fun j σ H' => ∃ y5 : Option V, σ = [some (.ref q), some (.ref L1), some (.ref L2), some (.ref p), some (.ref L4), y5] ∧ Same H4 H' ∧ SqT K H' q5 its ∧ H' L4 = some (.lst ((num d.kix :: d.prts.take j).map fun u => .str u.text))) ⟨_, rfl, s5.trans s6, SqT.of e6, by rw [List.take_zero]; exact s6 _ _ e5⟩ (fun j σ H' _ z => by obtain ⟨_, _, _, z, _⟩ := z; exact z) ?_ ?_⟩
      · rintro j x σ H7 hx ⟨y5, rfl, s7, hq7, e7⟩
        obtain ⟨c, hc⟩ : ∃ c, (formOf d).cps[j]? = some c := ⟨_, Array.getElem?_eq_getElem (by have := (List.getElem?_eq_some_iff.mp hx).1; omega)⟩
        obtain ⟨t, ht, hpt⟩ := hall j x c hx hc
        have htz := rowT_size_mem (num d.kix :: d.prts) t (List.mem_cons_of_mem _ (List.mem_of_getElem? ht))
        have s37 := s4.trans s7
        have hip := (List.getElem?_eq_some_iff.mp ht).1
        have e9 : num d.kix :: d.prts.take (j + 1) = (num d.kix :: d.prts.take j) ++ [t] := by
          rw [List.take_succ_eq_append_getElem hip, (List.getElem?_eq_some_iff.mp ht).2]
          rfl
        have nL4' : H4 L4 = none := nL4
        have fin : ∀ H8, Same H7 H8 → (((num d.kix :: d.prts.take j).map fun u => V.str u.text).length < sizeLine) ∧ Same H4 (upd H8 L4 (.lst (((num d.kix :: d.prts.take j).map fun u => V.str u.text) ++ [V.str t.text]))) ∧ SqT K (upd H8 L4 (.lst (((num d.kix :: d.prts.take j).map fun u => V.str u.text) ++ [V.str t.text]))) q5 its ∧
            (upd H8 L4 (.lst (((num d.kix :: d.prts.take j).map fun u => V.str u.text) ++ [V.str t.text]))) L4 = some (.lst ((num d.kix :: d.prts.take (j + 1)).map fun u => V.str u.text)) := fun H8 s8 => by
          have e8 := s8 _ _ e7
          refine ⟨?_, ?_, ?_, ?_⟩
          · rw [List.length_map, List.length_cons, List.length_take]
            omega
          · intro z o' hz'
            rw [upd_ne (ne_of_none hz' nL4')]
            exact s8 _ _ (s7 _ _ hz')
          · exact sqt_kt (KT.lst e8) (sqt_kt (KT.of s8) hq7)
          · rw [upd_same, e9, List.map_append]
            rfl
        rcases hpt.same (s03.trans s37) with ⟨rfl, a, ha, rfl, rfl⟩ | ⟨rfl, y, rfl, hy, hyz⟩ | ⟨rfl, q', r', rfl, hq', hd', hmy', rfl⟩
        · refine ⟨_, rfl, _, _, _, _, true, rfl, ClsV.ty _, .base (.int _), kit_ty (by decide +kernel), _, rfl, iteT ?_⟩
          refine ⟨_, rfl, .inl ⟨rfl, _, SqL.of e7⟩, _, rfl, a, rfl, by omega, fun H8 s8 => ?_⟩
          obtain ⟨g1, g2, g3, g4⟩ := fin H8 s8
          exact ⟨L4, _, _, rfl, rfl, s8 _ _ e7, g1, _, rfl, g2, g3, g4⟩
        · obtain ⟨d1, f1, f2, hob⟩ := hy.obj
          refine ⟨_, rfl, _, _, _, _, false, rfl, ClsV.ty _, .base (.ins hob T.cl T.ca T.cn T.ct T.cm), Ci, _, rfl, iteF ?_⟩
          refine ⟨_, rfl, _, _, _, _, false, rfl, ClsV.ty _, .base (.ins hob T.cl T.ca T.cn T.ct T.cm), Ct, _, rfl, iteF ?_⟩
          refine ⟨_, rfl, .inl ⟨rfl, _, SqL.of e7⟩, _, rfl, y, t, rfl, hy, hyz, fun H8 s8 => ?_⟩
          obtain ⟨g1, g2, g3, g4⟩ := fin H8 s8
          exact ⟨L4, _, _, rfl, rfl, s8 _ _ e7, g1, _, rfl, g2, g3, g4⟩
        · obtain ⟨vq, hvq, _⟩ := id hq'
          refine ⟨_, rfl, _, _, _, _, false, rfl, ClsV.ty _, tyT16 hvq, kit_ty (by decide +kernel), _, rfl, iteF ?_⟩
          refine ⟨_, rfl, _, _, _, _, true, rfl, ClsV.ty _, tyT16 hvq, kit_ty (by decide +kernel), _, rfl, iteT ?_⟩
          refine ⟨_, rfl, .inl ⟨rfl, _, SqL.of e7⟩, _, rfl, q', r', rfl, hq', hd', hmy', by omega, fun H8 s8 => ?_⟩
          obtain ⟨g1, g2, g3, g4⟩ := fin H8 s8
          exact ⟨L4, _, _, rfl, rfl, s8 _ _ e7, g1, _, rfl, g2, g3, g4⟩
      · rintro σ H7 ⟨y5, rfl, s7, hq7, e7⟩
        rw [← hpl, List.take_length] at e7
        have s37 := s4.trans s7
        have e37 := s37 _ _ e3
        refine ⟨_, rfl, .inl ⟨rfl, _, SqL.of e37⟩, _, rfl, L4, num d.kix :: d.prts, rfl, SqL.of e7, by omega, fun H8 s8 => ?_⟩
        have hir := (List.getElem?_eq_some_iff.mp hd).1
        have hmm : (r.map Dd.code)[i]? = some d.code := by rw [List.getElem?_map, hd]; rfl
        have e38 := s8 _ _ e37
        refine ⟨L2, _, _, rfl, rfl, e38, ?_, _, _, _, rfl, ?_, ?_⟩
        · rw [List.length_map, List.length_map, List.length_take]
          omega
        · intro z o' hz'
          rw [upd_ne (ne_of_none hz' nL2)]
          exact s8 _ _ (s37 _ _ (s3 _ _ hz'))
        · rw [upd_same, List.take_succ_eq_append_getElem hir, (List.getElem?_eq_some_iff.mp hd).2, List.map_append, List.map_append, ← code_parts]
          rfl
    · rintro σ H3 ⟨x3, x4, x5, rfl, s3, e3⟩
      rw [hvl, List.take_length] at e3
      exact ⟨_, rfl, L2, r.map Dd.code, rfl, SqL.of e3, hz, fun H4 s4 => k H4 ((s1.trans s3).trans s4)⟩
end
end Js

set_option Elab.async false
set_option linter.all false
set_option maxRecDepth 100000
set_option maxHeartbeats 2000000
/-! for a, b in zip(list, text) -/
namespace JsZL
open PySem PySem.Spec PyProof.Rows L2
abbrev zs1 (h : Heap) (l : Addr) : Heap := h.push { cls := .type "list_iterator", data := .fields #[.ref l, .int 0 0] }
abbrev zs2 (h : Heap) (l : Addr) (x : Str) (t : Tok) : Heap := (zs1 h l).push { cls := .type (strIterType x), data := .fields #[.str x t, .int 0 0] }
abbrev zs3 (h : Heap) (l : Addr) (x : Str) (t : Tok) : Heap := (zs2 h l x t).push { cls := .type "tuple", data := .seq #[.ref h.objs.size, .ref (zs1 h l).objs.size] }
abbrev zs4 (h : Heap) (l : Addr) (x : Str) (t : Tok) : Heap := (zs3 h l x t).push { cls := .type "tuple", data := .seq #[.none, .none] }
abbrev zs5 (h : Heap) (l : Addr) (x : Str) (t : Tok) : Heap := (zs4 h l x t).push { cls := .type "zip", data := .fields #[.none, .bool false, .bool false, .ref (zs2 h l x t).objs.size, .ref (zs3 h l x t).objs.size] }
theorem new_zipLS (l : Addr) (x : Str) (t : Tok) (us : Array Value) :
    Meets (Builtin.«zip.__new__» ⟨[.type "zip", .ref l, .str x t], []⟩) (fun _ R s => s.heap.IsList l us ∧ R (.ok (.ret (.ref (zs4 s.heap l x t).objs.size))) { s with heap := zs5 s.heap l x t }) :=
  .of_wp fun prog w A R s h => by
    obtain ⟨hp, g, d, tk, os⟩ := s; obtain ⟨h1, h⟩ := h
    have hsub := sub_zip
    have hL : Heap.IsList (Shared.heap ⟨hp, g, d, tk, os⟩) l us := h1
    wp_walk using wpAny_pyIter_list hL, wpAny_pyIter_strU
    exact ⟨_, rfl, h⟩
section
variable {prog : Program} {w : World} {A : Around} {E : Value → Shared → Prop} {s : Shared}
theorem call_zipLS {l : Addr} {x : Str} {t : Tok} {us : Array Value} {Q : Value → Shared → Prop} (hl : s.heap.IsList l us)
    (h : ∀ h', IsZip h' (s.heap.objs.size + 4) (s.heap.objs.size + 2) (s.heap.objs.size + 3) .none → IsPair h' (s.heap.objs.size + 2) (.ref s.heap.objs.size) (.ref (s.heap.objs.size + 1)) →
      IsPair h' (s.heap.objs.size + 3) .none .none → h'.IsListIter s.heap.objs.size l 0 → h'.IsStrIter (s.heap.objs.size + 1) (strIterType x) x t 0 → h'.objs.size = s.heap.objs.size + 5 →
      (∀ c o, s.heap.get? c = some o → h'.get? c = some o) → Q (.ref (s.heap.objs.size + 4)) { s with heap := h' }) :
    wpAny (model prog w) A (call (.type "zip") [.ref l, .str x t]) Q E s := by
  refine callType_new F.called_zip (by decide) (F.typeCall_zip_2 _ _) (F.newCall_zip_2 _ _) (fun obj => F.args_object_init_3 obj _ _) F.entry_zip_new (new_zipLS l x t us) ⟨hl, ?_⟩
  have z1 : (zs1 s.heap l).objs.size = s.heap.objs.size + 1 := Heap.size_push ..
  have z2 : (zs2 s.heap l x t).objs.size = s.heap.objs.size + 2 := by rw [Heap.size_push, z1]
  have z3 : (zs3 s.heap l x t).objs.size = s.heap.objs.size + 3 := by rw [Heap.size_push, z2]
  have z4 : (zs4 s.heap l x t).objs.size = s.heap.objs.size + 4 := by rw [Heap.size_push, z3]
  have z5 : (zs5 s.heap l x t).objs.size = s.heap.objs.size + 5 := by rw [Heap.size_push, z4]
  have g5 : (zs5 s.heap l x t).get? (zs4 s.heap l x t).objs.size = some _ := Heap.get?_push_size _ rfl
  have g4 : (zs5 s.heap l x t).get? (zs3 s.heap l x t).objs.size = some _ := Heap.get?_push_of_some _ (Heap.get?_push_size _ rfl)
  have g3 : (zs5 s.heap l x t).get? (zs2 s.heap l x t).objs.size = some _ := Heap.get?_push_of_some _ (Heap.get?_push_of_some _ (Heap.get?_push_size _ rfl))
  have g2 : (zs5 s.heap l x t).get? (zs1 s.heap l).objs.size = some _ := Heap.get?_push_of_some _ (Heap.get?_push_of_some _ (Heap.get?_push_of_some _ (Heap.get?_push_size _ rfl)))
  have g1 : (zs5 s.heap l x t).get? s.heap.objs.size = some _ := Heap.get?_push_of_some _ (Heap.get?_push_of_some _ (Heap.get?_push_of_some _ (Heap.get?_push_of_some _ (Heap.get?_push_size _ rfl))))
  show _ ∧ _
  rw [z2, z3, z4] at g5
  rw [z1, z2] at g3
  rw [z3] at g4
  rw [z1] at g2
  rw [z4]
  exact ⟨⟨_, g5, rfl⟩, h _ g5 g3 g4 ⟨_, g1, rfl, rfl⟩ ⟨_, g2, rfl, rfl⟩ z5 fun c o q => Heap.get?_push_of_some _ (Heap.get?_push_of_some _ (Heap.get?_push_of_some _ (Heap.get?_push_of_some _ (Heap.get?_push_of_some _ q))))⟩
end
/-- the tuple at a as it stands at each turn, and the text's signs -/
def ItLS (K : PySem.W.Frag) (a : Addr) (t : Str) : It :=
  ⟨fun i H => ∃ (xs : List V) (x : V) (c : Nat), SqL K H a xs ∧ xs[i]? = some x ∧ t.cps[i]? = some c,
    fun i H v H' => ∃ T x c, v = .ref T ∧ H T = none ∧ H' = upd H T (.tup [x, .str ⟨#[c]⟩]) ∧ (∀ xs, SqL K H a xs → xs[i]? = some x) ∧ t.cps[i]? = some c,
    fun i H => ∃ xs : List V, SqL K H a xs ∧ i ≤ xs.length ∧ i ≤ t.cps.size ∧ (i = xs.length ∨ i = t.cps.size)⟩
theorem turn_LS {P : Program} {w : World} {K : PySem.W.Frag} {elts : List Expr} {kk : Nat} {tpos : Pos} {a z TI TO i1 i2 : Addr} (t : Str) (tk : Tok) (D : ZipSep2 z TI TO i1 i2 [i1, a] [i2]) (ha : a ≠ i1) :
    Turn P w K (.Tuple elts kk tpos) (ItLS K a t) [z, TI, TO, i1, i2] z (fun i h => IsZip h z TI TO .none ∧ IsPair h TI (.ref i1) (.ref i2) ∧ (∃ x y, IsPair h TO x y) ∧ h.IsListIter i1 a i ∧ h.IsStrIter i2 (strIterType t) t tk i) where
  mem := by simp
  obj := fun i h st c hc => by
    obtain ⟨hz, hTI, ⟨x, y, hTO⟩, ⟨o1, e1, _, d1⟩, ⟨o2, e2, _, d2⟩⟩ := st
    have e' : c = z ∨ c = TI ∨ c = TO ∨ c = i1 ∨ c = i2 := by simpa using hc
    rcases e' with q | q | q | q | q
    · rw [q]; exact ⟨_, hz, fun v q => nomatch q⟩
    · rw [q]; exact ⟨_, hTI, fun v q => nomatch q⟩
    · rw [q]; exact ⟨_, hTO, fun v q => nomatch q⟩
    · rw [q]; exact ⟨o1, e1, fun v q => by rw [d1] at q; cases q⟩
    · rw [q]; exact ⟨o2, e2, fun v q => by rw [d2] at q; cases q⟩
  keep := fun i h h' st k => by
    obtain ⟨hz, hTI, ⟨x, y, hTO⟩, h1, ⟨o, ho, r⟩⟩ := st
    exact ⟨k z (by simp) _ hz, k TI (by simp) _ hTI, ⟨x, y, k TO (by simp) _ hTO⟩, h1.at fun o q => k i1 (by simp) o q, ⟨o, k i2 (by simp) o ho, r⟩⟩
  item := by
    intro X hP hw hK hc i pins s σ H E I hf st hg
    subst hP hw hK
    obtain ⟨hz, hTI, ⟨x0, y0, hTO⟩, h1, h2⟩ := st
    obtain ⟨xs, x, c, hqx, hx, hcx⟩ := hg
    obtain ⟨us, rv, p0, _⟩ := I.list hqx
    have p := p0.isList
    obtain ⟨u, hu, ru⟩ := rv.get hx
    have hzl : z < s.heap.objs.size := Heap.lt_size hz
    have hh : X.A.in1.handled = none := I.ok.hd hc
    have li : i < us.toArray.size := by
      have := (List.getElem?_eq_some_iff.mp hu).1
      simpa using this
    have lc : i < t.cps.size := (Array.getElem?_eq_some_iff.mp hcx).1
    refine wpAny_pyNext_zipD2_item D (Draws.list hh i1 a ha us.toArray) (Draws.text hh i2 t tk) hz hTI hTO ⟨h1, p⟩ h2 li lc fun v1 v2 h' tk' q1 q2 z' TO' s1' s2' hT hsz hk => ?_
    obtain ⟨c', tu, hc', rfl⟩ := q2
    have ev : v1 = u := by
      have : us.toArray[i]? = some u := by simpa using hu
      exact Option.some.inj (q1.symm.trans this)
    subst ev
    cases Option.some.inj (hc'.symm.trans hcx)
    refine ⟨_, rfl, wpAny_letOwnedTupleGo_zip (s := { s with heap := h', toks := tk' }) z' fun h'' z'' sb => ?_⟩
    have hT2 : h''.get? s.heap.objs.size = some { cls := .type "tuple", data := .seq #[v1, .str ⟨#[c]⟩ tu] } := (sb.2 _ (Nat.ne_of_gt hzl)).trans hT
    have new : ObjOk X.prog X.w (upd H s.heap.objs.size (.tup [x, .str ⟨#[c]⟩])) h'' s.heap.objs.size (.tup [x, .str ⟨#[c]⟩]) := ⟨by show 2 ≤ sizeLine; decide, [v1, .str ⟨#[c]⟩ tu], .cons ru (.cons ⟨_, rfl⟩ .nil), ⟨_, hT2, rfl, _, rfl⟩⟩
    have I1 : Inv X pins σ (upd H s.heap.objs.size (.tup [x, .str ⟨#[c]⟩])) { s with heap := h'', toks := tk' } :=
      I.turnedNew (ch := [z, TI, TO, i1, i2]) (fun c o hb q => (sb.2 c (fun q' => hb (by simp [q']))).trans (hk c o (fun q' => hb (by simp [q'])) (fun q' => hb (by simp [q'])) (fun q' => hb (by simp [q'])) (fun q' => hb (by simp [q'])) q)) hf (Nat.le_refl _) new
    refine ⟨.ref s.heap.objs.size, _, I1, rfl, ⟨_, x, c, rfl, I.hok.fresh (Nat.le_refl _), rfl, fun l hl => by rw [I.list_inj hl hqx]; exact hx, hcx⟩, ⟨z'', ?_, ⟨v1, .str ⟨#[c]⟩ tu, ?_⟩, ?_, ?_⟩, fun b hb => ?_⟩
    · exact (sb.2 _ D.TIz).trans (hk _ _ D.TIz D.TITO D.TIi1 D.TIi2 hTI)
    · exact (sb.2 _ D.TOz).trans TO'
    · exact s1'.1.at fun o q => (sb.2 _ (Ne.symm D.zi1)).trans q
    · obtain ⟨o, ho, r⟩ := s2'
      exact ⟨o, (sb.2 _ (Ne.symm D.zi2)).trans ho, r⟩
    · have hlt : b < s.heap.objs.size := by
        have e' : b = z ∨ b = TI ∨ b = TO ∨ b = i1 ∨ b = i2 := by simpa using hb
        rcases e' with q | q | q | q | q
        · rw [q]; exact hzl
        · rw [q]; exact Heap.lt_size hTI
        · rw [q]; exact Heap.lt_size hTO
        · rw [q]; obtain ⟨_, e1, _⟩ := h1; exact Heap.lt_size e1
        · rw [q]; obtain ⟨_, e2, _⟩ := h2; exact Heap.lt_size e2
      rw [upd_ne (Nat.ne_of_lt hlt)]
      exact (hf b hb).1
  done := by
    intro X hP hw hK hc i pins s σ H E I hf st hg
    subst hP hw hK
    obtain ⟨hz, hTI, ⟨x0, y0, hTO⟩, h1, h2⟩ := st
    obtain ⟨xs, hqx, l1, l2, hend⟩ := hg
    obtain ⟨us, rv, p0, _⟩ := I.list hqx
    have p := p0.isList
    have lu : us.toArray.size = xs.length := by rw [List.size_toArray, ← rv.length]
    have hh : X.A.in1.handled = none := I.ok.hd hc
    exact wpAny_pyNext_zipD2_end D (Draws.list hh i1 a ha us.toArray) (Draws.text hh i2 t tk) hz hTI hTO ⟨h1, p⟩ h2 (by omega) l2 (by omega) fun h' tk' hk => ⟨rfl, I.turnedL (t' := tk') (ch := [z, TI, TO, i1, i2]) (fun c o hb q =>
      hk c o (fun q' => hb (by simp [q'])) (fun q' => hb (by simp [q'])) (fun q' => hb (by simp [q'])) (fun q' => hb (by simp [q'])) q) hf⟩
  self := fun A i s Q E st h => wpAny_pyIter_zip st.1 h
end JsZL
namespace L2
open PySem PySem.Spec PyProof.Rows
def iZipLS (K : PySem.W.Frag) (ta : TA) : TI := fun σ H R => ta σ H fun vs H1 => ∃ a t xs, vs = [.ref a, .str t] ∧ SqL K H1 a xs ∧ R (JsZL.ItLS K a t) H1
theorem pi_zipLS {X : Cx} {e e2 : Expr} {ta : TA} {p pos tpos : Pos} {elts : List Expr} {kk : Nat} (hg : Gl X "zip") (hm : X.mg "zip" = none) (ha : PA X [e, e2] ta)
    (hs : starEach [e, e2] X.env = (false, eval e X.env) :: starEach [e2] X.env := by rfl) (hpl : (backTo pos (starEach [e2] X.env)).any (·.1) = false := by rfl) : PI X (.Tuple elts kk tpos) (.Call (.Name "zip" p) [e, e2] [] pos) (iZipLS X.K ta) := by
  refine ⟨fun pins s σ H R I h => ?_⟩
  refine Call_ (ld_blt I hg hm PyProof.Rows.boot_zip (PyProof.Rows.callWith_type1 (thn (ha.run pos pins s σ H _ I h) fun us s1 ⟨vs, H1, I1, r1, q1⟩ => ?_) hs hpl))
  obtain ⟨a, t, xs, ex, hqx, q⟩ := q1
  subst ex
  cases r1 with
  | cons r rr =>
    cases rr with
    | cons r' rr =>
      cases rr
      cases r
      obtain ⟨tk, rfl⟩ := r'
      have fresh5 : ∀ c, c ∈ [s1.heap.objs.size + 4, s1.heap.objs.size + 2, s1.heap.objs.size + 3, s1.heap.objs.size, s1.heap.objs.size + 1] → FpOk X pins H1 c := fun c hcm => by
        have hle : s1.heap.objs.size ≤ c := by
          simp only [List.mem_cons, List.not_mem_nil, or_false] at hcm
          omega
        exact I1.fpOk hle (I1.hok.fresh hle)
      obtain ⟨its, rv, p0, _⟩ := I1.list hqx
      have p1 := p0.isList
      obtain ⟨o1, ho1, _⟩ := id p1
      have la := Heap.lt_size ho1
      refine JsZL.call_zipLS p1 fun h' hz hTI hTO h1 h2 hsz hk => wpAny_pyIter_zip hz ?_
      have I2 : Inv X pins σ H1 { s1 with heap := h' } := I1.kept (t' := s1.toks) hk
      have D : ZipSep2 (s1.heap.objs.size + 4) (s1.heap.objs.size + 2) (s1.heap.objs.size + 3) s1.heap.objs.size (s1.heap.objs.size + 1) [s1.heap.objs.size, a] [s1.heap.objs.size + 1] := by
        have la2 : ∀ k, s1.heap.objs.size + k ≠ a := fun k h => absurd la (by rw [← h]; exact Nat.not_lt.mpr (Nat.le_add_right _ _))
        constructor <;> simp <;> first | omega | exact la2 _
      exact ⟨s1.heap.objs.size + 4, [s1.heap.objs.size + 4, s1.heap.objs.size + 2, s1.heap.objs.size + 3, s1.heap.objs.size, s1.heap.objs.size + 1], _, _, H1, rfl, I2, JsZL.turn_LS t tk D (Nat.ne_of_lt la), ⟨hz, hTI, ⟨_, _, hTO⟩, h1, h2⟩, fresh5, q⟩
theorem walk_zipLS {K : PySem.W.Frag} {a : Addr} {t : Str} {xs : List V} {n : Nat} (hn : n = min xs.length t.cps.size) : Walk (JsZL.ItLS K a t) n (fun H => SqL K H a xs) (fun i H v H' => ∃ T x c, v = .ref T ∧ H T = none ∧ H' = upd H T (.tup [x, .str ⟨#[c]⟩]) ∧ xs[i]? = some x ∧ t.cps[i]? = some c) :=
  ⟨fun i H hi hq => by
      have h1 : i < xs.length := by omega
      have h2 : i < t.cps.size := by omega
      exact ⟨xs, xs[i], t.cps[i], hq, List.getElem?_eq_getElem h1, Array.getElem?_eq_getElem h2⟩, fun H hq => ⟨xs, hq, by omega, by omega, by omega⟩, fun i H v H' hi hq y => by
      obtain ⟨T, x, c, e1, e2, e3, e4, e5⟩ := y
      exact ⟨T, x, c, e1, e2, e3, e4 xs hq, e5⟩⟩
end L2

set_option Elab.async false
set_option linter.all false
set_option maxRecDepth 100000
set_option maxHeartbeats 2000000
namespace Js
open PySem L2
/-- what stands in a deed behind its first name -/
inductive Pc where
  | nm (b : Nat)
  | th (t : Tr)
  | rw (r : List Dd)
def Dd.nm1 : Dd → Nat
  | .told a _ => a
  | .take _ a _ => a
  | .two _ a _ _ => a
  | .wh a _ => a
  | .iff a _ _ => a
def Dd.pcs : Dd → List Pc
  | .told _ t => [.th t]
  | .take _ _ b => [.nm b]
  | .two _ _ b c => [.nm b, .nm c]
  | .wh _ r => [.rw r]
  | .iff _ r o => [.rw r, .rw o]
def PcAt (K : PySem.W.Frag) (C : Addr) (H : Hp) (v : V) : Pc → Prop
  | .nm b => b < 10 ∧ v = .int (b : Nat)
  | .th t => t.size ≤ 4000 ∧ ∃ a, v = .ref a ∧ Th C H a t
  | .rw r => ∃ q, v = .ref q ∧ RAt K C H q r
theorem PcAt.kt {K : PySem.W.Frag} {C : Addr} {H H' : Hp} (k : KT H H') {v : V} : ∀ {x : Pc}, PcAt K C H v x → PcAt K C H' v x
  | .nm _, h => h
  | .th _, ⟨z, a, e, h⟩ => ⟨z, a, e, h.kt k⟩
  | .rw _, ⟨q, e, h⟩ => ⟨q, e, h.kt k⟩
theorem pcs_kt {K : PySem.W.Frag} {C : Addr} {H H' : Hp} (k : KT H H') : ∀ {vs : List V} {xs : List Pc}, Paired (PcAt K C H) vs xs → Paired (PcAt K C H') vs xs
  | _, _, .nil => .nil
  | _, _, .cons h t => .cons (h.kt k) (pcs_kt k t)
theorem DAt_split {K : PySem.W.Frag} {C : Addr} {H : Hp} {v : V} : ∀ (d : Dd), DAt K C H v d → ∃ p its, v = .ref p ∧ SqT K H p (.str (kindOf d) :: .int ((d.nm1 : Nat) : Int) :: its) ∧ d.nm1 < 10 ∧ Paired (PcAt K C H) its d.pcs ∧ its ≠ []
  | .told a t, h => by
    obtain ⟨p, x, e, h1, h2, h3, h4⟩ := h
    exact ⟨p, _, e, h1, h2, .cons ⟨h4, x, rfl, h3⟩ .nil, by simp⟩
  | .take s a b, h => by
    obtain ⟨p, e, h1, h2, h3⟩ := h
    exact ⟨p, _, e, h1, h2, .cons ⟨h3, rfl⟩ .nil, by simp⟩
  | .two s a b c, h => by
    obtain ⟨p, e, h1, h2, h3, h4⟩ := h
    exact ⟨p, _, e, h1, h2, .cons ⟨h3, rfl⟩ (.cons ⟨h4, rfl⟩ .nil), by simp⟩
  | .wh a r, h => by
    obtain ⟨p, q, vs, e, h1, h2, h3, h4⟩ := h
    exact ⟨p, _, e, h1, h2, .cons ⟨q, rfl, vs, h3, h4⟩ .nil, by simp⟩
  | .iff a r o, h => by
    obtain ⟨p, q, vs, q2, vs2, e, h1, h2, h3, h4, h5, h6⟩ := h
    exact ⟨p, _, e, h1, h2, .cons ⟨q, rfl, vs, h3, h4⟩ (.cons ⟨q2, rfl, vs2, h5, h6⟩ .nil), by simp⟩
theorem paired1 {α β : Type} {R : α → β → Prop} {xs : List α} {y : β} (h : Paired R xs [y]) : ∃ x, xs = [x] ∧ R x y := by
  cases h with
  | cons h t =>
    cases t
    exact ⟨_, rfl, h⟩
theorem paired2 {α β : Type} {R : α → β → Prop} {xs : List α} {y z : β} (h : Paired R xs [y, z]) : ∃ x x', xs = [x, x'] ∧ R x y ∧ R x' z := by
  cases h with
  | cons h t =>
    obtain ⟨x', rfl, h'⟩ := paired1 t
    exact ⟨_, x', rfl, h, h'⟩
theorem DAt_join {K : PySem.W.Frag} {C : Addr} {H : Hp} {p : Addr} {its : List V} : ∀ (d : Dd), SqT K H p (.str (kindOf d) :: .int ((d.nm1 : Nat) : Int) :: its) → d.nm1 < 10 → Paired (PcAt K C H) its d.pcs → DAt K C H (.ref p) d
  | .told a t, h1, h2, h => by
    obtain ⟨x, rfl, h4, x1, rfl, h3⟩ := paired1 h
    exact ⟨p, x1, rfl, h1, h2, h3, h4⟩
  | .take s a b, h1, h2, h => by
    obtain ⟨x, rfl, h3, rfl⟩ := paired1 h
    exact ⟨p, rfl, h1, h2, h3⟩
  | .two s a b c, h1, h2, h => by
    obtain ⟨x, x', rfl, ⟨h3, rfl⟩, h4, rfl⟩ := paired2 h
    exact ⟨p, rfl, h1, h2, h3, h4⟩
  | .wh a r, h1, h2, h => by
    obtain ⟨x, rfl, q, rfl, vs, h3, h4⟩ := paired1 h
    exact ⟨p, q, vs, rfl, h1, h2, h3, h4⟩
  | .iff a r o, h1, h2, h => by
    obtain ⟨x, x', rfl, ⟨q, rfl, vs, h3, h4⟩, q2, rfl, vs2, h5, h6⟩ := paired2 h
    exact ⟨p, q, vs, q2, vs2, rfl, h1, h2, h3, h4, h5, h6⟩
def Pc.deep : Pc → Nat
  | .rw r => deepR r + 1
  | _ => 0
theorem pcs_deep : ∀ (d : Dd) (x : Pc), x ∈ d.pcs → x.deep ≤ d.deep
  | .told a t, x, h => by simp [Dd.pcs] at h; subst h; exact Nat.zero_le _
  | .take s a b, x, h => by simp [Dd.pcs] at h; subst h; exact Nat.zero_le _
  | .two s a b c, x, h => by
    simp [Dd.pcs] at h
    rcases h with rfl | rfl <;> exact Nat.zero_le _
  | .wh a r, x, h => by
    simp [Dd.pcs] at h
    subst h
    rw [Pc.deep, Dd.deep]
    exact Nat.le_refl _
  | .iff a r o, x, h => by
    simp [Dd.pcs] at h
    rw [Dd.deep]
    rcases h with rfl | rfl
    · rw [Pc.deep]; have := Nat.le_max_left (deepR r) (deepR o); omega
    · rw [Pc.deep]; have := Nat.le_max_right (deepR r) (deepR o); omega
theorem pcs_len (d : Dd) : d.pcs.length ≤ 2 := by cases d <;> simp [Dd.pcs]
end Js

set_option Elab.async false
set_option linter.all false
set_option maxRecDepth 100000
set_option maxHeartbeats 2000000
namespace Js
open PySem L2
open PySem.Spec PyProof.Rows
theorem takes0 {X : Cx} : Takes X (fun _ _ _ _ => False) := fun u s' x => by
  obtain ⟨_, _, _, _, _, _, _, _, _, _, _, _, _, _, _, _, h⟩ := x
  exact h.elim
theorem pss_never {X : Cx} {ss : List Stmt} : PSs X ss (fun _ _ _ => False) := ⟨fun _ _ _ _ _ _ h => h.elim⟩
/-! ### deeds that may be read -/
mutual
def Dd.ok : Dd → Prop
  | .told a t => a < 10 ∧ t.size ≤ 4000
  | .take _ a b => a < 10 ∧ b < 10
  | .two _ a b c => a < 10 ∧ b < 10 ∧ c < 10
  | .wh a r => a < 10 ∧ okR r
  | .iff a r o => a < 10 ∧ okR r ∧ okR o
def okR : List Dd → Prop
  | [] => True
  | d :: r => d.ok ∧ okR r
end
mutual
theorem DAt_ok {K : PySem.W.Frag} {C : Addr} {H : Hp} : ∀ (d : Dd) (v : V), DAt K C H v d → d.ok
  | .told a t, v, h => by
    obtain ⟨p, x, _, _, h2, _, h4⟩ := h
    exact ⟨h2, h4⟩
  | .take s a b, v, h => by
    obtain ⟨p, _, _, h2, h3⟩ := h
    exact ⟨h2, h3⟩
  | .two s a b c, v, h => by
    obtain ⟨p, _, _, h2, h3, h4⟩ := h
    exact ⟨h2, h3, h4⟩
  | .wh a r, v, h => by
    obtain ⟨p, q, vs, _, _, h2, _, h4⟩ := h
    exact ⟨h2, DsAt_ok r vs h4⟩
  | .iff a r o, v, h => by
    obtain ⟨p, q, vs, q2, vs2, _, _, h2, _, h4, _, h6⟩ := h
    exact ⟨h2, DsAt_ok r vs h4, DsAt_ok o vs2 h6⟩
theorem DsAt_ok {K : PySem.W.Frag} {C : Addr} {H : Hp} : ∀ (r : List Dd) (vs : List V), DsAt K C H vs r → okR r
  | [], _, _ => trivial
  | d :: r, vs, h => by
    obtain ⟨v, us, _, h1, h2⟩ := h
    exact ⟨DAt_ok d v h1, DsAt_ok r us h2⟩
end
end Js

set_option Elab.async false
set_option linter.all false
set_option maxRecDepth 100000
set_option maxHeartbeats 2000000
namespace Js
open PySem L2
open PySem.Spec PyProof.Rows
abbrev sCounted : Stmt := top 16
abbrev sParts : Stmt := top 18
abbrev sKindT : Stmt := top 44
abbrev sPartT : Stmt := top 45
abbrev sDeedT : Stmt := top 43
abbrev sRowT : Stmt := top 42
abbrev sProgOf : Stmt := top 40
theorem call_lenKD {X : Cx} {d : Addr} {es : Array DictEntry} {n : Nat} (D : KDict X.K X.w d es n) (h7 : es.size = 7) : CallR X (.builtin "len") (fun xs H Q => xs = [.ref d] ∧ Q (.int 7) H) := by
  intro pins s σ H xs us Q I r h
  obtain ⟨rfl, q⟩ := h
  obtain ⟨u, rfl, rx⟩ := vals1 r
  cases rx
  have hraw : s.heap.DictRaw d es n := ⟨_, I.kIn _ _ D.at_, ⟨rfl, rfl, rfl⟩, rfl⟩
  refine Calls.call_function_entry kind_len plain_len entry_len (args_len1 _) (wpAny_bind (m := oneArg "len" _) (wpAny_pure (wpAny_bind (m := callSpecial? (.ref d) (Str.ofString "__len__")) (wpAny_callSpecial?_slot (name := Str.ofString "__len__") hraw.typeIs F.slot_dict_len (call_meetsIn F.slot_dict_len hraw.typeIs F.entry_dict_len (F.args_dict_len_1 _) (meets_dict_len_raw d D.low) ⟨es, n, hraw, ?_⟩)))))
  rw [h7]
  show wpAny _ _ _ _ _ { s with toks := s.toks + 1 }
  refine wpAny_bind (wpAny_holding (wpAny_pure (wpAny_bind (wpAny_letGo ?_))))
  show wpAny _ _ (if ((7 : Nat) : Int) < 0 then _ else (if ((7 : Nat) : Int) ≥ 2 ^ 63 then _ else _)) _ _ _
  rw [if_neg (by omega), if_neg (by omega)]
  exact wpAny_bind (wpAny_mkInt (wpAny_pure ⟨_, rfl, .int 7, H, I.tok _, ⟨_, rfl⟩, q⟩))
/-! ### the parts of a deed -/
inductive Prt where
  | nm (a : Nat)
  | th (t : Tr)
  | rw (r : List Dd)
def Prt.code : Prt → Tr
  | .nm a => num a
  | .th t => t
  | .rw r => codeR r
def Prt.sg : Prt → Nat
  | .nm _ => 110
  | .th _ => 116
  | .rw _ => 114
def Prt.At (K : PySem.W.Frag) (C : Addr) (H : Hp) (x : V) : Prt → Prop
  | .nm a => a < 10 ∧ x = .int ((a : Nat) : Int)
  | .th t => ∃ y, x = .ref y ∧ Th C H y t ∧ t.size ≤ 4000
  | .rw r => ∃ q, x = .ref q ∧ RAt K C H q r
def Prt.ok (n fl : Nat) : Prt → Prop
  | .nm a => a < 10
  | .th t => t.size ≤ 4000
  | .rw r => okR r ∧ deepR r < n ∧ fl + 1 + deepR r ≤ 8
theorem Prt.At.kt {K : PySem.W.Frag} {C : Addr} {H H' : Hp} (s : KT H H') {x : V} : ∀ {p : Prt}, p.At K C H x → p.At K C H' x
  | .nm _, h => h
  | .th _, ⟨y, e, h, z⟩ => ⟨y, e, h.kt s, z⟩
  | .rw _, ⟨q, e, h⟩ => ⟨q, e, h.kt s⟩
theorem ppt_kt {K : PySem.W.Frag} {C : Addr} {H H' : Hp} (s : KT H H') : ∀ {xs : List V} {ps : List Prt}, Paired (fun x p => Prt.At K C H x p) xs ps → Paired (fun x p => Prt.At K C H' x p) xs ps
  | _, _, .nil => .nil
  | _, _, .cons h t => .cons (h.kt s) (ppt_kt s t)
theorem Prt.At.same {K : PySem.W.Frag} {C : Addr} {H H' : Hp} (s : Same H H') {x : V} : ∀ {p : Prt}, p.At K C H x → p.At K C H' x
  | .nm _, h => h
  | .th _, ⟨y, e, h, z⟩ => ⟨y, e, h.same s, z⟩
  | .rw _, ⟨q, e, h⟩ => ⟨q, e, h.same s⟩
def Dd.prs : Dd → List Prt
  | .told a t => [.nm a, .th t]
  | .take _ a b => [.nm a, .nm b]
  | .two _ a b c => [.nm a, .nm b, .nm c]
  | .wh a r => [.nm a, .rw r]
  | .iff a r o => [.nm a, .rw r, .rw o]
theorem prs_code : ∀ d : Dd, d.code = rowT (num d.kix :: d.prs.map Prt.code)
  | .told _ _ => by rw [Dd.code]; rfl
  | .take _ _ _ => by rw [Dd.code]; rfl
  | .two _ _ _ _ => by rw [Dd.code]; rfl
  | .wh _ _ => by rw [Dd.code]; rfl
  | .iff _ _ _ => by rw [Dd.code]; rfl
theorem prs_sg : ∀ d : Dd, (formOf d).cps.toList = d.prs.map Prt.sg
  | .told _ _ => by rw [formOf, cps_nt]; rfl
  | .take _ _ _ => by rw [formOf, cps_nn]; rfl
  | .two _ _ _ _ => by rw [formOf, cps_nnn]; rfl
  | .wh _ _ => by rw [formOf, cps_nr]; rfl
  | .iff _ _ _ => by rw [formOf, cps_nrr]; rfl
theorem prs_len (d : Dd) : d.prs.length ≤ 3 ∧ 2 ≤ d.prs.length := by cases d <;> simp [Dd.prs]
theorem prs_ok {n fl : Nat} : ∀ d : Dd, d.ok → d.deep < n + 1 → fl + d.deep ≤ 8 → ∀ p ∈ d.prs, p.ok n fl
  | .told a t, h, _, _, p, hp => by
    simp only [Dd.prs, List.mem_cons, List.not_mem_nil, or_false] at hp
    rcases hp with rfl | rfl
    · exact h.1
    · exact h.2
  | .take s a b, h, _, _, p, hp => by
    simp only [Dd.prs, List.mem_cons, List.not_mem_nil, or_false] at hp
    rcases hp with rfl | rfl
    · exact h.1
    · exact h.2
  | .two s a b c, h, _, _, p, hp => by
    simp only [Dd.prs, List.mem_cons, List.not_mem_nil, or_false] at hp
    rcases hp with rfl | rfl | rfl
    · exact h.1
    · exact h.2.1
    · exact h.2.2
  | .wh a r, h, h2, h3, p, hp => by
    rw [Dd.deep] at h2 h3
    simp only [Dd.prs, List.mem_cons, List.not_mem_nil, or_false] at hp
    rcases hp with rfl | rfl
    · exact h.1
    · exact ⟨h.2, by omega, by omega⟩
  | .iff a r o, h, h2, h3, p, hp => by
    rw [Dd.deep] at h2 h3
    simp only [Dd.prs, List.mem_cons, List.not_mem_nil, or_false] at hp
    rcases hp with rfl | rfl | rfl
    · exact h.1
    · exact ⟨h.2.1, by omega, by omega⟩
    · exact ⟨h.2.2, by omega, by omega⟩
theorem pd_cons {α β : Type} {R : α → β → Prop} {xs : List α} {b : β} {bs : List β} (h : Paired R xs (b :: bs)) : ∃ x ys, xs = x :: ys ∧ R x b ∧ Paired R ys bs := by
  cases h with
  | cons a t => exact ⟨_, _, rfl, a, t⟩
theorem pd_nil {α β : Type} {R : α → β → Prop} {xs : List α} (h : Paired R xs ([] : List β)) : xs = [] := by
  cases h
  rfl
theorem prs_deed {K : PySem.W.Frag} {C : Addr} {H : Hp} {p : Addr} {its : List V} : ∀ d : Dd, Paired (Prt.At K C H) its d.prs → SqT K H p (.str (kindOf d) :: its) → DAt K C H (.ref p) d
  | .told a t, hp, h => by
    have hp : Paired (Prt.At K C H) its [.nm a, .th t] := hp
    obtain ⟨_, _, rfl, ⟨ha, rfl⟩, hp1⟩ := pd_cons hp
    obtain ⟨_, _, rfl, ⟨y, rfl, hy, hz⟩, hp2⟩ := pd_cons hp1
    cases pd_nil hp2
    exact ⟨p, y, rfl, h, ha, hy, hz⟩
  | .take s a b, hp, h => by
    have hp : Paired (Prt.At K C H) its [.nm a, .nm b] := hp
    obtain ⟨_, _, rfl, ⟨ha, rfl⟩, hp1⟩ := pd_cons hp
    obtain ⟨_, _, rfl, ⟨hb, rfl⟩, hp2⟩ := pd_cons hp1
    cases pd_nil hp2
    exact ⟨p, rfl, h, ha, hb⟩
  | .two s a b c, hp, h => by
    have hp : Paired (Prt.At K C H) its [.nm a, .nm b, .nm c] := hp
    obtain ⟨_, _, rfl, ⟨ha, rfl⟩, hp1⟩ := pd_cons hp
    obtain ⟨_, _, rfl, ⟨hb, rfl⟩, hp2⟩ := pd_cons hp1
    obtain ⟨_, _, rfl, ⟨hc, rfl⟩, hp3⟩ := pd_cons hp2
    cases pd_nil hp3
    exact ⟨p, rfl, h, ha, hb, hc⟩
  | .wh a r, hp, h => by
    have hp : Paired (Prt.At K C H) its [.nm a, .rw r] := hp
    obtain ⟨_, _, rfl, ⟨ha, rfl⟩, hp1⟩ := pd_cons hp
    obtain ⟨_, _, rfl, ⟨q, rfl, vs, h1, h2⟩, hp2⟩ := pd_cons hp1
    cases pd_nil hp2
    exact ⟨p, q, vs, rfl, h, ha, h1, h2⟩
  | .iff a r o, hp, h => by
    have hp : Paired (Prt.At K C H) its [.nm a, .rw r, .rw o] := hp
    obtain ⟨_, _, rfl, ⟨ha, rfl⟩, hp1⟩ := pd_cons hp
    obtain ⟨_, _, rfl, ⟨q, rfl, vs, h1, h2⟩, hp2⟩ := pd_cons hp1
    obtain ⟨_, _, rfl, ⟨q2, rfl, vs2, h3, h4⟩, hp3⟩ := pd_cons hp2
    cases pd_nil hp3
    exact ⟨p, q, vs, q2, vs2, rfl, h, ha, h1, h2, h3, h4⟩
theorem ite_both {b : Bool} {A B : Prop} (hb : B) (ha : b = true → B → A) : if b = true then A else B := by
  cases b with
  | true => exact iteT (ha rfl hb)
  | false => exact iteF hb
theorem prs_deep (d : Dd) (h : 114 ∈ (formOf d).cps.toList) : 1 ≤ d.deep := by
  rw [prs_sg] at h
  cases d with
  | told a t => simp [Dd.prs, Prt.sg] at h
  | take s a b => simp [Dd.prs, Prt.sg] at h
  | two s a b c => simp [Dd.prs, Prt.sg] at h
  | wh a r => rw [Dd.deep]; omega
  | iff a r o => rw [Dd.deep]; omega
theorem okR_mem : ∀ (r : List Dd) (d : Dd), okR r → d ∈ r → d.ok
  | [], _, _, h => by cases h
  | x :: r, d, h, hm => by
    rcases List.mem_cons.mp hm with rfl | hm
    · exact h.1
    · exact okR_mem r d h.2 hm
theorem DsAt_snocT {K : PySem.W.Frag} {C : Addr} {H : Hp} {v : V} {d : Dd} : ∀ (r : List Dd) (vs : List V), DsAt K C H vs r → DAt K C H v d → DsAt K C H (vs ++ [v]) (r ++ [d])
  | [], vs, h, hd => by
    have e : vs = [] := h
    subst e
    exact ⟨v, [], rfl, hd, rfl⟩
  | x :: r, vs, h, hd => by
    obtain ⟨u, us, rfl, h1, h2⟩ := h
    exact ⟨u, us ++ [v], rfl, h1, DsAt_snocT r us h2 hd⟩
def spCounted (C : Addr) : Sp := fun vs H Q _ => ∃ a n, vs = [.ref a] ∧ Th C H a (num n) ∧ Q (.int ((n : Nat) : Int)) H
def spParts (C : Addr) : Sp := fun vs H Q _ => ∃ a ts, vs = [.ref a] ∧ Th C H a (rowT ts) ∧ (rowT ts).size ≤ 4000 ∧ ∀ l us H', Same H H' → H l = none → H' l = some (.lst us) → Paired (ThV C H') us ts → Q (.ref l) H'
def spKindT (C : Addr) : Sp := fun vs H Q _ => ∃ l us ts d, vs = [.ref l] ∧ H l = some (.lst us) ∧ Paired (ThV C H) us (num (Dd.kix d) :: ts) ∧ ∀ H', Same H H' → Q (.str (kindOf d)) H'
def spPartT (K : PySem.W.Frag) (C : Addr) (n : Nat) : Sp := fun vs H Q _ => ∃ y fl p, vs = [.ref y, .str ⟨#[Prt.sg p]⟩, .int ((fl : Nat) : Int)] ∧ Th C H y p.code ∧ p.ok n fl ∧ p.code.size ≤ 4000 ∧ ∀ x H', Same H H' → p.At K C H' x → Q x H'
def spDeedT (K : PySem.W.Frag) (C : Addr) (n : Nat) : Sp := fun vs H Q _ => ∃ y fl d, vs = [.ref y, .int ((fl : Nat) : Int)] ∧ Th C H y (Dd.code d) ∧ d.ok ∧ d.deep < n ∧ fl + d.deep ≤ 8 ∧ d.code.size ≤ 4000 ∧ ∀ p H', Same H H' → DAt K C H' (.ref p) d → Q (.ref p) H'
def spRowT (K : PySem.W.Frag) (C : Addr) (n : Nat) : Sp := fun vs H Q _ => ∃ y fl r, vs = [.ref y, .int ((fl : Nat) : Int)] ∧ Th C H y (codeR r) ∧ okR r ∧ deepR r < n ∧ fl + deepR r ≤ 8 ∧ (codeR r).size ≤ 4000 ∧ ∀ q H', Same H H' → RAt K C H' q r → Q (.ref q) H'
def spProgOf (K : PySem.W.Frag) (C CP : Addr) : Sp := fun vs H Q _ => ∃ y r, vs = [.ref y] ∧ Th C H y (codeR r) ∧ okR r ∧ deepR r ≤ 8 ∧ manyR r ≤ 4000 ∧ (codeR r).size ≤ 4000 ∧ ∀ z H', Same H H' → H z = none → PgAt K C CP H' z r → Q (.ref z) H'
section
variable {P : Program} {w : World} {K : PySem.W.Frag} {mg : Str → Option Value} {base : Heap} {C CP fI fP : Addr} {fdI fdP : FuncData}
theorem scCt : FnScope ["thing", "many", "rest"] ["thing"] (defScope sCounted) := ⟨rfl, rfl, rfl, by decide +kernel, rfl, by decide +kernel, by decide +kernel⟩
theorem scPrt : FnScope ["thing", "found", "rest"] ["thing"] (defScope sParts) := ⟨rfl, rfl, rfl, by decide +kernel, rfl, by decide +kernel, by decide +kernel⟩
theorem scKt : FnScope ["told", "many"] ["told"] (defScope sKindT) := ⟨rfl, rfl, rfl, by decide +kernel, rfl, by decide +kernel, by decide +kernel⟩
theorem scPt : FnScope ["part", "sign", "floors"] ["part", "sign", "floors"] (defScope sPartT) := ⟨rfl, rfl, rfl, by decide +kernel, rfl, by decide +kernel, by decide +kernel⟩
theorem scDt : FnScope ["code", "floors", "told", "kind", "inner", "part", "sign"] ["code", "floors"] (defScope sDeedT) := ⟨rfl, rfl, rfl, by decide +kernel, rfl, by decide +kernel, by decide +kernel⟩
theorem scRt : FnScope ["thing", "floors", "part"] ["thing", "floors"] (defScope sRowT) := ⟨rfl, rfl, rfl, by decide +kernel, rfl, by decide +kernel, by decide +kernel⟩
theorem scPo : FnScope ["thing"] ["thing"] (defScope sProgOf) := ⟨rfl, rfl, rfl, by decide +kernel, rfl, by decide +kernel, by decide +kernel⟩
theorem ok_counted {f : Addr} {fd : FuncData} (F : Fun K "counted" "counted" sCounted f fd) (T : Txt K mg C) : FnOk P w K mg base CX0 1 f fd ["thing"] (spCounted C) := by
  refine F.ok scCt (fun vs H Q E h => ?_) (fun cdv A outer s H vs Q E hr h => ?_)
  · obtain ⟨a, n, rfl, _⟩ := h
    rfl
  · obtain ⟨a, n, rfl, ha, k⟩ := h
    refine ⟨_, pss_cons (ps_set (i := 1) scCt.nd rfl (Or.inl rfl) pe_int) (pss_cons (ps_set (i := 2) scCt.nd rfl (Or.inl rfl) (pv 0)) (pss_cons (ps_while PassesOwn.never (pt_truth (pe_fld (pv 2) rfl) (by intro _; rfl)) (pss_cons (ps_if (pt_truth (pe_fld (pe_fld (pv 2) rfl) rfl) (by intro _; rfl)) (pss_one (ps_ret pe_non)) pss_nil) (pss_cons (ps_aug (i := 1) scCt.nd rfl (Or.inl rfl) pe_int ip_add) (pss_one (ps_set (i := 2) scCt.nd rfl (Or.inl rfl) (pe_fld (pv 2) rfl)))))) (pss_one (ps_ret (pv 1))))), ?_⟩
    refine ⟨_, rfl, fun m σ H' => ∃ (i : Nat) (b : Addr), σ = [some (.ref a), some (.int ((i : Nat) : Int)), some (.ref b)] ∧ H' = H ∧ Th C H b (num m) ∧ i + m = n, ⟨n, 0, a, rfl, rfl, ha, by omega⟩, ?_⟩
    rintro m σ H1 ⟨i, b, rfl, rfl, hb, him⟩
    cases m with
    | zero =>
      obtain ⟨dx, f1, g1, h1⟩ := hb.obj
      refine ⟨_, rfl, _, _, _, _, _, rfl, h1, T.cl, T.nZ, tf_size _ _ _, _, rfl, iteF ?_⟩
      have e : i = n := by omega
      subst e
      exact ⟨_, rfl, k⟩
    | succ m =>
      obtain ⟨dx, b1, c1, h1, hb1, hc1⟩ := hb.pair
      have e : (((Tr.pr .nil (num m)).size : Nat) : Int) ≠ 0 := by
        show ((1 + 0 + (num m).size : Nat) : Int) ≠ 0
        omega
      refine ⟨_, rfl, _, _, _, _, _, rfl, h1, T.cl, T.nZ, tf_size _ _ _, _, rfl, ?_⟩
      rw [show ((((Tr.pr .nil (num m)).size : Nat) : Int) != 0) = true from by simpa using e]
      refine iteT ⟨fun σ' H5 => ∃ m', m' < m + 1 ∧ _, fun σ' H5 z => z, ?_⟩
      obtain ⟨dy, f2, g2, h2⟩ := hb1.obj
      refine ⟨_, rfl, _, _, _, _, _, rfl, h1, T.cl, T.nF, tf_first _ _ _, _, _, _, _, _, rfl, h2, T.cl, T.nZ, tf_size _ _ _, _, rfl, iteF ?_⟩
      refine ⟨_, rfl, _, _, rfl, rfl, ?_⟩
      refine ⟨_, rfl, _, _, _, _, _, rfl, h1, T.cl, T.nS, tf_second _ _ _, ?_⟩
      exact ⟨m, by omega, i + 1, c1, rfl, rfl, hc1, by omega⟩
theorem ok_parts {f : Addr} {fd : FuncData} (F : Fun K "parts" "parts" sParts f fd) (T : Txt K mg C) : FnOk P w K mg base CX0 1 f fd ["thing"] (spParts C) := by
  refine F.ok scPrt (fun vs H Q E h => ?_) (fun cdv A outer s H vs Q E hr h => ?_)
  · obtain ⟨a, ts, rfl, _⟩ := h
    rfl
  · obtain ⟨a, ts, rfl, ha, hz, k⟩ := h
    refine ⟨_, pss_cons (ps_set (i := 1) scPrt.nd rfl (Or.inl rfl) (pe_lst pa_nil)) (pss_cons (ps_set (i := 2) scPrt.nd rfl (Or.inl rfl) (pv 0)) (pss_cons (ps_while PassesOwn.never (pt_truth (pe_fld (pv 2) rfl) (by intro _; rfl)) (pss_cons (ps_expr (pe_bm PySem.F.plainAttrs_list PySem.F.slot_list_append PySem.F.type_list_append mt_append (pv 1) (pa_cons (pe_fld (pv 2) rfl) pa_nil))) (pss_one (ps_set (i := 2) scPrt.nd rfl (Or.inl rfl) (pe_fld (pv 2) rfl))))) (pss_one (ps_ret (pv 1))))), ?_⟩
    have hsl := sizeLine_eq
    have hrl := rowT_len ts
    refine ⟨Nat.zero_le _, fun D nD => ?_⟩
    have sD := Same.new nD (o := .lst [])
    refine ⟨_, rfl, fun m σ H' => ∃ (i : Nat) (b : Addr) (us : List V), σ = [some (.ref a), some (.ref D), some (.ref b)] ∧ Same H H' ∧ H' D = some (.lst us) ∧ Paired (ThV C H') us (ts.take i) ∧ Th C H' b (rowT (ts.drop i)) ∧ i + m = ts.length, ⟨ts.length, 0, a, [], rfl, sD, upd_same, by rw [List.take_zero]; exact .nil, by rw [List.drop_zero]; exact ha.same sD, by omega⟩, ?_⟩
    rintro m σ H1 ⟨i, b, us, rfl, s1, hD, hus, hb, him⟩
    cases m with
    | zero =>
      have e : i = ts.length := by omega
      subst e
      rw [List.drop_length] at hb
      rw [List.take_length] at hus
      obtain ⟨dx, f1, g1, h1⟩ := hb.obj
      refine ⟨_, rfl, _, _, _, _, _, rfl, h1, T.cl, T.nZ, tf_size _ _ _, _, rfl, iteF ?_⟩
      exact ⟨_, rfl, k D us H1 s1 nD hD hus⟩
    | succ m =>
      have hi : i < ts.length := by omega
      have hg : ts[i]? = some ts[i] := List.getElem?_eq_getElem hi
      rw [row_drop ts i _ hg] at hb
      obtain ⟨dx, b1, c1, h1, hb1, hc1⟩ := hb.pair
      have e : (((Tr.pr ts[i] (rowT (ts.drop (i + 1)))).size : Nat) : Int) ≠ 0 := by
        show ((1 + _ + _ : Nat) : Int) ≠ 0
        omega
      refine ⟨_, rfl, _, _, _, _, _, rfl, h1, T.cl, T.nZ, tf_size _ _ _, _, rfl, ?_⟩
      rw [show ((((Tr.pr ts[i] (rowT (ts.drop (i + 1)))).size : Nat) : Int) != 0) = true from by simpa using e]
      refine iteT ⟨fun σ' H5 => ∃ m', m' < m + 1 ∧ _, fun σ' H5 z => z, ?_⟩
      have hul := Paired.length hus
      rw [List.length_take] at hul
      refine ⟨_, rfl, .inl ⟨rfl, _, SqL.of hD⟩, _, rfl, _, _, _, _, _, rfl, h1, T.cl, T.nF, tf_first _ _ _, D, _, _, rfl, rfl, hD, by omega, ?_⟩
      have kt : KT H1 (upd H1 D (.lst (us ++ [V.ref b1]))) := KT.lst hD
      have h1' : upd H1 D (.lst (us ++ [V.ref b1])) b = some _ := kt _ _ h1 (fun _ e => nomatch e)
      refine ⟨_, rfl, _, _, _, _, _, rfl, h1', T.cl, T.nS, tf_second _ _ _, ?_⟩
      refine ⟨m, by omega, i + 1, c1, us ++ [V.ref b1], rfl, s1.set nD, upd_same, ?_, hc1.kt kt, by omega⟩
      rw [List.take_succ_eq_append_getElem hi]
      exact paired_app (ths_kt kt hus) (.cons ⟨b1, rfl, hb1.kt kt⟩ .nil)
theorem ok_kindT {f : Addr} {fd : FuncData} (F : Fun K "kind_told" "kind_told" sKindT f fd) (B : Blt mg) (ml : mg "list" = none) (Fo : FoK K w mg) (DC : Def P w K mg base "counted" 1 ["thing"] (spCounted C)) : FnOk P w K mg base CX0 2 f fd ["told"] (spKindT C) := by
  obtain ⟨dF, es, nF, mF, kdd, hk, h7, hks⟩ := Fo.ex
  have kdF := (⟨kdd, h7, hks⟩ : KDict K w dF es nF ∧ es.size = 7 ∧ ∀ (i : Nat) (h : i < es.size), ∃ z t, formKs[i]? = some z ∧ es[i].key = Value.str z t)
  refine F.ok scKt (fun vs H Q E h => ?_) (fun cdv A outer s H vs Q E hr h => ?_)
  · obtain ⟨l, us, ts, d, rfl, _⟩ := h
    rfl
  · obtain ⟨l, us, ts, d, rfl, hl, hus, k⟩ := h
    refine ⟨_, pss_cons (ps_set (i := 1) scKt.nd rfl (Or.inl rfl) (pe_ifExp (pt_truth (pv 0) (by intro _; rfl)) (pe_def DC hr rfl (pa_cons (pe_ix (r := rIxL K) ix_list (pv 0) pe_int (fun _ _ => rfl)) pa_nil)) pe_non)) (pss_cons (ps_if (PW.pt (pw_or (pt_cmp (pc_isN (pv 1))) (pw_or1 (pt_cmpR op_ge (pv 1) (pe_callB (call_lenKD kdd h7) (by rfl) B.len PySem.boot_len (pa_cons (pe_glob (v := .ref dF) rfl mF rfl) pa_nil)) (nomark _))))) (pss_one (ps_ret pe_non)) pss_nil) (pss_one (ps_ret (pe_ix (r := rIxL K) ix_list (pe_callTy (call_listKD rfl kdF) (by rfl) ml PyProof.Rows.boot_list (pa_cons (pe_glob (v := .ref dF) rfl mF rfl) pa_nil)) (pv 1) (fun _ _ => rfl))))), ?_⟩
    cases hus with
    | cons hx hus =>
      obtain ⟨x, rfl, hx⟩ := hx
      have hki := kix_le d
      refine ⟨_, rfl, _, .inl ⟨_, SqL.of hl, rfl⟩, iteT ?_⟩
      refine ⟨_, rfl, l, _, 0, _, rfl, rfl, SqL.of hl, at0 _ _, x, d.kix, rfl, hx, ?_⟩
      refine ⟨_, rfl, _, rfl, ?_⟩
      rw [show decide (V.int ((d.kix : Nat) : Int) = V.non) = false from decide_eq_false (fun e => nomatch e)]
      refine iteF ?_
      refine ⟨_, rfl, rfl, _, _, rfl, rfl, _, rfl, ?_⟩
      rw [decide_eq_false (show ¬ ((d.kix : Nat) : Int) ≥ 7 by omega)]
      refine iteF ?_
      refine ⟨rfl, fun q nq => ?_⟩
      have sq := Same.new nq (o := .lst (strV formKs))
      exact ⟨_, rfl, q, _, _, _, rfl, rfl, SqL.of upd_same, atI_nat (kix_at d).1, k _ sq⟩
theorem ok_partT {f fR : Addr} {fd fdR : FuncData} {n : Nat} (F : Fun K "part_told" "part_told" sPartT f fd) (DC : Def P w K mg base "counted" 1 ["thing"] (spCounted C)) (GR : FnOk P w K mg base CX0 (3 * n + 3) fR fdR ["thing", "floors"] (spRowT K C n)) (mgr : mg "row_told" = some (.ref fR)) (kr : PySem.W.keepIn K (.ref fR) = true) (br : Binds K fdR ["thing", "floors"] []) : FnOk P w K mg base CX0 (3 * n + 4) f fd ["part", "sign", "floors"] (spPartT K C n) := by
  refine F.ok scPt (fun vs H Q E h => ?_) (fun cdv A outer s H vs Q E hr h => ?_)
  · obtain ⟨y, fl, p, rfl, _⟩ := h
    rfl
  · obtain ⟨y, fl, p, rfl, hy, hok, hz, k⟩ := h
    have hr1 : Room 1 _ := hr.mono (by omega)
    refine ⟨_, pss_cons (ps_if (pt_cmpR op_eq (pv 1) pe_str (nomark _)) (pss_one (ps_ret (pe_def DC hr1 rfl (pa_cons (pv 0) pa_nil)))) pss_nil) (pss_cons (ps_if (pt_cmpR op_eq (pv 1) pe_str (nomark _)) (pss_one (ps_ret (pv 0))) pss_nil) (pss_one (ps_ret (pe_call GR hr rfl mgr kr br .nil pass0 (pa_cons (pv 0) (pa_cons (pe_op op_add (pv 2) pe_int) pa_nil)))))), ?_⟩
    cases p with
    | nm a =>
      refine ⟨_, rfl, rfl, _, rfl, ?_⟩
      rw [show Prt.sg (.nm a) = 110 from rfl, s_n, decide_eq_true rfl]
      exact iteT ⟨_, rfl, y, a, rfl, hy, k _ H (Same.refl H) ⟨hok, rfl⟩⟩
    | th t =>
      refine ⟨_, rfl, rfl, _, rfl, ?_⟩
      rw [show Prt.sg (.th t) = 116 from rfl, s_t, show decide (V.str ("t" : Str) = V.str ("n" : Str)) = false by decide +kernel]
      refine iteF ⟨_, rfl, rfl, _, rfl, ?_⟩
      rw [decide_eq_true rfl]
      exact iteT ⟨_, rfl, k _ H (Same.refl H) ⟨y, rfl, hy, hok⟩⟩
    | rw r =>
      refine ⟨_, rfl, rfl, _, rfl, ?_⟩
      rw [show Prt.sg (.rw r) = 114 from rfl, s_r, show decide (V.str ("r" : Str) = V.str ("n" : Str)) = false by decide +kernel]
      refine iteF ⟨_, rfl, rfl, _, rfl, ?_⟩
      rw [show decide (V.str ("r" : Str) = V.str ("t" : Str)) = false by decide +kernel]
      exact iteF ⟨_, rfl, _, rfl, _, _, rfl, rfl, y, fl + 1, r, rfl, hy, hok.1, hok.2.1, hok.2.2, hz, fun q H1 s1 hq => k _ H1 s1 ⟨q, rfl, hq⟩⟩
theorem ok_deedT {f fP' : Addr} {fd fdP' : FuncData} {n : Nat} (F : Fun K "deed_told" "deed_told" sDeedT f fd) (B : Blt mg) (G : FrmC K w mg) (DP : Def P w K mg base "parts" 1 ["thing"] (spParts C)) (DK : Def P w K mg base "kind_told" 2 ["told"] (spKindT C)) (GP : FnOk P w K mg base CX0 (3 * n + 4) fP' fdP' ["part", "sign", "floors"] (spPartT K C n)) (mgp : mg "part_told" = some (.ref fP')) (kp : PySem.W.keepIn K (.ref fP') = true) (bp : Binds K fdP' ["part", "sign", "floors"] []) : FnOk P w K mg base CX0 (3 * n + 5) f fd ["code", "floors"] (spDeedT K C (n + 1)) := by
  obtain ⟨dF, es, nF, mF, kdd, hk⟩ := G.ex
  obtain ⟨tM, mM3⟩ := G.mF
  refine F.ok scDt (fun vs H Q E h => ?_) (fun cdv A outer s H vs Q E hr h => ?_)
  · obtain ⟨y, fl, d, rfl, _⟩ := h
    rfl
  · obtain ⟨y, fl, d, rfl, hy, hok, hdp, hfl, hz, k⟩ := h
    have hr1 : Room 1 _ := hr.mono (by omega)
    have hr2 : Room 2 _ := hr.mono (by omega)
    have hr0 : Room (3 * n + 4) _ := hr
    refine ⟨_, pss_cons (ps_set (i := 2) scDt.nd rfl (Or.inl rfl) (pe_def DP hr1 rfl (pa_cons (pv 0) pa_nil))) (pss_cons (ps_set (i := 3) scDt.nd rfl (Or.inl rfl) (pe_def DK hr2 rfl (pa_cons (pv 2) pa_nil))) (pss_cons (ps_if (PW.pt (pw_or (pt_cmp (pc_isN (pv 3))) (pw_or1 (pt_cmpR op_ne (pe_callB call_len_seq (by rfl) B.len PySem.boot_len (pa_cons (pv 2) pa_nil)) (pe_op op_add pe_int (pe_callB call_len_str (by rfl) B.len PySem.boot_len (pa_cons (pe_ix (r := rIxD K w) ix_kdict (pe_glob (v := .ref dF) rfl mF rfl) (pv 3) (fun _ _ => rfl)) pa_nil))) (nomark _))))) (pss_one (ps_ret (pe_tup pa_nil))) pss_nil) (pss_cons (ps_if (PW.pt (pw_and (pt_cmpR op_inS pe_str (pe_ix (r := rIxD K w) ix_kdict (pe_glob (v := .ref dF) rfl mF rfl) (pv 3) (fun _ _ => rfl)) rfl) (pw_and1 (pt_cmpR op_eq (pv 1) (pe_glob (v := .int 8) rfl mM3 ⟨_, rfl⟩) (nomark _))))) (pss_one (ps_ret (pe_tup pa_nil))) pss_nil) (pss_cons (ps_setLc (i := 4) (own := [("part", 5), ("sign", 6)]) (g := gTup K 2 (gCons (gName 5) (gCons (gName 6) gNil))) (tt := tYes) rfl scDt.nd rfl rfl (sw_true rfl rfl rfl (by decide +kernel)) (pi_zipLS rfl G.mz (pa_cons (pe_slice sl_list (pv 2) (po_some pe_int) po_none) (pa_cons (pe_ix (r := rIxD K w) ix_kdict (pe_glob (v := .ref dF) rfl mF rfl) (pv 3) (fun _ _ => rfl)) pa_nil))) (blkOk_by (N := ["code", "floors", "told", "kind", "inner", "part", "sign"]) (sc := defScope sDeedT) (by decide +kernel)) (fun _ _ _ _ _ => (by exact (pg_tup rfl (pgs_cons (pg_name (i := 5) scDt.nd rfl (Or.inl rfl)) (pgs_cons (pg_name (i := 6) scDt.nd rfl (Or.inl rfl)) pgs_nil))))) (fun _ _ _ _ _ => pts_nil) (fun _ _ _ _ _ => (pe_call GP hr0 rfl mgp kp bp .nil pass0 (pa_cons (pv 5) (pa_cons (pv 6) (pa_cons (pv 1) pa_nil)))))) (pss_one (ps_ret (pe_tup (pa_cons (pv 3) (StX.pa_star (pv 4) pa_nil))))))))), ?_⟩
    have hsl := sizeLine_eq
    have hpl := prs_len d
    have hfm : (formOf d).cps.size = d.prs.length := by rw [← Array.length_toList, prs_sg, List.length_map]
    have hprs := prs_ok (n := n) (fl := fl) d hok hdp hfl
    obtain ⟨tk, hkf⟩ := hk _ (form_in d)
    rw [prs_code] at hy hz
    refine ⟨_, rfl, y, _, rfl, hy, hz, fun l us H1 s1 nl hl hus => ?_⟩
    refine ⟨_, rfl, l, us, _, d, rfl, hl, hus, fun H2 s2 => ?_⟩
    have hl2 := s2 _ _ hl
    have hus2 := ths_kt (KT.of s2) hus
    have hul := Paired.length hus
    rw [List.length_cons, List.length_map] at hul
    have hfl3 : (formOf d).length = d.prs.length := hfm
    refine ⟨_, rfl, _, rfl, ?_⟩
    rw [show decide (V.str (kindOf d) = V.non) = false from decide_eq_false (fun e => nomatch e)]
    refine iteF ?_
    refine ⟨_, rfl, l, us, rfl, .inl (SqL.of hl2), _, rfl, dF, _, .str (formOf d), rfl, rfl, ⟨es, nF, _, kdd.at_, kdd.lit, hkf, ⟨_, rfl⟩⟩, formOf d, rfl, by omega, _, _, rfl, rfl, rfl, _, rfl, ?_⟩
    rw [show ((us.length : Nat) : Int) = 1 + (((formOf d).length : Nat) : Int) by omega, decide_eq_true rfl]
    refine iteF ?_
    refine ⟨_, rfl, dF, _, .str (formOf d), rfl, rfl, ⟨es, nF, _, kdd.at_, kdd.lit, hkf, ⟨_, rfl⟩⟩, 114, formOf d, congrArg V.str s_r.symm, rfl, _, rfl, ite_both ?_ fun hb hc => ?_⟩
    rotate_left
    · have hdd := prs_deep d (of_decide_eq_true hb)
      refine ⟨_, rfl, rfl, _, rfl, ?_⟩
      rw [decide_eq_false (show ¬ V.int ((fl : Nat) : Int) = V.int 8 from fun e => by injection e with e; omega)]
      exact iteF hc
    cases hus2 with
    | cons hx hts =>
      rename_i x0 xs0
      have htl := Paired.length hts
      rw [List.length_map] at htl
      refine ⟨_, rfl, _, rfl, l, _, rfl, SqL.of hl2, fun q nq => ?_⟩
      rw [cut1]
      have sq := Same.new nq (o := .lst xs0)
      have eq : (upd H2 q (.lst xs0)) q = some (.lst xs0) := upd_same
      revert sq eq
      generalize upd H2 q (.lst xs0) = H3
      intro sq eq
      refine ⟨_, rfl, dF, _, .str (formOf d), rfl, rfl, ⟨es, nF, _, kdd.at_, kdd.lit, hkf, ⟨_, rfl⟩⟩, q, _, xs0, rfl, SqL.of eq, fun D nD => lc_it (n := xs0.length) (walk_zipLS (K := K) (a := q) (t := formOf d) (xs := xs0) (by rw [hfm, ← htl, Nat.min_self])) (fun i H' => Same H3 H' ∧ ∃ its, H' D = some (.lst its) ∧ Paired (Prt.At K C H') its (d.prs.take i)) ⟨Same.new nD, [], upd_same, by rw [List.take_zero]; exact .nil⟩ (fun i H' _ z => SqL.of (z.1 _ _ eq)) ?_ ?_⟩
      · rintro i v H4 H5 hi ⟨s4, its, hD4, hits⟩ ⟨T, x, c, rfl, nT, rfl, hxi, hci⟩
        have sT := Same.new nT (o := .tup [x, .str ⟨#[c]⟩])
        have eT : (upd H4 T (.tup [x, .str ⟨#[c]⟩])) T = some (.tup [x, .str ⟨#[c]⟩]) := upd_same
        revert sT eT
        generalize upd H4 T (.tup [x, .str ⟨#[c]⟩]) = H6
        intro sT eT
        have hil : i < d.prs.length := by omega
        have hpi : d.prs[i]? = some d.prs[i] := List.getElem?_eq_getElem hil
        have hcs : c = (d.prs[i]).sg := by
          have e1 : (formOf d).cps.toList[i]? = some c := by simpa using hci
          rw [prs_sg, List.getElem?_map, hpi] at e1
          exact (Option.some.inj e1).symm
        subst hcs
        obtain ⟨ty, e2, y2, rfl, hy2⟩ := paired_get hts hxi
        rw [List.getElem?_map, hpi] at e2
        cases Option.some.inj e2
        have hpz := rowT_size_mem (num d.kix :: d.prs.map Prt.code) (d.prs[i]).code (List.mem_cons_of_mem _ (List.mem_map.mpr ⟨_, List.getElem_mem hil, rfl⟩))
        have s26 := (sq.trans s4).trans sT
        refine ⟨T, _, rfl, SqT.of eT, rfl, _, _, rfl, _, _, rfl, rfl, rfl, lc_yes ?_⟩
        refine ⟨_, rfl, _, rfl, _, rfl, y2, fl, d.prs[i], rfl, hy2.same s26, hprs _ (List.getElem_mem hil), by omega, fun x' H7 s7 hx' => ?_⟩
        have hD7 := s7 _ _ (sT _ _ hD4)
        have hil2 := Paired.length hits
        rw [List.length_take] at hil2
        have kt : KT H7 (upd H7 D (.lst (its ++ [x']))) := KT.lst hD7
        refine ⟨its, hD7, by omega, ((s4.trans sT).trans s7).set nD, its ++ [x'], upd_same, ?_⟩
        rw [List.take_succ_eq_append_getElem hil]
        exact paired_app (ppt_kt kt (ppt_kt (KT.of (sT.trans s7)) hits)) (.cons (hx'.kt kt) .nil)
      · rintro H4 ⟨s4, its, hD4, hits⟩
        rw [htl, List.take_length] at hits
        have hil2 := Paired.length hits
        refine ⟨_, rfl, _, rfl, D, _, rfl, .inr (SqL.of hD4), by rw [List.append_nil, List.length_cons]; omega, fun T2 nT2 => ?_⟩
        rw [List.append_nil]
        have s10 := Same.new nT2 (o := .tup (V.str (kindOf d) :: its))
        exact k T2 _ ((((s1.trans s2).trans sq).trans s4).trans s10) (prs_deed d (ppt_kt (KT.of s10) hits) (SqT.of upd_same))
theorem ok_rowT {f fD : Addr} {fd fdD : FuncData} {n : Nat} (F : Fun K "row_told" "row_told" sRowT f fd) (mt : mg "tuple" = none) (DP : Def P w K mg base "parts" 1 ["thing"] (spParts C)) (GD : FnOk P w K mg base CX0 (3 * n + 5) fD fdD ["code", "floors"] (spDeedT K C (n + 1))) (mgd : mg "deed_told" = some (.ref fD)) (kd : PySem.W.keepIn K (.ref fD) = true) (bd : Binds K fdD ["code", "floors"] []) : FnOk P w K mg base CX0 (3 * (n + 1) + 3) f fd ["thing", "floors"] (spRowT K C (n + 1)) := by
  refine F.ok scRt (fun vs H Q E h => ?_) (fun cdv A outer s H vs Q E hr h => ?_)
  · obtain ⟨y, fl, r, rfl, _⟩ := h
    rfl
  · obtain ⟨y, fl, r, rfl, hy, hok, hdp, hfl, hz, k⟩ := h
    have hr1 : Room 1 _ := hr.mono (by omega)
    refine ⟨_, pss_one (ps_ret (pe_callTy call_tuple_of (by rfl) mt PyProof.Rows.boot_tuple (pa_cons (pe_lc (own := [("part", 2)]) (g := gName 2) (tt := tYes) rfl scRt.nd (pi_list (pe_def DP hr1 rfl (pa_cons (pv 0) pa_nil))) (blkOk_by (N := ["thing", "floors", "part"]) (sc := defScope sRowT) (by decide +kernel)) (fun _ _ _ _ _ => (pg_name (i := 2) scRt.nd rfl (Or.inl rfl))) (fun _ _ _ _ _ => pts_nil) (fun _ _ _ _ _ => (pe_call GD hr rfl mgd kd bd .nil pass0 (pa_cons (pv 2) (pa_cons (pv 1) pa_nil))))) pa_nil))), ?_⟩
    have hsl := sizeLine_eq
    rw [codeR_row] at hy hz
    have hrl := rowT_len (r.map Dd.code)
    rw [List.length_map] at hrl
    refine ⟨_, rfl, y, _, rfl, hy, hz, fun l us H1 s1 nl hl hus => ⟨l, rfl, ⟨_, SqL.of hl⟩, fun D nD => lc_list (K := K) (a := l) (xs := us) (fun i H' => Same H1 H' ∧ ∃ vs, H' D = some (.lst vs) ∧ DsAt K C H' vs (r.take i)) ⟨Same.new nD, [], upd_same, by rw [List.take_zero]; rfl⟩ (fun i H' _ z => SqL.of (z.1 _ _ hl)) ?_ ?_⟩⟩
    · rintro i v H2 hv ⟨s2, vs, hD2, hvs⟩
      obtain ⟨ty, e2, y2, rfl, hy2⟩ := paired_get hus hv
      rw [List.getElem?_map] at e2
      obtain ⟨d, hd, rfl⟩ := Option.map_eq_some_iff.mp e2
      have hdm := List.mem_of_getElem? hd
      have hir := (List.getElem?_eq_some_iff.mp hd).1
      have hdd := deepR_mem r d hdm
      have hdz := rowT_size_mem (r.map Dd.code) d.code (List.mem_map.mpr ⟨d, hdm, rfl⟩)
      have hvl := DsAt.length _ vs hvs
      rw [List.length_take] at hvl
      refine ⟨rfl, lc_yes ?_⟩
      refine ⟨_, rfl, _, rfl, y2, fl, d, rfl, hy2.same s2, okR_mem r d hok hdm, by omega, by omega, by omega, fun p H3 s3 hp => ?_⟩
      have hD3 := s3 _ _ hD2
      have kt : KT H3 (upd H3 D (.lst (vs ++ [V.ref p]))) := KT.lst hD3
      refine ⟨vs, hD3, by omega, (s2.trans s3).set nD, vs ++ [V.ref p], upd_same, ?_⟩
      rw [List.take_succ_eq_append_getElem hir, (List.getElem?_eq_some_iff.mp hd).2]
      exact DsAt_snocT _ _ (DsAt_kt kt _ _ (DsAt_kt (KT.of s3) _ _ hvs)) (DAt_kt kt d _ hp)
    · rintro H2 ⟨s2, vs, hD2, hvs⟩
      have hul := Paired.length hus
      rw [List.length_map] at hul
      rw [hul, List.take_length] at hvs
      refine ⟨D, _, rfl, .inl ⟨SqL.of hD2, fun q nq => ?_⟩⟩
      have sq := Same.new nq (o := .tup vs)
      exact k q _ ((s1.trans s2).trans sq) ⟨vs, SqT.of upd_same, DsAt_kt (KT.of sq) _ _ hvs⟩
theorem ok_rowT0 {f : Addr} {fd : FuncData} (F : Fun K "row_told" "row_told" sRowT f fd) : FnOk P w K mg base CX0 (3 * 0 + 3) f fd ["thing", "floors"] (spRowT K C 0) := by
  refine F.ok scRt (fun vs H Q E h => ?_) (fun cdv A outer s H vs Q E hr h => ?_)
  · obtain ⟨y, fl, r, rfl, _⟩ := h
    rfl
  · obtain ⟨y, fl, r, _, _, _, h, _⟩ := h
    exact absurd h (Nat.not_lt_zero _)
theorem ok_tolds {fR fD fQ : Addr} {fdR fdD fdQ : FuncData} (FR : Fun K "row_told" "row_told" sRowT fR fdR) (FD : Fun K "deed_told" "deed_told" sDeedT fD fdD) (FP : Fun K "part_told" "part_told" sPartT fQ fdQ) (B : Blt mg) (G : FrmC K w mg) (DC : Def P w K mg base "counted" 1 ["thing"] (spCounted C)) (DP : Def P w K mg base "parts" 1 ["thing"] (spParts C)) (DK : Def P w K mg base "kind_told" 2 ["told"] (spKindT C))
    (mgr : mg "row_told" = some (.ref fR)) (br : Binds K fdR ["thing", "floors"] []) (mgd : mg "deed_told" = some (.ref fD)) (bd : Binds K fdD ["code", "floors"] []) (mgp : mg "part_told" = some (.ref fQ)) (bp : Binds K fdQ ["part", "sign", "floors"] []) : ∀ n, FnOk P w K mg base CX0 (3 * n + 3) fR fdR ["thing", "floors"] (spRowT K C n)
  | 0 => ok_rowT0 FR
  | n + 1 => ok_rowT FR G.mt DP (ok_deedT FD B G DP DK (ok_partT FP DC (ok_tolds FR FD FP B G DC DP DK mgr br mgd bd mgp bp n) mgr FR.kp br) mgp FP.kp bp) mgd FD.kp bd
theorem ok_progOf {f : Addr} {fd : FuncData} (F : Fun K "program_of" "program_of" sProgOf f fd) (T : Txt K mg C) (MP : MakerP P w K mg base C CP fP fdP) (DRt : Def P w K mg base "row_told" 30 ["thing", "floors"] (spRowT K C 9)) : FnOk P w K mg base CX0 34 f fd ["thing"] (spProgOf K C CP) := by
  refine F.ok scPo (fun vs H Q E h => ?_) (fun cdv A outer s H vs Q E hr' h => ?_)
  · obtain ⟨y, r, rfl, _⟩ := h
    rfl
  · obtain ⟨y, r, rfl, hy, hok, hdp, hmn, hz, k⟩ := h
    have hr : Room 30 _ := hr'.mono (by decide)
    have hr15 : Room 15 _ := hr'.mono (by decide)
    refine ⟨_, pss_cons (ps_if (pt_not (pt_val (pe_callB (r := rIsi K) call_isi (by rfl) T.isi PyProof.Rows.boot_isinstance (pa_cons (pv 0) (pa_cons (pe_glob (v := .ref C) rfl T.mgC rfl) pa_nil))))) (pss_one ps_never) pss_nil) (pss_one (ps_ret (pe_P MP hr15 rfl (pa_cons (pe_def DRt hr rfl (pa_cons (pv 0) (pa_cons pe_int pa_nil))) pa_nil)))), ?_⟩
    obtain ⟨dx, f1, g1, h1⟩ := hy.obj
    refine ⟨_, rfl, _, _, _, _, true, rfl, ClsV.own C, .base (.ins h1 T.cl T.ca T.cn T.ct T.cm), kit_self _ _, _, rfl, iteF ?_⟩
    refine ⟨_, rfl, y, 0, r, rfl, hy, hok, by omega, by omega, hz, fun q H1 s1 hq => ?_⟩
    exact ⟨q, r, rfl, hq, hdp, hmn, fun z H2 s2 nz hz2 => k z H2 (s1.trans s2) (s1.free nz) hz2⟩
end
end Js

set_option Elab.async false
set_option linter.all false
set_option maxRecDepth 100000
set_option maxHeartbeats 2000000
namespace Js
open PySem L2 PyProof.Rows
/-- a value that is no Thing, and whose kind stands under no Thing -/
def NoTh (K : PySem.W.Frag) (C : Addr) (H : Hp) (y : V) : Prop := ∃ t : Value, TyX K H y t ∧ PySem.W.notFirst K C t = true ∧ PySem.W.kitOne K t (.ref C) = some false
/-- thing == what is no thing -/
def spEqN (K : PySem.W.Frag) (C : Addr) : Sp := fun vs H Q _ => ∃ a y, vs = [.ref a, y] ∧ NoTh K C H y ∧ Q (.bl false) H
section
variable {P : Program} {w : World} {K : PySem.W.Frag} {mg : Str → Option Value} {base : Heap} {C : Addr}
theorem ok_eqN {f fA : Addr} {fd fdA : FuncData} (F : Fun K "__eq__" "Thing.__eq__" sEq f fd) (T : Txt K mg C) (AA : At K mg "alike" sAlike ["one", "other"] fA fdA) : FnOk P w K mg base CX0 2 f fd ["self", "other"] (spEqN K C) := by
  have GA : FnOk P w K mg base CX0 1 fA fdA ["one", "other"] (spAlike C) := ok_alike AA.F T
  refine F.ok scE (fun vs H Q E h => ?_) (fun cdv A outer s H vs Q E hr h => ?_)
  · obtain ⟨a, y, rfl, _⟩ := h
    rfl
  · obtain ⟨a, y, rfl, ⟨t, hty, hnf, hkt⟩, k⟩ := h
    refine ⟨_, pss_one (ps_ret (pe_and (pe_callB call_isi (by rfl) T.isi PyProof.Rows.boot_isinstance (pa_cons (pv 1) (pa_cons (pe_glob (v := .ref C) rfl T.mgC rfl) pa_nil)))
      (pe_one (pe_call GA hr rfl AA.mgf AA.F.kp AA.b .nil pass0 (pa_cons (pv 0) (pa_cons (pv 1) pa_nil)))))), ?_⟩
    exact ⟨_, rfl, _, _, _, _, false, rfl, ClsV.own C, hty, hkt, false, rfl, iteF k⟩
end
section
variable {X : Cx} {C : Addr}
def rEqN (K : PySem.W.Frag) (C : Addr) : R2 := fun x y H Q => ∃ a dx fs, x = .ref a ∧ H a = some (.ins C dx fs) ∧ NoTh K C H y ∧ Q (.bl false) H
theorem op_eqN (S : Spc X.prog X.w X.K X.mg X.base C "__eq__" 2 ["self", "other"] (spEqN X.K C)) (hr : Room 2 X.A) : OpR X (compareOp .Eq) (rEqN X.K C) := by
  obtain ⟨f, fd, o, F, hb⟩ := S
  intro pins s σ H x y v u Q I rx ry h
  obtain ⟨a, dx, fs, rfl, ha, ⟨t, hty, hnf, hkt⟩, q⟩ := h
  cases (show v = Value.ref a from rx)
  show wpAny _ _ (richCompare .Eq (.ref a) u) _ _ _
  obtain ⟨od, J⟩ := inst_of I ha
  obtain ⟨m, hF⟩ := I.fr
  obtain ⟨Z, kx, hZ, _⟩ := kit_of I ry hty
  refine PySem.W.cmp_K (op := .Eq) (tb := t) hr.units0 hF I.ok.mod.kin J (kx.ty _ _ I.kIn hZ) hnf o.at_ o.fn (wpAny_mono (run_fnA (us := [.ref a, u]) (vs := [.ref a, y]) (Q := fun z H' => z = .bl false ∧ Q (.bl false) H') F hr I.env0 hb pass0 I (.cons rfl (.cons ry .nil)) ⟨a, y, rfl, ⟨t, hty, hnf, hkt⟩, rfl, q⟩) (fun w s' z => ?_) fun _ _ x => x)
  obtain ⟨z', H', I', rz, rfl, qz⟩ := z
  cases (show w = Value.bool false from rz)
  exact ⟨.bl false, H', I', rfl, qz⟩
end
end Js

set_option Elab.async false
set_option linter.all false
set_option maxRecDepth 100000
set_option maxHeartbeats 2000000
/-! u == x, u of a built-in kind that declines, x an instance with its own == -/
namespace JsLow
open PySem PySem.Spec PyProof.Rows PySem.W
section
variable {prog : Program} {w : World} {A : Around} {E : Value → Shared → Prop} {s : Shared} {K : Frag} {x C f : Addr} {ox : Obj} {od : Option Obj} {u : Value} {T : String}
theorem none_eq_ref (a : Addr) : Gives (Builtin.«NoneType.__eq__» ⟨[.none, .ref a], []⟩) (.val (Value.notImplemented)) :=
  .of_wp fun M A E s Q h => by obtain ⟨hp, g, d, tk, os⟩ := s; wp_walk; exact ⟨_, rfl, h⟩
/-- the left one declines, the right one's == is asked -/
theorem refl_K {Q : Value → Shared → Prop} (hu : A.units < cLine) (X : K.In s.heap) (I : InstAt s.heap x ox C od) (hT : s.TypeIs u T) (one : oneThing? .Eq u (.ref x) = none) (hs : subIn K (.ref C) (.type T) = some false)
    (dec : ∀ {Q' : Option Value → Shared → Prop}, (∀ tk, Q' none { s with toks := tk }) → wpAny (model prog w) A (tryCompare u "__eq__" (.ref x)) Q' E s)
    (he : findIn K (.ref C) "__eq__" = some (some (.ref f))) (hf : isFn K (.ref f) = true)
    (h : ∀ tk, wpAny (model prog w) A (call (.ref f) [.ref x, u]) (PySem.W.CmpBack Q) E { s with toks := tk }) : wpAny (model prog w) A (richCompare .Eq u (.ref x)) Q E s := by
  unfold richCompare
  refine wpAny_holding (wpAny_bind (wpAny_cRoomFor hu ?_))
  rw [one]
  refine wpAny_bind (wpAny_typeOf hT (wpAny_bind (I.type.here ?_)))
  have ne : (Value.type T != Value.ref C) = true := by simp
  try dsimp only
  rw [if_pos ne]
  refine wpAny_bind ((looks_subIn X hs).here ?_)
  simp only [Bool.false_eq_true, if_false, Bool.not_false, if_true]
  refine wpAny_bind (dec fun tk => ?_)
  try dsimp only
  refine wpAny_bind ?_
  unfold tryCompare
  refine wpAny_bind (ifBound_K (s := { s with toks := tk }) X (show InstAt ({ s with toks := tk } : Shared).heap x ox C od from I) he hf (wpAny_mono (h tk) (fun v s' hv => ?_) fun _ _ e => e))
  cases v <;> first | exact hv.elim | exact wpAny_pure (wpAny_pure hv)
theorem dec_none {Q' : Option Value → Shared → Prop} (h : ∀ tk, Q' none { s with toks := tk }) : wpAny (model prog w) A (tryCompare .none "__eq__" (.ref x)) Q' E s :=
  wpAny_tryCompare_declines (T := "NoneType") rfl F.slot_NoneType_eq (call_gives F.slot_NoneType_eq rfl F.entry_NoneType_eq (F.args_NoneType_eq_2 _ _) (none_eq_ref x) ⟨rfl, h _⟩)
theorem dec_str {a : Str} {t : Tok} {dx : Addr} {Q' : Option Value → Shared → Prop} (hx : s.heap.get? x = some (PySem.W.instObj C dx)) (h : ∀ tk, Q' none { s with toks := tk }) : wpAny (model prog w) A (tryCompare (.str a t) "__eq__" (.ref x)) Q' E s := by
  refine wpAny_tryCompare_declines (typeIs_str s a t) F.slot_str_eq (wpAny_call_entry F.slot_str_eq (typeIs_str s a t) F.entry_str_eq ?_ (F.args_str_eq_2 _ _))
  unfold Builtin.«str.__eq__» Builtin.Str.strCompare
  refine wpAny_bind (wpAny_of_eq (a := (Value.str a t, a, [Value.ref x])) (by first | rfl | kernel_rfl) ?_)
  try dsimp only
  show wpAny _ _ (asStr? (.ref x) >>= _) _ _ _
  unfold asStr?
  refine wpAny_bind (wpAny_bind (wpAny_load hx (wpAny_pure ?_)))
  exact wpAny_bind (wpAny_rule (wpAny_pure ⟨_, rfl, rfl, h _⟩))
end
end JsLow
namespace Js
open PySem L2 PySem.Spec PyProof.Rows
section
variable {X : Cx} {C : Addr}
/-- y == thing, y None or a text -/
def DRef (K : PySem.W.Frag) (C : Addr) : Tells := fun y x r H => ∃ a t, x = .ref a ∧ Th C H a t ∧ r = false ∧ (y = .non ∨ ∃ z, y = .str z) ∧ NoTh K C H y
theorem eqT_ref (S : Spc X.prog X.w X.K X.mg X.base C "__eq__" 2 ["self", "other"] (spEqN X.K C)) (h1 : PySem.W.subIn X.K (.ref C) (.type "NoneType") = some false) (h2 : PySem.W.subIn X.K (.ref C) (.type "str") = some false) : EqT X 2 (DRef X.K C) := by
  obtain ⟨f, fd, o, F, hb⟩ := S
  intro A pins s σ H y x u v r sb I ry rx d
  obtain ⟨a, t, rfl, ha, rfl, hy, hn⟩ := d
  cases (show v = Value.ref a from rx)
  obtain ⟨dx, f1, g1, h0⟩ := ha.obj
  obtain ⟨od, J⟩ := inst_of I h0
  have hx : s.heap.get? a = some (PySem.W.instObj C dx) := (show ObjOk X.prog X.w H s.heap a (.ins C dx _) from I.hok a _ h0).2.2.2.1
  have e0 : ∀ tk, Env0 X.prog X.w X.K X.mg X.base A X.stack { s with toks := tk } H := fun tk => by
    have e := (I.tok tk).env0
    exact ⟨by rw [sb.fr]; exact e.frames, e.mod, e.bs, e.bsz, e.funs, e.frf, e.hok, e.bare⟩
  have fin : ∀ {Q : Value → Shared → Prop}, (∀ s' H', Inv X pins σ H' s' → Same H H' → Q (.bool false) s') → ∀ tk, wpAny (model X.prog X.w) A (call (.ref f) [.ref a, u]) (PySem.W.CmpBack Q) X.xe { s with toks := tk } := by
    intro Q k tk
    refine wpAny_mono (run_fnA (us := [.ref a, u]) (vs := [.ref a, y]) (Q := fun z H' => z = .bl false ∧ H' = H) F sb.room (e0 tk) hb pass0 (I.tok tk) (.cons rfl (.cons ry .nil)) ⟨a, y, rfl, hn, rfl, rfl⟩) (fun w s' z => ?_) fun _ _ x => x
    obtain ⟨z', H', I', rz, rfl, rfl⟩ := z
    cases (show w = Value.bool false from rz)
    exact k s' _ I' (Same.refl _)
  rcases hy with rfl | ⟨z, rfl⟩
  · cases (show u = Value.none from ry)
    unfold eqBool
    refine wpAny_holding (wpAny_ite_split (fun hab => absurd (eq_of_beq hab) (by simp)) fun _ => wpAny_bind (wpAny_mono (Q := fun w s' => w = .bool false ∧ ∃ H', Inv X pins σ H' s' ∧ Same H H') ?_ (fun w s' z => ?_) fun _ _ x => x))
    · exact JsLow.refl_K (T := "NoneType") sb.room.units0 I.kIn J rfl rfl h1 JsLow.dec_none o.at_ o.fn (fin fun s' H' I' sm => ⟨rfl, H', I', sm⟩)
    · obtain ⟨rfl, H', I', sm⟩ := z
      exact wpAny_truthy_bool ⟨rfl, H', I', sm⟩
  · obtain ⟨t', rfl⟩ := (show ∃ t', u = Value.str z t' from ry)
    unfold eqBool
    refine wpAny_holding (wpAny_ite_split (fun hab => absurd (eq_of_beq hab) (by simp)) fun _ => wpAny_bind (wpAny_mono (Q := fun w s' => w = .bool false ∧ ∃ H', Inv X pins σ H' s' ∧ Same H H') ?_ (fun w s' z => ?_) fun _ _ x => x))
    · exact JsLow.refl_K (T := "str") sb.room.units0 I.kIn J (typeIs_str s z t') rfl h2 (JsLow.dec_str hx) o.at_ o.fn (fin fun s' H' I' sm => ⟨rfl, H', I', sm⟩)
    · obtain ⟨rfl, H', I', sm⟩ := z
      exact wpAny_truthy_bool ⟨rfl, H', I', sm⟩
end
end Js

set_option Elab.async false
set_option linter.all false
set_option maxRecDepth 100000
set_option maxHeartbeats 2000000
/-! u == x: whole numbers, tuples, lists decline, too -/
namespace JsLow
open PySem PySem.Spec PyProof.Rows PySem.W
open AutoSeq1 (wpAny_loadPart')
section
variable {prog : Program} {w : World} {A : Around} {E : Value → Shared → Prop} {s : Shared} {K : Frag} {x C f : Addr} {ox : Obj} {od : Option Obj} {u : Value} {T : String}
theorem isInst_K {M : Model} {b : Bool} {Q : Bool → Shared → Prop} (X : K.In s.heap) (I : InstAt s.heap x ox C od) (hs : subIn K (.ref C) (.type T) = some b) (h : Q b s) : wpAny M A (isInstance (.ref x) (.type T)) Q E s :=
  wpAny_bind (I.type.here ((looks_subIn X hs).here h))
theorem dec_tup {l : Addr} {Q' : Option Value → Shared → Prop} (X : K.In s.heap) (I : InstAt s.heap x ox C od) (hT : s.TypeIs (.ref l) "tuple") (hs : subIn K (.ref C) (.type "tuple") = some false) (h : ∀ tk, Q' none { s with toks := tk }) : wpAny (model prog w) A (tryCompare (.ref l) "__eq__" (.ref x)) Q' E s := by
  refine wpAny_tryCompare_declines hT F.slot_tuple_eq (wpAny_call_entry F.slot_tuple_eq hT F.entry_tuple_eq ?_ (F.args_tuple_eq_2 _ _))
  have h0 := h s.toks
  obtain ⟨hp, g, d, tk, os⟩ := s
  wp_walk using isInst_K X I hs
  exact ⟨_, rfl, rfl, h0⟩
theorem dec_lst {l : Addr} {Q' : Option Value → Shared → Prop} (X : K.In s.heap) (I : InstAt s.heap x ox C od) (hT : s.TypeIs (.ref l) "list") (hs : subIn K (.ref C) (.type "list") = some false) (h : ∀ tk, Q' none { s with toks := tk }) : wpAny (model prog w) A (tryCompare (.ref l) "__eq__" (.ref x)) Q' E s := by
  refine wpAny_tryCompare_declines hT F.slot_list_eq (wpAny_call_entry F.slot_list_eq hT F.entry_list_eq ?_ (F.args_list_eq_2 _ _))
  have h0 := h s.toks
  obtain ⟨hp, g, d, tk, os⟩ := s
  wp_walk using isInst_K X I hs
  exact ⟨_, rfl, rfl, h0⟩
theorem dec_int {i : Int} {t : Tok} {dx : Addr} {Q' : Option Value → Shared → Prop} (hx : s.heap.get? x = some (PySem.W.instObj C dx)) (h : ∀ tk, Q' none { s with toks := tk }) : wpAny (model prog w) A (tryCompare (.int i t) "__eq__" (.ref x)) Q' E s := by
  refine wpAny_tryCompare_declines (typeIs_int s i t) F.slot_int_eq (wpAny_call_entry F.slot_int_eq (typeIs_int s i t) F.entry_int_eq ?_ (F.args_int_eq_2 _ _))
  have h0 := h s.toks
  obtain ⟨hp, g, d, tk, os⟩ := s
  wp_walk using wpAny_load hx
  exact ⟨_, rfl, rfl, h0⟩
end
end JsLow

set_option Elab.async false
set_option linter.all false
set_option maxRecDepth 100000
set_option maxHeartbeats 2000000
/-! the truth of an instance, by its own len -/
namespace JsLow
open PySem PySem.Spec PyProof.Rows PySem.W
section
variable {prog : Program} {w : World} {A : Around} {E : Value → Shared → Prop} {s : Shared} {K : Frag} {x C f : Addr} {ox : Obj} {od : Option Obj}
theorem truth_len {Q : Bool → Shared → Prop} (X : K.In s.heap) (I : InstAt s.heap x ox C od) (nb : findIn K (.ref C) "__bool__" = some none) (hl : findIn K (.ref C) "__len__" = some (some (.ref f))) (hf : isFn K (.ref f) = true)
    (h : wpAny (model prog w) A.in1 (call (.ref f) [.ref x]) (fun v s' => ∃ n t, v = .int n t ∧ 0 ≤ n ∧ n < 2 ^ 63 ∧ ∀ tk, Q (n != 0) { s' with toks := tk }) E s) : wpAny (model prog w) A (truthy (.ref x)) Q E s := by
  unfold truthy
  refine wpAny_bind (m := callSpecial? (.ref x) "__bool__") (wpAny_bind (wpAny_bind (I.type.here ((looks_findIn X nb).here (wpAny_pure ?_)))))
  refine wpAny_bind (wpAny_bind (I.type.here ((looks_findIn X hl).here ?_)))
  rw [if_neg (show ¬ ((some (Value.ref f)).isNone = true) by simp)]
  refine wpAny_bind (wpAny_mono (Q := fun r s' => ∃ n t, r = .int n t ∧ Q (n != 0) s') (wpAny_runValue (codeAny_builtin entry_len ?_)) (fun r s' z => ?_) fun _ _ e => e)
  · rw [Around.under_plainId plain_len _]
    unfold Builtin.«len»
    refine wpAny_bind (m := oneArg "len" _) (wpAny_pure (wpAny_bind (m := callSpecial? (.ref x) (Str.ofString "__len__")) (special_fn X I hl (beq_iff_eq.mp hf) (wpAny_mono h ?_ fun _ _ y => y))))
    rintro r s' ⟨n, t, rfl, h0, h1, hq⟩
    refine wpAny_bind (wpAny_holding (wpAny_pure (wpAny_bind (wpAny_letGo ?_))))
    show wpAny _ _ (if n < 0 then _ else _) _ _ _
    rw [if_neg (by omega)]
    show wpAny _ _ (if n ≥ 2 ^ 63 then _ else _) _ _ _
    rw [if_neg (by omega)]
    exact wpAny_bind (wpAny_mkInt (wpAny_pure ⟨n, _, rfl, hq _⟩))
  · obtain ⟨n, t, rfl, hq⟩ := z
    exact wpAny_pure hq
theorem new_bool {v : Value} {Q₁ : Value → Shared → Prop} (h : wpAny (model prog w) A.in1 (truthy v) (fun b s' => Q₁ (.bool b) s') E s) : codeAny (model prog w) A (.call (.builtin "bool.__new__") ⟨[.type "bool", v], []⟩) (wants Q₁ E) s := by
  refine codeAny_of_tree ?_
  show wpAny _ A.in1 (do checkBuiltinCall "bool.__new__" ⟨[.type "bool", v], []⟩; again (.builtin "bool.__new__" ⟨[.type "bool", v], []⟩)) _ _ s
  refine wpAny_bind (wpAny_of_eq (F.newCall_bool_1 _) (wpAny_pure ⟨Code.quiet_builtin _ (by decide +kernel), codeAny_builtin F.entry_bool_new ?_⟩))
  have pl : plainId "bool.__new__" := by
    first
    | exact F.plain_bool_new
    | decide +kernel
  rw [Around.under_plainId pl _]
  unfold Builtin.«bool.__new__»
  have e1 : isType (.type "bool") = (pure true : Sem Bool) := by first | rfl | kernel_rfl
  refine wpAny_bind (wpAny_of_eq e1 ?_)
  simp only [Bool.not_true, Bool.false_eq_true, if_false]
  refine wpAny_bind (wpAny_of_eq F.conv_sub_bool ?_)
  simp only [Bool.not_true, Bool.false_eq_true, if_false]
  refine wpAny_bind (wpAny_of_eq (a := [v]) (by first | rfl | kernel_rfl) ?_)
  try dsimp only
  exact wpAny_bind (wpAny_mono h (fun b s' q => wpAny_pure q) fun _ _ e => e)
theorem call_boolV {v : Value} {Q : Value → Shared → Prop} (h : wpAny (model prog w) A.in1.in1 (truthy v) (fun b s' => Q (.bool b) s') E s) : wpAny (model prog w) A (call (.type "bool") [v]) Q E s := by
  have first := new_bool (prog := prog) (w := w) (A := A.in1) (E := E) (s := s) (v := v) (Q₁ := fun obj s₁ => s₁.TypeIs obj "bool" ∧ Q obj s₁) (wpAny_mono h (fun b s' q => ⟨rfl, q⟩) fun _ _ e => e)
  refine callType_codes F.called_bool (F.typeCall_bool_1 v) F.entry_object_init first fun obj s₁ hh => ⟨hh.1, F.args_object_init_2 obj _, ?_⟩
  exact object_init_meets F.called_bool.init.lookup F.called_bool.made (by decide) prog w A.in1 _ s₁ ⟨hh.1, rfl, hh.2⟩
end
end JsLow
namespace Js
open PySem PySem.Spec PyProof.Rows L2
section
variable {X : Cx} {C : Addr}
def rTruT (C : Addr) : V → Hp → (Bool → Hp → Prop) → Prop := fun x H Q => ∃ a t, x = .ref a ∧ Th C H a t ∧ t.size ≤ 4000 ∧ Q (((t.size : Nat) : Int) != 0) H
theorem tru_T (S : Spc X.prog X.w X.K X.mg X.base C "__len__" 1 ["self"] (spLen C)) (nb : PySem.W.findIn X.K (.ref C) "__bool__" = some none) (hr : Room 2 X.A) : TruR X (rTruT C) := by
  obtain ⟨f, fd, o, F, hb⟩ := S
  intro pins s σ H x v Q I rx h
  obtain ⟨a, t, rfl, ha, hz, q⟩ := h
  cases (show v = Value.ref a from rx)
  obtain ⟨dx, f1, g1, h0⟩ := ha.obj
  obtain ⟨od, J⟩ := inst_of I h0
  refine JsLow.truth_len I.kIn J nb o.at_ o.fn (wpAny_mono (run_fnA (us := [.ref a]) (vs := [.ref a]) (Q := fun z H' => z = .int ((t.size : Nat) : Int) ∧ H' = H) F hr.in1 I.env0.in1 hb pass0 I (.cons rfl .nil) ⟨a, t, rfl, ha, hz, rfl, rfl⟩) (fun w s' z => ?_) fun _ _ x => x)
  obtain ⟨z', H', I', rz, rfl, rfl⟩ := z
  obtain ⟨t', rfl⟩ := (show ∃ t', w = Value.int ((t.size : Nat) : Int) t' from rz)
  exact ⟨_, _, rfl, by omega, by omega, fun tk => ⟨_, I'.tok tk, q⟩⟩
end
end Js
namespace Js
open PySem PySem.Spec PyProof.Rows L2
section
variable {X : Cx} {C : Addr}
/-- bool(thing) -/
theorem call_boolT (S : Spc X.prog X.w X.K X.mg X.base C "__len__" 1 ["self"] (spLen C)) (nb : PySem.W.findIn X.K (.ref C) "__bool__" = some none) (hr : Room 4 X.A) : CallR X (.type "bool") (fun xs H Q => ∃ a t, xs = [.ref a] ∧ Th C H a t ∧ t.size ≤ 4000 ∧ Q (.bl (((t.size : Nat) : Int) != 0)) H) := by
  obtain ⟨f, fd, o, F, hb⟩ := S
  intro pins s σ H xs us Q I r h
  obtain ⟨a, t, rfl, ha, hz, q⟩ := h
  obtain ⟨u, rfl, ru⟩ := vals1 r
  cases (show u = Value.ref a from ru)
  obtain ⟨dx, f1, g1, h0⟩ := ha.obj
  obtain ⟨od, J⟩ := inst_of I h0
  have hr3 : Room 1 X.A.in1.in1.in1 := (show Room 2 X.A.in1.in1 from (show Room 3 X.A.in1 from hr.in1).in1).in1
  refine JsLow.call_boolV (JsLow.truth_len I.kIn J nb o.at_ o.fn (wpAny_mono (run_fnA (us := [.ref a]) (vs := [.ref a]) (Q := fun z H' => z = .int ((t.size : Nat) : Int) ∧ H' = H) F hr3 I.env0.in1.in1.in1 hb pass0 I (.cons rfl .nil) ⟨a, t, rfl, ha, hz, rfl, rfl⟩) (fun w s' z => ?_) fun _ _ x => x))
  obtain ⟨z', H', I', rz, rfl, rfl⟩ := z
  obtain ⟨t', rfl⟩ := (show ∃ t', w = Value.int ((t.size : Nat) : Int) t' from rz)
  exact ⟨_, _, rfl, by omega, by omega, fun tk => ⟨.bl _, _, I'.tok tk, rfl, q⟩⟩
end
end Js

set_option Elab.async false
set_option linter.all false
set_option maxRecDepth 100000
set_option maxHeartbeats 2000000
/-! programs: ==, !=, in, len, bool; beside what is none -/
namespace GQ
open PySem PySem.SeqAt PyProof.Rows
section
variable {prog : Program} {w : World} {A : Around} {R : Result → Shared → Prop}
theorem op_notin_listG {E : Value → Shared → Prop} {s : Shared} {l : Addr} {x : Value} {N : Nat} {Q : Value → Shared → Prop} (I : Nat → Shared → Prop)
    (hl : InI prog w A (wants (fun v s' => ∃ b, v = .bool b ∧ Q (.bool (!b)) s') E) l x N I)
    (fin : ∀ s, I N s → Q (.bool true) s) (h : I 0 s) : wpAny (model prog w) A (compareOp .NotIn x (.ref l)) Q E s := by
  obtain ⟨items, n, hl1, hs1, _⟩ := hl _ _ h
  show wpAny _ A (do return .bool (!(← contains (.ref l) x))) Q E s
  refine wpAny_bind (wpAny_contains_slot ⟨_, hl1, rfl⟩ F.slot_list_contains (wpAny_mono (call_here F.slot_list_contains ⟨_, hl1, rfl⟩ F.entry_list_contains (F.args_list_contains_2 _ _)
    (list_inG (R := wants (fun v s' => ∃ b, v = .bool b ∧ Q (.bool (!b)) s') E) l x N I hl (fun s' q => ⟨false, rfl, fin s' q⟩) h)) (fun v s' hv => ?_) fun _ _ e => e))
  obtain ⟨b, rfl, hq⟩ := hv
  exact wpAny_truthy_bool (wpAny_pure hq)
end
end GQ
namespace Js
open PySem PySem.Spec PyProof.Rows L2
def rNotInT (D : Tells) : R2 := fun x y H Q => ∃ (p : Addr) (xs : List V) (bs : List Bool), y = .ref p ∧ H p = some (.lst xs) ∧ bs.length = xs.length ∧ (∀ (i : Nat) z b, xs[i]? = some z → bs[i]? = some b → D z x b H) ∧ ∀ H', Same H H' → Q (.bl (!bs.any id)) H'
theorem op_notInT {X : Cx} {n : Nat} {D : Tells} (h : EqT X n D) (mon : MonT D) (hr : Room (n + 1) X.A) : OpR X (compareOp .NotIn) (rNotInT D) := by
  intro pins s σ H x y v u Q I rx ry hq
  obtain ⟨p, xs, bs, rfl, hp, hl, hd, q⟩ := hq
  cases (show u = Value.ref p from ry)
  refine GQ.op_notin_listG (N := xs.length) (fun i s' => (∃ H', Inv X pins σ H' s' ∧ Same H H') ∧ (bs.take i).any id = false) (fun i s' z => ?_) (fun s' z => ?_) ⟨⟨H, I, Same.refl H⟩, by simp⟩
  · obtain ⟨⟨H1, I1, e1⟩, nb⟩ := z
    obtain ⟨z, its, k, r, e⟩ := I1.hok p _ (e1 _ _ hp)
    refine ⟨its.toArray, k, e, by rw [List.size_toArray, ← r.length], fun h1 => ?_⟩
    have h1' : i < its.length := by simpa using h1
    have k1 : i < xs.length := by rw [r.length]; exact h1'
    have k2 : i < bs.length := by rw [hl]; exact k1
    obtain ⟨w', hw, rw'⟩ := r.get (List.getElem?_eq_getElem k1)
    have g1 : its[i]? = some its.toArray[i] := by rw [List.getElem?_eq_getElem h1'] <;> simp
    rw [g1] at hw
    rw [Option.some.inj hw]
    refine wpAny_mono (h X.A.in1 pins s' σ H1 _ x w' v _ ⟨hr.in1, rfl⟩ I1 rw' rx (mon _ _ _ _ _ e1 (hd i _ _ (List.getElem?_eq_getElem k1) (List.getElem?_eq_getElem k2)))) (fun r' s2 q2 => ?_) fun _ _ x => x
    obtain ⟨er, H2, I2, e2⟩ := q2
    subst er
    have tk : (bs.take (i + 1)).any id = bs[i] := by
      rw [List.take_succ_eq_append_getElem k2, List.any_append, nb]
      simp
    cases hb : bs[i] with
    | true =>
      rw [if_pos rfl]
      refine ⟨true, rfl, .bl false, H2, I2, rfl, ?_⟩
      have qq := q H2 (e1.trans e2)
      have : bs.any id = true := List.any_eq_true.mpr ⟨bs[i], List.getElem_mem k2, by rw [hb]; rfl⟩
      rw [this] at qq
      exact qq
    | false =>
      rw [if_neg Bool.false_ne_true]
      exact ⟨⟨H2, I2, e1.trans e2⟩, by rw [tk, hb]⟩
  · obtain ⟨⟨H1, I1, e1⟩, nb⟩ := z
    rw [← hl, List.take_length] at nb
    have qq := q H1 e1
    rw [nb] at qq
    exact ⟨.bl true, H1, I1, rfl, qq⟩
section
variable {X : Cx} {C CP : Addr} {k : Nat}
def DPg (K : PySem.W.Frag) (C CP : Addr) : Tells := fun x y b H => ∃ a c r u, x = .ref a ∧ y = .ref c ∧ PgAt K C CP H a r ∧ PgAt K C CP H c u ∧ b = decide (r = u)
theorem DPg_mon {K : PySem.W.Frag} : MonT (DPg K C CP) := fun x y b H H' s d => by
  obtain ⟨a, c, r, u, e1, e2, h1, h2, e3⟩ := d
  exact ⟨a, c, r, u, e1, e2, h1.same s, h2.same s, e3⟩
theorem PgAt_inj {pins : List (Addr × Obj)} {σ : L2.St} {H : Hp} {s : Shared} (I : Inv X pins σ H s) {a : Addr} {r u : List Dd} (h : PgAt X.K C CP H a r) (g : PgAt X.K C CP H a u) : r = u := by
  obtain ⟨dx, q, pl, ys, h1, h2, _⟩ := h.ex
  obtain ⟨dx', q', pl', ys', g1, g2, _⟩ := g.ex
  have e := Option.some.inj (h1.symm.trans g1)
  injection e with _ _ e3
  have e4 := congrArg (List.lookup ("deeds" : Str)) e3
  rw [pf_deeds, pf_deeds] at e4
  cases V.ref.inj (Option.some.inj e4)
  exact RAt_inj I h2 g2
theorem rcT_P (S : Spc X.prog X.w X.K X.mg X.base CP "__eq__" k ["self", "other"] (spPEq X.K C CP)) : RcT X .Eq id k (DPg X.K C CP) := by
  obtain ⟨f, fd, ow, F, hb⟩ := S
  intro A pins s σ H x y u v r sb I rx ry d
  obtain ⟨a, c, r1, r2, rfl, rfl, h1, h2, rfl⟩ := d
  cases rx
  cases ry
  obtain ⟨dx, q, pl, ys, g1, _⟩ := h1.ex
  obtain ⟨dy, q', pl', ys', g2, _⟩ := h2.ex
  have e0 : Env0 X.prog X.w X.K X.mg X.base A X.stack s H := by
    have e := I.env0
    exact ⟨by rw [sb.fr]; exact e.frames, e.mod, e.bs, e.bsz, e.funs, e.frf, e.hok, e.bare⟩
  refine wpAny_mono (rc_own (Q := fun b H' => b = decide (r1 = r2) ∧ Same H H') ow F hb sb.room e0 pass0 I g1 g2 ⟨a, c, r1, r2, rfl, h1, h2, fun H' s' => ⟨_, rfl, rfl, s'⟩⟩) (fun w s' z => ?_) fun _ _ x => x
  obtain ⟨b, rfl, H', I', rfl, sm⟩ := z
  exact ⟨rfl, H', I', sm⟩
theorem eqT_P (S : Spc X.prog X.w X.K X.mg X.base CP "__eq__" k ["self", "other"] (spPEq X.K C CP)) : EqT X k (DPg X.K C CP) :=
  RcT.eqT (rcT_P S) (fun x y r H d => let ⟨a, c, _, _, e1, e2, _⟩ := d; ⟨a, c, e1, e2⟩) fun pins s σ H x r I d => by
    obtain ⟨a, c, r1, r2, e1, e2, h1, h2, rfl⟩ := d
    cases e1
    cases e2
    exact decide_eq_true (PgAt_inj I h1 h2)
theorem op_neP (S : Spc X.prog X.w X.K X.mg X.base CP "__eq__" k ["self", "other"] (spPEq X.K C CP)) (TP : TxtP X.K X.mg CP) (hr : Room (k + 1) X.A) : OpR X (compareOp .NotEq) (rCmpT (DPg X.K C CP) not) := by
  obtain ⟨f, fd, ow, F, hb⟩ := S
  refine OpR.imp (op_neOwn ow ⟨TP.ne, TP.cm⟩ F hb hr (pass0)) fun x y H Q h => ?_
  obtain ⟨b, ⟨a, c, r, u, rfl, rfl, h1, h2, rfl⟩, q⟩ := h
  obtain ⟨dx, q1, pl, ys, g1, _⟩ := h1.ex
  obtain ⟨dy, q', pl', ys', g2, _⟩ := h2.ex
  exact ⟨a, dx, _, c, dy, _, rfl, rfl, g1, g2, a, c, r, u, rfl, h1, h2, fun H' s => ⟨_, rfl, q H' s⟩⟩
theorem call_lenP (S : Spc X.prog X.w X.K X.mg X.base CP "__len__" 1 ["self"] (spPLen X.K C CP)) (hr : Room 2 X.A) : CallR X (.builtin "len") (fun xs H Q => ∃ a r, xs = [.ref a] ∧ PgAt X.K C CP H a r ∧ Q (.int ((manyR r : Nat) : Int)) H) := by
  obtain ⟨f, fd, ow, F, hb⟩ := S
  refine CallR.imp (call_lenOwn ow F hb hr (pass0)) fun xs H Q h => ?_
  obtain ⟨a, r, rfl, ha, q⟩ := h
  obtain ⟨dx, q1, pl, ys, g1, _⟩ := ha.ex
  have := ha.mn
  exact ⟨a, dx, _, rfl, g1, a, r, rfl, ha, _, rfl, by omega, q⟩
theorem call_boolP (S : Spc X.prog X.w X.K X.mg X.base CP "__len__" 1 ["self"] (spPLen X.K C CP)) (nb : PySem.W.findIn X.K (.ref CP) "__bool__" = some none) (hr : Room 4 X.A) : CallR X (.type "bool") (fun xs H Q => ∃ a r, xs = [.ref a] ∧ PgAt X.K C CP H a r ∧ Q (.bl (((manyR r : Nat) : Int) != 0)) H) := by
  obtain ⟨f, fd, o, F, hb⟩ := S
  intro pins s σ H xs us Q I r h
  obtain ⟨a, t, rfl, ha, q⟩ := h
  obtain ⟨u, rfl, ru⟩ := vals1 r
  cases (show u = Value.ref a from ru)
  obtain ⟨dx, q1, pl, ys, g1, _⟩ := ha.ex
  have hm := ha.mn
  obtain ⟨od, J⟩ := inst_of I g1
  have hr3 : Room 1 X.A.in1.in1.in1 := (show Room 2 X.A.in1.in1 from (show Room 3 X.A.in1 from hr.in1).in1).in1
  refine JsLow.call_boolV (JsLow.truth_len I.kIn J nb o.at_ o.fn (wpAny_mono (run_fnA (us := [.ref a]) (vs := [.ref a]) (Q := fun z H' => z = .int ((manyR t : Nat) : Int) ∧ H' = H) F hr3 I.env0.in1.in1.in1 hb pass0 I (.cons rfl .nil) ⟨a, t, rfl, ha, rfl, rfl⟩) (fun w s' z => ?_) fun _ _ x => x))
  obtain ⟨z', H', I', rz, rfl, rfl⟩ := z
  obtain ⟨t', rfl⟩ := (show ∃ t', w = Value.int ((manyR t : Nat) : Int) t' from rz)
  exact ⟨_, _, rfl, by omega, by omega, fun tk => ⟨.bl _, _, I'.tok tk, rfl, q⟩⟩
/-- x == y, x of the class at C with its own ==, y of another kind -/
theorem op_eqNk (S : Spc X.prog X.w X.K X.mg X.base C "__eq__" k ["self", "other"] (spEqN X.K C)) (hr : Room k X.A) : OpR X (compareOp .Eq) (rEqN X.K C) := by
  obtain ⟨f, fd, o, F, hb⟩ := S
  intro pins s σ H x y v u Q I rx ry h
  obtain ⟨a, dx, fs, rfl, ha, ⟨t, hty, hnf, hkt⟩, q⟩ := h
  cases (show v = Value.ref a from rx)
  show wpAny _ _ (richCompare .Eq (.ref a) u) _ _ _
  obtain ⟨od, J⟩ := inst_of I ha
  obtain ⟨m, hF⟩ := I.fr
  obtain ⟨Z, kx, hZ, _⟩ := kit_of I ry hty
  refine PySem.W.cmp_K (op := .Eq) (tb := t) hr.units0 hF I.ok.mod.kin J (kx.ty _ _ I.kIn hZ) hnf o.at_ o.fn (wpAny_mono (run_fnA (us := [.ref a, u]) (vs := [.ref a, y]) (Q := fun z H' => z = .bl false ∧ Q (.bl false) H') F hr I.env0 hb pass0 I (.cons rfl (.cons ry .nil)) ⟨a, y, rfl, ⟨t, hty, hnf, hkt⟩, rfl, q⟩) (fun w s' z => ?_) fun _ _ x => x)
  obtain ⟨z', H', I', rz, rfl, qz⟩ := z
  cases (show w = Value.bool false from rz)
  exact ⟨.bl false, H', I', rfl, qz⟩
/-- a built-in value ahead of a program: None, a text, a whole number, a tuple, a list -/
def Blt5 (K : PySem.W.Frag) (H : Hp) (x : V) : Prop := x = .non ∨ (∃ z, x = .str z) ∨ (∃ i, x = .int i) ∨ (∃ p xs, x = .ref p ∧ SqT K H p xs) ∨ ∃ p xs, x = .ref p ∧ SqL K H p xs
def rEqBf (K : PySem.W.Frag) (CP : Addr) : R2 := fun x y H Q => ∃ a dx fs, y = .ref a ∧ H a = some (.ins CP dx fs) ∧ Blt5 K H x ∧ NoTh K CP H x ∧ Q (.bl false) H
theorem op_eqBf (S : Spc X.prog X.w X.K X.mg X.base CP "__eq__" k ["self", "other"] (spEqN X.K CP)) (hs : ∀ n ∈ ["NoneType", "str", "int", "tuple", "list"], PySem.W.subIn X.K (.ref CP) (.type n) = some false) (hr : Room k X.A) : OpR X (compareOp .Eq) (rEqBf X.K CP) := by
  obtain ⟨f, fd, o, F, hb⟩ := S
  intro pins s σ H x y u v Q I rx ry h
  obtain ⟨a, dx, fs, rfl, ha, h5, hn, q⟩ := h
  cases (show v = Value.ref a from ry)
  obtain ⟨od, J⟩ := inst_of I ha
  have hx : s.heap.get? a = some (PySem.W.instObj CP dx) := (show ObjOk X.prog X.w H s.heap a (.ins CP dx _) from I.hok a _ ha).2.2.2.1
  have fin : ∀ tk, wpAny (model X.prog X.w) X.A (call (.ref f) [.ref a, u]) (PySem.W.CmpBack (EP X pins σ Q)) X.xe { s with toks := tk } := by
    intro tk
    refine wpAny_mono (run_fnA (us := [.ref a, u]) (vs := [.ref a, x]) (Q := fun z H' => z = .bl false ∧ H' = H) F hr (I.tok tk).env0 hb pass0 (I.tok tk) (.cons rfl (.cons rx .nil)) ⟨a, x, rfl, hn, rfl, rfl⟩) (fun w s' z => ?_) fun _ _ x => x
    obtain ⟨z', H', I', rz, rfl, rfl⟩ := z
    cases (show w = Value.bool false from rz)
    exact ⟨.bl false, _, I', rfl, q⟩
  show wpAny _ _ (richCompare .Eq u (.ref a)) _ _ _
  rcases h5 with rfl | ⟨z, rfl⟩ | ⟨i, rfl⟩ | ⟨p, xs, rfl, hp⟩ | ⟨p, xs, rfl, hp⟩
  · cases (show u = Value.none from rx)
    exact JsLow.refl_K (T := "NoneType") hr.units0 I.kIn J rfl rfl (hs _ (by simp)) JsLow.dec_none o.at_ o.fn fin
  · obtain ⟨t', rfl⟩ := (show ∃ t', u = Value.str z t' from rx)
    exact JsLow.refl_K (T := "str") hr.units0 I.kIn J (typeIs_str s z t') rfl (hs _ (by simp)) (JsLow.dec_str hx) o.at_ o.fn fin
  · obtain ⟨t', rfl⟩ := (show ∃ t', u = Value.int i t' from rx)
    exact JsLow.refl_K (T := "int") hr.units0 I.kIn J (typeIs_int s i t') rfl (hs _ (by simp)) (JsLow.dec_int hx) o.at_ o.fn fin
  · cases (show u = Value.ref p from rx)
    obtain ⟨us, _, ht, _⟩ := I.tuple hp
    exact JsLow.refl_K (T := "tuple") hr.units0 I.kIn J ht.typeIs rfl (hs _ (by simp)) (JsLow.dec_tup I.kIn J ht.typeIs (hs _ (by simp))) o.at_ o.fn fin
  · cases (show u = Value.ref p from rx)
    obtain ⟨us, _, ht, _⟩ := I.list hp
    exact JsLow.refl_K (T := "list") hr.units0 I.kIn J ht.isList.typeIs rfl (hs _ (by simp)) (JsLow.dec_lst I.kIn J ht.isList.typeIs (hs _ (by simp))) o.at_ o.fn fin
theorem OpR.or {f : Value → Value → Sem Value} {r r' : R2} (h : OpR X f r) (h' : OpR X f r') : OpR X f (fun x y H Q => r x y H Q ∨ r' x y H Q) := fun pins s σ H x y v u Q I rx ry q => q.elim (h pins s σ H x y v u Q I rx ry) (h' pins s σ H x y v u Q I rx ry)
end
section
variable {P : Program} {w : World} {K : PySem.W.Frag} {mg : Str → Option Value} {base : Heap} {C CP : Addr}
theorem ok_peqN {f : Addr} {fd : FuncData} (F : Fun K "__eq__" "Program.__eq__" sPEq f fd) (T : Txt K mg C) (TP : TxtP K mg CP) (SE : Spc P w K mg base C "__eq__" 2 ["self", "other"] (spEqT C)) : FnOk P w K mg base CX0 21 f fd ["self", "other"] (spEqN K CP) := by
  refine F.ok scPE (fun vs H Q E h => ?_) (fun cdv A outer s H vs Q E hr h => ?_)
  · obtain ⟨a, y, rfl, _⟩ := h
    rfl
  · obtain ⟨a, y, rfl, ⟨t, hty, hnf, hkt⟩, k⟩ := h
    refine ⟨_, pss_one (ps_ret (pe_and (pe_callB (r := rIsi K) call_isi (by rfl) T.isi PyProof.Rows.boot_isinstance (pa_cons (pv 1) (pa_cons (pe_glob (v := .ref CP) rfl TP.mgP rfl) pa_nil))) (pe_one (pe_cmpR (op_eqTl (eqT_rows SE 9).2.1 hr) (pe_fld (pv 0) rfl) (pe_fld (pv 1) rfl) (nomark _))))), ?_⟩
    exact ⟨_, rfl, _, _, _, _, false, rfl, ClsV.own CP, hty, hkt, false, rfl, iteF k⟩
end
end Js

set_option Elab.async false
set_option linter.all false
set_option maxRecDepth 100000
set_option maxHeartbeats 2000000
namespace Js
open PySem L2
def cThing : List Nat := [84, 104, 105, 110, 103, 32]
theorem c_Thing : (("Thing " : Str)) = tx cThing := by decide +kernel
def spRepr (C : Addr) : Sp := fun vs H Q _ => ∃ a t, vs = [.ref a] ∧ Th C H a t ∧ t.size ≤ 4000 ∧ ∀ H', Same H H' → Q (.str (tx (cThing ++ t.codes))) H'
section
variable {P : Program} {w : World} {K : PySem.W.Frag} {mg : Str → Option Value} {base : Heap} {C fI : Addr} {fdI : FuncData}
theorem scRp : FnScope ["self"] ["self"] (defScope sRepr) := ⟨rfl, rfl, rfl, by decide +kernel, rfl, by decide +kernel, by decide +kernel⟩
theorem ok_repr {f : Addr} {fd : FuncData} (F : Fun K "__repr__" "Thing.__repr__" sRepr f fd) (B : Blt mg) (S : Spc P w K mg base C "__str__" 2 ["self"] (spStr C)) : FnOk P w K mg base CX0 5 f fd ["self"] (spRepr C) := by
  refine F.ok scRp (fun vs H Q E h => ?_) (fun cdv A outer s H vs Q E hr h => ?_)
  · obtain ⟨a, t, rfl, _⟩ := h
    rfl
  · obtain ⟨a, t, rfl, ha, hz, k⟩ := h
    refine ⟨_, pss_one (ps_ret (pe_joined (.cons pe_str (.cons (pe_fmt (pe_callTy (call_strT S hr) (by rfl) B.str PyProof.Rows.boot_str (pa_cons (pv 0) pa_nil))) .nil)))), ?_⟩
    have hsl := line4
    refine ⟨_, rfl, (by decide +kernel), _, rfl, a, t, rfl, ha, hz, fun H' s1 => .inl ⟨_, rfl, ?_, _, rfl, ?_, ?_⟩⟩
    · rw [Tr.text_len]
      omega
    · have e : Str.empty ++ ("Thing " : Str) = tx cThing := by decide +kernel
      rw [e, tx_text, tx_append, tx_len, List.length_append, Tr.codes_len]
      simp [cThing]
      omega
    · have e : Str.empty ++ ("Thing " : Str) = tx cThing := by decide +kernel
      have q := k H' s1
      show Q (.str (Str.empty ++ ("Thing " : Str) ++ t.text)) H'
      rw [e, tx_text, tx_append]
      exact q
end
section
open PyProof.Rows
variable {X : Cx} {C : Addr}
theorem call_reprT (S : Spc X.prog X.w X.K X.mg X.base C "__repr__" 5 ["self"] (spRepr C)) (hr : Room 6 X.A) : CallR X (.builtin "repr") (fun xs H Q => ∃ a t, xs = [.ref a] ∧ Th C H a t ∧ t.size ≤ 4000 ∧ ∀ H', Same H H' → Q (.str (tx (cThing ++ t.codes))) H') := by
  obtain ⟨f, fd, ow, F, hb⟩ := S
  refine CallR.imp (call_reprOwn ow F hb hr (pass0)) fun xs H Q h => ?_
  obtain ⟨a, t, rfl, ha, hz, q⟩ := h
  obtain ⟨dx, f1, g1, h1⟩ := ha.obj
  exact ⟨a, dx, _, rfl, h1, a, t, rfl, ha, hz, fun H' s => ⟨_, rfl, q H' s⟩⟩
/-- f(k = v, ..), no value by its place -/
theorem pe_callN0 {CX : CXT} {k : Nat} {f : Addr} {fd : FuncData} {ps ks : List Str} {sp : Sp} {E : XK} {x : Str} {p pos : Pos} {kws : List Keyword} {tk : TA} {g : List Value → List Value → List Value} {gV : List V → List V → List V}
    (F : FnOk X.prog X.w X.K X.mg X.base CX k f fd ps sp) (hr : Room k X.A) (hg : Gl X x) (hm : X.mg x = some (.ref f)) (hk : PySem.W.keepIn X.K (.ref f) = true) (hb : KBn X.K fd ps 0 ks g gV) (hx : Passes CX X E)
    (hkw : PK X kws tk) (hall : (backToKw pos (keywordEach kws X.env)).all (·.1.isSome) = true := by rfl) (hks : (backToKw pos (keywordEach kws X.env)).filterMap (·.1) = ks := by rfl)
    (hdb : (x == ("__debug__" : Str)) = false := by decide) (hpl : ((backTo pos (starEach [] X.env)).any (·.1) || (backToKw pos (keywordEach kws X.env)).any (·.1.isNone)) = false := by rfl) :
    PE X (.Call (.Name x p) [] kws pos) (tCallN 0 ks.length sp gV E tNil tk) := by
  refine ⟨fun pins s σ H Q I h => ?_⟩
  refine wpAny_Call_Name_kw (ld_glob I hg hm ?_ hdb)
  refine PySem.W.callWith_KW0 (h₀ := X.base) I.ok.mod.kin hk hall (thn (hkw.run pos pins s σ H _ I h) fun ws s2 hh => ?_) hpl
  obtain ⟨zs, H2, I2, rz, l1, l2, q2⟩ := hh
  refine ⟨I2.kIn, ?_⟩
  rw [hks]
  exact run_fnN (us := []) (vs := []) F hr hb hx I2 .nil rz l1 l2 q2
end
/-- a def that is called by one keyword -/
def DefK (P : Program) (w : World) (K : PySem.W.Frag) (mg : Str → Option Value) (base : Heap) (x : Str) (k : Nat) (ps ks : List Str) (sp : Sp) : Prop :=
  ∃ f fd, mg x = some (.ref f) ∧ PySem.W.keepIn K (.ref f) = true ∧ FnOk P w K mg base CX0 k f fd ps sp ∧ KBn K fd ps 0 ks (fun _ ws => ws) (fun _ zs => zs)
theorem pe_defK {X : Cx} {x : Str} {p pos : Pos} {k : Nat} {ps ks : List Str} {sp : Sp} {kws : List Keyword} {tk : TA} (D : DefK X.prog X.w X.K X.mg X.base x k ps ks sp) (hr : Room k X.A) (hg : Gl X x) (hkw : PK X kws tk)
    (hall : (backToKw pos (keywordEach kws X.env)).all (·.1.isSome) = true := by rfl) (hks : (backToKw pos (keywordEach kws X.env)).filterMap (·.1) = ks := by rfl)
    (hdb : (x == ("__debug__" : Str)) = false := by decide) (hpl : ((backTo pos (starEach [] X.env)).any (·.1) || (backToKw pos (keywordEach kws X.env)).any (·.1.isNone)) = false := by rfl) :
    PE X (.Call (.Name x p) [] kws pos) (tCallN 0 ks.length sp (fun _ zs => zs) E0 tNil tk) := by
  obtain ⟨f, fd, hm, hk, F, hb⟩ := D
  exact pe_callN0 F hr hg hm hk hb pass0 hkw hall hks hdb hpl
end Js

set_option Elab.async false
set_option linter.all false
set_option maxRecDepth 100000
set_option maxHeartbeats 2000000
/-! defs called by keywords in the order turned about; defs with defaults -/
namespace Js
open PySem PySem.Spec PyProof.Rows L2
theorem vals_rev {zs : List V} {ws : List Value} (h : Vals zs ws) : Vals zs.reverse ws.reverse := by
  induction h with
  | nil => exact .nil
  | cons h t ih =>
    rw [List.reverse_cons, List.reverse_cons]
    exact Vals.append ih (.cons h .nil)
def DefV (P : Program) (w : World) (K : PySem.W.Frag) (mg : Str → Option Value) (base : Heap) (x : Str) (k : Nat) (ps ks : List Str) (sp : Sp) : Prop :=
  ∃ f fd, mg x = some (.ref f) ∧ PySem.W.keepIn K (.ref f) = true ∧ FnOk P w K mg base CX0 k f fd ps sp ∧ KBn K fd ps 0 ks (fun _ ws => ws.reverse) (fun _ zs => zs.reverse)
theorem pe_defV {X : Cx} {x : Str} {p pos : Pos} {k : Nat} {ps ks : List Str} {sp : Sp} {kws : List Keyword} {tk : TA} (D : DefV X.prog X.w X.K X.mg X.base x k ps ks sp) (hr : Room k X.A) (hg : Gl X x) (hkw : PK X kws tk)
    (hall : (backToKw pos (keywordEach kws X.env)).all (·.1.isSome) = true := by rfl) (hks : (backToKw pos (keywordEach kws X.env)).filterMap (·.1) = ks := by rfl)
    (hdb : (x == ("__debug__" : Str)) = false := by decide) (hpl : ((backTo pos (starEach [] X.env)).any (·.1) || (backToKw pos (keywordEach kws X.env)).any (·.1.isNone)) = false := by rfl) :
    PE X (.Call (.Name x p) [] kws pos) (tCallN 0 ks.length sp (fun _ zs => zs.reverse) E0 tNil tk) := by
  obtain ⟨f, fd, hm, hk, F, hb⟩ := D
  exact pe_callN0 F hr hg hm hk hb pass0 hkw hall hks hdb hpl
section
variable {K : PySem.W.Frag} {x qual : Str} {params : Arguments} {body : List Stmt} {scope : Scope} {dvs : List V} {kws : List (Str × V)} {f : Addr} {fd : FuncData} {ps : List Str}
theorem kb_dfltV (F : FunD K x qual params body scope dvs kws f fd) (ks : List Str) (hd : dvs ≠ [])
    (h : ∀ (T : Addr) (kV doc pm : Value) (an : Option Addr) (cdv ct : Value) (its ws : List Value), its.length = dvs.length → ws.length = ks.length →
      ∃ k, bindArgs (PySem.W.fnOf x qual params body scope (.ref T) kV doc pm an cdv ct) ⟨[], ks.zip ws⟩ = seqItems? (.ref T) >>= k ∧ k (some its.toArray) = pure (ps.zip ws.reverse)) : KBn K fd ps 0 ks (fun _ ws => ws.reverse) (fun _ zs => zs.reverse) := by
  obtain ⟨oc, od, dV, kV, doc, pm, an, cdv, ct, osl, rfl, lk, hcd, hD, hK⟩ := F.ex
  rcases hD with ⟨e, _⟩ | ⟨_, T, o, its, m, rfl, lT, oT, rT⟩
  · exact absurd e hd
  · refine ⟨fun s us ws X l1 l2 => ?_, fun r1 r2 => vals_rev r2⟩
    cases List.length_eq_zero_iff.mp l1
    obtain ⟨k, e1, e2⟩ := h T kV doc pm an cdv ct its ws rT.length.symm l2
    refine BindsTo.of_looks fun M => ?_
    rw [e1]
    exact looks_items X lT oT (.of_pure e2)
end
/-- a def with its defaults: what it is called with, and what fills up -/
structure DefD (P : Program) (w : World) (K : PySem.W.Frag) (mg : Str → Option Value) (base : Heap) (x : Str) (k : Nat) (ps : List Str) (dvs : List V) (sp : Sp) : Prop where
  ex : ∃ f fd ds, mg x = some (.ref f) ∧ PySem.W.keepIn K (.ref f) = true ∧ FnOk P w K mg base CX0 k f fd ps sp ∧ Binds K fd ps ds ∧ Vals dvs ds
theorem pe_defD {X : Cx} {x : Str} {p pos : Pos} {k : Nat} {ps : List Str} {dvs : List V} {sp : Sp} {e : Expr} {es : List Expr} {t : TA} (D : DefD X.prog X.w X.K X.mg X.base x k ps dvs sp) (hr : Room k X.A) (hg : Gl X x) (ha : PA X (e :: es) t)
    (hdb : (x == ("__debug__" : Str)) = false := by decide) (he : starEach (e :: es) X.env = (false, eval e X.env) :: starEach es X.env := by rfl) (hpl : (backTo pos (starEach es X.env)).any (·.1) = false := by rfl) :
    PE X (.Call (.Name x p) (e :: es) [] pos) (tCall sp dvs E0 t) := by
  obtain ⟨f, fd, ds, hm, hk, F, hb, hd⟩ := D.ex
  exact pe_call F hr hg hm hk hb hd pass0 ha hdb he hpl
end Js

set_option Elab.async false
set_option linter.all false
set_option maxRecDepth 100000
set_option maxHeartbeats 2000000
namespace Js
open PySem L2
open PySem PySem.Spec PyProof.Rows L2
abbrev sGood16 : Stmt := top 57
abbrev sIsCode : Stmt := top 41
def spIsCode (C : Addr) : Sp := fun vs H Q _ => ∃ y r, vs = [.ref y] ∧ Th C H y (codeR r) ∧ okR r ∧ deepR r ≤ 8 ∧ manyR r ≤ 4000 ∧ (codeR r).size ≤ 4000 ∧ ∀ H', Same H H' → Q (.bl true) H'
theorem PgAt.okr {K : PySem.W.Frag} {C CP : Addr} {H : Hp} {a : Addr} {r : List Dd} (h : PgAt K C CP H a r) : okR r := by
  obtain ⟨_, _, _, _, _, ⟨vs, _, h2⟩, _, _⟩ := h.ex
  exact DsAt_ok r vs h2
theorem takesN16 {X : Cx} : L2N.Takes X (fun _ _ _ _ => False) := fun u s' x => by
  obtain ⟨_, _, _, _, _, _, _, _, _, _, _, _, _, _, _, _, h⟩ := x
  exact h.elim
theorem zc_of16 {cls : Value} {d : Option Addr} {oe : Obj} (h : L2N.Zn cls d oe) : Zc cls d oe := ⟨h.1, h.2.1⟩
theorem cnt16 (t : Tr) : PySem.Txt.count t.text "(" = ((t.size : Nat) : Int) := by
  rw [tx_text, show (("(" : Str)) = ⟨#[40]⟩ from by decide +kernel, count_tx, count_codes]
def spGood16 (K : PySem.W.Frag) (C : Addr) : Sp := fun vs H Q _ => ∃ q r, vs = [.ref q] ∧ RAt K C H q r ∧ deepR r ≤ 8 ∧ manyR r ≤ 4000 ∧ (codeR r).size ≤ 100000 ∧ ∀ H', Same H H' → Q (.bl true) H'
section
variable {P : Program} {w : World} {K : PySem.W.Frag} {mg : Str → Option Value} {base : Heap} {C CP N NP fC fP : Addr} {fdC fdP : FuncData}
theorem scIc : FnScope ["thing"] ["thing"] (defScope sIsCode) := ⟨rfl, rfl, rfl, by decide +kernel, rfl, by decide +kernel, by decide +kernel⟩
theorem ok_isCode {f : Addr} {fd : FuncData} (F : Fun K "is_code" "is_code" sIsCode f fd) (mNP : mg "NoProgram" = some (.ref NP)) (DPo : Def P w K mg base "program_of" 34 ["thing"] (spProgOf K C CP)) : FnOk P w K mg base CX0 35 f fd ["thing"] (spIsCode C) := by
  refine F.ok scIc (fun vs H Q E h => ?_) (fun cdv A outer s H vs Q E hr h => ?_)
  · obtain ⟨y, r, rfl, _⟩ := h
    rfl
  · obtain ⟨y, r, rfl, hy, hok, hdp, hmn, hz, k⟩ := h
    have hr34 : Room 34 _ := hr
    refine ⟨_, pss_cons (ps_try_only (tb := fun _ => tDrop (tCall (spProgOf K C CP) [] E0 (tCons (tVar 0) tNil))) (ts := fun _ _ _ _ _ _ => False) (Wout := fun _ _ _ _ => False) rfl rfl ⟨rfl, by decide, Or.inl mNP⟩ takes0 (fun W pn xe tk _ => (pss_one (ps_expr (by exact (pe_def DPo hr34 rfl (by exact (pa_cons (pv 0) pa_nil))))))) (fun a oe cls d pn hz hf => pss_never)) (pss_one (ps_ret pe_bl)), ?_⟩
    exact ⟨_, rfl, y, r, rfl, hy, hok, hdp, hmn, hz, fun z H1 s1 _ _ => k H1 s1⟩
theorem scGd16 : FnScope ["_law_deeds_here", "_law_made_of", "_law_text", "_law_code_here", "e", "_law_other", "_law_found"] ["_law_deeds_here"] (defScope sGood16) := ⟨rfl, rfl, rfl, by decide +kernel, rfl, by decide +kernel, by decide +kernel⟩
theorem ok_good16 {f : Addr} {fd : FuncData} (F : Fun K "_law_good" "_law_good" sGood16 f fd) (B : Blt mg) (T : Txt K mg C) (TP : TxtP K mg CP) (G : RfC K mg N) (MP : MakerP P w K mg base C CP fP fdP) (SS : Spc P w K mg base C "__str__" 2 ["self"] (spStr C)) (SL : Spc P w K mg base C "__len__" 1 ["self"] (spLen C)) (SE : Spc P w K mg base C "__eq__" 2 ["self", "other"] (spEqT C)) (SPE : Spc P w K mg base CP "__eq__" 21 ["self", "other"] (spPEq K C CP))
    (GC : FnOk P w K mg base (L2N.CX P w) 33 fC fdC ["program"] (spCodeN K C CP N)) (mgC : mg "code_of" = some (.ref fC)) (kC : PySem.W.keepIn K (.ref fC) = true) (bC : Binds K fdC ["program"] [])
    (KCo : DefV P w K mg base "code_of" 33 ["program"] ["program"] (spCodeOf K C CP)) (KPo : DefV P w K mg base "program_of" 34 ["thing"] ["thing"] (spProgOf K C CP)) (KIc : DefV P w K mg base "is_code" 35 ["thing"] ["thing"] (spIsCode C)) (DLc : Def P w K mg base "_law_code" 14 ["_law_deeds_here"] (spLc16 K C 9)) : FnOk P w K mg base CX0 36 f fd ["_law_deeds_here"] (spGood16 K C) := by
  obtain ⟨n1, n2, n3, n4, n5, n6, m1, m2, m3, m4, m5, m6, kA⟩ := G.oth
  refine F.ok scGd16 (fun vs H Q E h => ?_) (fun cdv A outer s H vs Q E hr h => ?_)
  · obtain ⟨q, r, rfl, _⟩ := h
    rfl
  · obtain ⟨q, r, rfl, hq, hdp, hmy, hz, k⟩ := h
    have hr2 : Room 2 _ := hr.mono (by decide)
    have hr4 : Room 4 _ := hr.mono (by decide)
    have hr14 : Room 14 _ := hr.mono (by decide)
    have hr15 : Room 15 _ := hr.mono (by decide)
    have hr20 : Room 20 _ := hr.mono (by decide)
    have hr22 : Room 22 _ := hr.mono (by decide)
    have hr33 : Room 33 _ := hr.mono (by decide)
    have hr34 : Room 34 _ := hr.mono (by decide)
    have hr35 : Room 35 _ := hr
    refine ⟨_, PSs.nox (pss_cons (ps_par (i := 1) (j := 2) (by rfl) scGd16.nd rfl rfl (by decide) rfl rfl (pa_cons (pe_P MP hr15 rfl (pa_cons (pv 0) pa_nil)) (pa_cons (pe_def DLc hr14 rfl (pa_cons (pv 0) pa_nil)) pa_nil)) (by rfl)) (pss_cons (L2N.ps_try_as (i := 4) (tb := fun W => tAsg (tCallS (spCodeN K C CP N) (WE W) (tCons (tVar 1) tNil)) (gName 3)) (Wout := fun _ _ _ _ => False) rfl rfl scGd16.nd rfl rfl ⟨rfl, by decide, Or.inl G.tg.mgN⟩ takesN16 (fun W pn xe tk _ => (pss_one (ps_set (i := 3) scGd16.nd rfl (Or.inl rfl) (by exact (pe_callS GC hr33 rfl mgC kC bC (fun σ => L2N.passAt tk σ) (by exact (pa_cons (pv 1) pa_nil))))))) (fun a oe cls d pn hz hf => (pss_cons (ps_set (i := 5) scGd16.nd rfl (Or.inl rfl) (pe_callB (call_isXt G.xc (zc_of16 hz) hf) (by rfl) T.isi PyProof.Rows.boot_isinstance (pa_cons (pv 4) (pa_cons (pe_tup (pa_cons (pe_glob (v := .ref n1) rfl m1 rfl) (pa_cons (pe_glob (v := .ref n2) rfl m2 rfl) (pa_cons (pe_glob (v := .ref n3) rfl m3 rfl) (pa_cons (pe_glob (v := .ref n4) rfl m4 rfl) (pa_cons (pe_glob (v := .ref n5) rfl m5 rfl) (pa_cons (pe_glob (v := .ref n6) rfl m6 rfl) pa_nil))))))) pa_nil)))) (pss_one (ps_ret (pe_and (pe_cmpR op_gt (pe_m1 PySem.F.slot_str_count PySem.F.type_str_count mt_count (pv 2) pe_str) pe_int (nomark _)) (pe_and (pe_cmpR op_eq (pe_xf G.xf G.tg.bd (zc_of16 hz) hf (pv 4)) pe_int (nomark _)) (pe_and (pe_callB (call_isX G.xc (zc_of16 hz) hf) (by rfl) T.isi PyProof.Rows.boot_isinstance (pa_cons (pv 4) (pa_cons (pe_bltn (v := .ty "OverflowError") rfl G.tg.mOE PyProof.Rows.Boot.«OverflowError» rfl) pa_nil))) (pe_one (pe_not (pv 5))))))))))) (pss_cons (ps_if (PW.pt (pw_or (pt_not (pt_val (pe_callB (r := rIsi K) call_isi (by rfl) T.isi PyProof.Rows.boot_isinstance (pa_cons (pv 3) (pa_cons (pe_glob (v := .ref C) rfl T.mgC rfl) pa_nil))))) (pw_or (pt_cmpR op_ne (pe_callTy (call_strT SS hr4) (by rfl) B.str PyProof.Rows.boot_str (pa_cons (pv 3) pa_nil)) (pv 2) (nomark _)) (pw_or (pt_cmpR op_gt (pe_m1 PySem.F.slot_str_count PySem.F.type_str_count mt_count (pv 2) pe_str) pe_int (nomark _)) (pw_or1 (pt_cmpR op_ne (pe_callB (call_lenT SL hr2) (by rfl) B.len PySem.boot_len (pa_cons (pv 3) pa_nil)) (pe_m1 PySem.F.slot_str_count PySem.F.type_str_count mt_count (pv 2) pe_str) (nomark _))))))) (pss_one (ps_ret pe_bl)) pss_nil) (pss_cons (ps_set (i := 6) scGd16.nd rfl (Or.inl rfl) (pe_defV KPo hr34 rfl (pk_cons (pv 3) pk_nil))) (pss_cons (ps_if (PW.pt (pw_or (pt_not (pt_val (pe_callB (r := rIsi K) call_isi (by rfl) T.isi PyProof.Rows.boot_isinstance (pa_cons (pv 6) (pa_cons (pe_glob (v := .ref CP) rfl TP.mgP rfl) pa_nil))))) (pw_or (pt_cmpR (op_neTl (eqT_rows SE 9).2.2 hr20) (pe_fld (pv 6) rfl) (pv 0) (nomark _)) (pw_or (pt_cmpR (op_neP SPE TP hr22) (pv 6) (pv 1) (nomark _)) (pw_or1 (pt_cmpR op_notBl (pe_defV KIc hr35 rfl (pk_cons (pv 3) pk_nil)) pe_bl (nomark _))))))) (pss_one (ps_ret pe_bl)) pss_nil) (pss_one (ps_ret (pe_and (pe_cmpR (op_eqT SE hr2) (pe_defV KCo hr33 rfl (pk_cons (pv 6) pk_nil)) (pv 3) (nomark _)) (pe_and (pe_cmpR op_eq (pe_callTy (call_strT SS hr4) (by rfl) B.str PyProof.Rows.boot_str (pa_cons (pv 3) pa_nil)) (pv 2) (nomark _)) (pe_one (pe_cmpR (op_eqTl (eqT_rows SE 9).2.1 hr20) (pe_fld (pv 1) rfl) (pv 0) (nomark _)))))))))))), ?_⟩
    have hsl := line4
    refine ⟨_, rfl, q, r, rfl, hq, hdp, hmy, fun p H1 s1 np hp => ?_⟩
    refine ⟨_, rfl, q, r, rfl, hq.same s1, by omega, hmy, hz, fun H2 s2 => ?_⟩
    have hp2 := hp.same s2
    have s02 := s1.trans s2
    refine ⟨_, _, rfl, ?_⟩
    refine ⟨_, rfl, p, r, rfl, hp2, fun hle c H3 s3 hc => ?_, fun hgt d H3 s3 hd => ?_⟩
    · have s03 := s02.trans s3
      obtain ⟨dc, f1, f2, hob⟩ := hc.obj
      refine ⟨_, rfl, _, _, _, _, true, rfl, ClsV.own C, .base (.ins hob T.cl T.ca T.cn T.ct T.cm), kit_self _ _, _, rfl, iteF ?_⟩
      refine ⟨_, rfl, c, codeR r, rfl, hc, hle, fun H4 s4 => ?_⟩
      have hok := hp.okr
      have hc4 := hc.same s4
      have ec : decide (((4000 : Nat) : Int) < PySem.Txt.count (codeR r).text "(") = false := by rw [cnt16]; exact decide_eq_false (by omega)
      refine ⟨_, rfl, rfl, false, congrArg V.bl (by rw [decide_eq_true rfl]; rfl), iteF ?_⟩
      refine ⟨_, rfl, ⟨_, rfl⟩, _, _, rfl, rfl, _, _, rfl, rfl, false, congrArg V.bl ec, iteF ?_⟩
      refine ⟨_, rfl, c, codeR r, rfl, hc4, hle, _, rfl, ⟨_, rfl⟩, _, _, rfl, rfl, rfl, false, congrArg V.bl (by rw [cnt16, decide_eq_true rfl]; rfl), iteF ?_⟩
      refine ⟨_, rfl, rfl, rfl, c, r, rfl, hc4, hok, hdp, hmy, hle, fun z H5 s5 nz hz5 => ?_⟩
      have hc5 := hc4.same s5
      have s05 := (s03.trans s4).trans s5
      obtain ⟨dz, qz, plz, yz, hpa, hqz, _, _⟩ := id hz5.ex
      refine ⟨_, rfl, _, _, _, _, true, rfl, ClsV.own CP, .base (.ins hpa TP.cl TP.ca TP.cn TP.ct TP.cm), kit_self _ _, _, rfl, iteF ?_⟩
      refine ⟨_, rfl, _, _, _, _, _, rfl, hpa, TP.cl, TP.nD, pf_deeds _ _, _, rfl, decide (r = r), ⟨qz, q, r, r, rfl, rfl, hqz, hq.same s05, by omega, by omega, rfl⟩, fun H6 s6 => ⟨false, congrArg V.bl (by rw [decide_eq_true rfl]; rfl), iteF ?_⟩⟩
      have s36 := ((s3.trans s4).trans s5).trans s6
      refine ⟨_, rfl, _, rfl, decide (r = r), ⟨z, p, r, r, rfl, rfl, hz5.same s6, hp2.same s36, rfl⟩, fun H7 s7 => ⟨false, congrArg V.bl (by rw [decide_eq_true rfl]; rfl), iteF ?_⟩⟩
      have s57 := s6.trans s7
      refine ⟨_, rfl, rfl, rfl, c, r, rfl, hc5.same s57, hok, hdp, hmy, hle, fun H8 s8 => ⟨true, true, rfl, rfl, false, rfl, iteF ?_⟩⟩
      have s58 := s57.trans s8
      refine ⟨_, rfl, rfl, rfl, z, r, rfl, hz5.same s58, hle, fun c2 H9 s9 hc2 => ?_⟩
      have s59 := s58.trans s9
      refine ⟨_, rfl, c2, c, _, _, rfl, rfl, hc2, hc5.same s59, by omega, fun HA sA => ⟨true, congrArg V.bl (decide_eq_true rfl), iteT ?_⟩⟩
      have s5A := s59.trans sA
      refine ⟨_, rfl, c, codeR r, rfl, hc5.same s5A, hle, fun HB sB => ⟨_, rfl, rfl, true, congrArg V.bl (decide_eq_true rfl), iteT ?_⟩⟩
      have s5B := s5A.trans sB
      have s0B := s05.trans s5B
      obtain ⟨dp, qp, plp, yp, hpp, hqp, _, _⟩ := id hp.ex
      have s1B := (s2.trans (((s3.trans s4).trans s5).trans s5B))
      refine ⟨_, rfl, _, _, _, _, _, rfl, s1B _ _ hpp, TP.cl, TP.nD, pf_deeds _ _, _, rfl, decide (r = r), ⟨qp, q, r, r, rfl, rfl, hqp.same s1B, hq.same s0B, by omega, by omega, rfl⟩, fun HC sC => ?_⟩
      rw [decide_eq_true rfl]
      exact k HC (s0B.trans sC)
    · refine ⟨true, G.ex, fun _ a0 _ => ?_, fun q => Bool.noConfusion q⟩
      refine ⟨_, rfl, by show 6 ≤ sizeLine; decide, fun tp ntp => ?_⟩
      have st : Same H3 (upd H3 tp (.tup [.ref n1, .ref n2, .ref n3, .ref n4, .ref n5, .ref n6])) := Same.new ntp
      have hd' := st _ _ hd
      refine ⟨tp, _, _, false, d, _, rfl, upd_same, .cons (.own _) (.cons (.own _) (.cons (.own _) (.cons (.own _) (.cons (.own _) (.cons (.own _) .nil))))), rfl, rfl, hd', kA, ?_⟩
      revert st hd'
      generalize upd H3 tp (.tup [.ref n1, .ref n2, .ref n3, .ref n4, .ref n5, .ref n6]) = H4
      intro st hd'
      have ec : decide (((4000 : Nat) : Int) < PySem.Txt.count (codeR r).text "(") = true := by rw [cnt16]; exact decide_eq_true (by omega)
      refine ⟨_, rfl, ⟨_, rfl⟩, _, _, rfl, rfl, _, _, rfl, rfl, true, congrArg V.bl ec, iteT ?_⟩
      refine ⟨_, rfl, rfl, rfl, d, _, .int ((4000 : Nat) : Int), rfl, hd', rfl, rfl, true, congrArg V.bl (decide_eq_true rfl), iteT ?_⟩
      refine ⟨_, rfl, _, _, true, d, _, rfl, .ty "OverflowError", rfl, rfl, hd', G.oe, true, rfl, iteT ?_⟩
      exact ⟨_, rfl, _, rfl, k H4 ((s02.trans s3).trans st)⟩
end
end Js

set_option Elab.async false
set_option linter.all false
set_option maxRecDepth 100000
set_option maxHeartbeats 4000000
/-! tuple * int, any int from 0 to 1000, any tuple -/
namespace Js
open PySem L2
open PySem PySem.Spec PyProof.Rows L2
theorem tuple_mulSame (l : Addr) (items : Array Value) (n : Nat) (dd : Option Addr) (sl : Array (Option Value)) (x : Int) (u : Tok) (c0 : (decide (x < -(2 ^ 63)) || decide (x ≥ 2 ^ 63)) = false) (c1 : (items.isEmpty || x == 1) = true) :
    Meets (Builtin.«tuple.__mul__» ⟨[.ref l, .int x u], []⟩) (fun _ R s => s.heap.get? l = some { cls := .type "tuple", dict := dd, data := .seq items n, slots := sl } ∧ R (.ok (.ret (Value.ref l))) s) :=
  .of_wp fun prog w A R s h => by
    obtain ⟨hp, g, d, tk, os⟩ := s
    obtain ⟨hl, h⟩ := h
    have f1 := AutoSeq1.idx_int
    wp_walk using wpAny_loadPart' hl
    repeat (first
      | (refine wpAny_ite_false (decide_eq_false (by rw [c0]; exact Bool.false_ne_true)) ?_; wp_walk using wpAny_loadPart' hl)
      | (refine wpAny_ite_true (decide_eq_true c1) ?_; wp_walk using wpAny_loadPart' hl))
    exact ⟨_, rfl, h⟩
theorem tuple_mulNone (l : Addr) (items : Array Value) (n : Nat) (dd : Option Addr) (sl : Array (Option Value)) (x : Int) (u : Tok) (c0 : (decide (x < -(2 ^ 63)) || decide (x ≥ 2 ^ 63)) = false) (c1 : (items.isEmpty || x == 1) = false) (c2 : (decide (x ≤ 0) || items.isEmpty) = true) :
    Meets (Builtin.«tuple.__mul__» ⟨[.ref l, .int x u], []⟩) (fun _ R s => s.heap.get? l = some { cls := .type "tuple", dict := dd, data := .seq items n, slots := sl } ∧
      R (.ok (.ret (Value.ref s.heap.objs.size))) { s with heap := s.heap.push { cls := Value.type "tuple", data := Data.seq #[] }, toks := s.toks }) :=
  .of_wp fun prog w A R s h => by
    obtain ⟨hp, g, d, tk, os⟩ := s
    obtain ⟨hl, h⟩ := h
    have f1 := AutoSeq1.idx_int
    wp_walk using wpAny_loadPart' hl
    repeat (first
      | (refine wpAny_ite_false (decide_eq_false (by rw [c0]; exact Bool.false_ne_true)) ?_; wp_walk using wpAny_loadPart' hl)
      | (refine wpAny_ite_false (decide_eq_false (by rw [c1]; exact Bool.false_ne_true)) ?_; wp_walk using wpAny_loadPart' hl)
      | (refine wpAny_ite_true (decide_eq_true c2) ?_; wp_walk using wpAny_loadPart' hl))
    exact ⟨_, rfl, h⟩
def rMulT (K : PySem.W.Frag) : R2 := fun x y H Q => ∃ (l : Addr) (k : Nat) (xs : List V), x = .ref l ∧ y = .int (k : Nat) ∧ SqT K H l xs ∧ k ≤ 1000 ∧ xs.length ≤ 1000 ∧ ∀ p H', Same H H' → SqT K H' p (List.replicate k xs).flatten → Q (.ref p) H'
theorem flat_nil (k : Nat) : (List.replicate k ([] : List V)).flatten = [] := by
  induction k with
  | zero => rfl
  | succ k ih => rw [List.replicate_succ, List.flatten_cons, ih]; rfl
section
variable {X : Cx}
theorem op_mulT : OpR X (binaryOp .Mult) (rMulT X.K) := by
  intro pins s σ H x y v u Q I rx ry h
  obtain ⟨l, k, xs, rfl, rfl, hT, h2, hz, q⟩ := h
  have hsame : (xs = [] ∨ k = 1) → (List.replicate k xs).flatten = xs := fun e => by
    rcases e with rfl | rfl
    · exact flat_nil k
    · show (xs ++ ([] : List V)) = xs
      exact List.append_nil xs
  by_cases he : xs = [] ∨ k ≤ 1
  · cases rx
    obtain ⟨t, rfl⟩ := ry
    obtain ⟨its, r, ⟨⟨cls, dd, data, sl⟩, ho, hc, n, hd⟩, hs⟩ := I.tuple hT
    simp only at hc hd
    subst hc hd
    have hle : its.length = xs.length := r.length.symm
    have c0 : (decide (((k : Nat) : Int) < -(2 ^ 63)) || decide (((k : Nat) : Int) ≥ 2 ^ 63)) = false := by
      rw [decide_eq_false (by omega), decide_eq_false (by omega)] <;> rfl
    by_cases he2 : xs = [] ∨ k = 1
    · have c1 : (its.toArray.isEmpty || ((k : Nat) : Int) == 1) = true := by
        rcases he2 with rfl | rfl
        · have : its = [] := List.eq_nil_of_length_eq_zero hle
          rw [this]
          rfl
        · rw [show (((1 : Nat) : Int) == 1) = true from rfl, Bool.or_true]
      refine wpAny_binaryOp_repeat_ref (T := "tuple") (U := "int") (by decide) ⟨_, ho, rfl⟩ (fun s' => typeIs_int s' _ t) noFill_tuple_mul F.fills_int_mul F.slot_int_rmul repeat_tuple F.slot_int_index.lookup
        (call_meets F.slot_int_rmul (typeIs_int s _ t) F.entry_int_rmul (F.args_int_rmul_2 _ _) (int_rmul_tuple _ t l its.toArray n dd sl)
          ⟨ho, rfl, ⟨_, ho, rfl⟩, call_meets F.slot_tuple_mul ⟨_, ho, rfl⟩ F.entry_tuple_mul (F.args_tuple_mul_2 _ _) (tuple_mulSame l its.toArray n dd sl _ t c0 c1) ⟨ho, ?_⟩⟩)
      exact ⟨.ref l, H, I, rfl, q l H (Same.refl H) (by rw [hsame he2]; exact hT)⟩
    · have hx : xs ≠ [] := fun e => he2 (.inl e)
      have hk : k = 0 := by
        rcases he with e | e
        · exact absurd e hx
        · have : k ≠ 1 := fun e => he2 (.inr e)
          omega
      subst hk
      have hi : its.toArray.isEmpty = false := by
        cases its with
        | nil => exact absurd (List.eq_nil_of_length_eq_zero hle.symm) hx
        | cons a b => rfl
      have c1 : (its.toArray.isEmpty || ((0 : Nat) : Int) == 1) = false := by
        rw [hi]
        rfl
      refine wpAny_binaryOp_repeat_ref (T := "tuple") (U := "int") (by decide) ⟨_, ho, rfl⟩ (fun s' => typeIs_int s' _ t) noFill_tuple_mul F.fills_int_mul F.slot_int_rmul repeat_tuple F.slot_int_index.lookup
        (call_meets F.slot_int_rmul (typeIs_int s _ t) F.entry_int_rmul (F.args_int_rmul_2 _ _) (int_rmul_tuple _ t l its.toArray n dd sl)
          ⟨ho, rfl, ⟨_, ho, rfl⟩, call_meets F.slot_tuple_mul ⟨_, ho, rfl⟩ F.entry_tuple_mul (F.args_tuple_mul_2 _ _) (tuple_mulNone l its.toArray n dd sl _ t c0 c1 rfl) ⟨ho, ?_⟩⟩)
      have np : H s.heap.objs.size = none := I.hok.fresh (Nat.le_refl _)
      refine ⟨.ref s.heap.objs.size, _, I.laid (t' := s.toks) (o := .tup []) (fun b ob q => Heap.get?_push_of_some _ q) (Nat.le_refl _) ?_, rfl, q _ _ (Same.new np) (SqT.of upd_same)⟩
      exact ⟨Nat.zero_le _, _, .nil, IsTup.new _ _⟩
  · have hx : xs ≠ [] := fun e => he (.inl e)
    have hk : 2 ≤ k := by
      have : ¬ k ≤ 1 := fun e => he (.inr e)
      omega
    refine op_repT pins s σ H _ _ v u Q I rx ry ⟨l, _, xs, rfl, rfl, hT, hx, by omega, by omega, hz, fun p np => ?_⟩
    exact q p _ (Same.new np) (SqT.of upd_same)
/-! rows -/
theorem DsAt_app16 {K : PySem.W.Frag} {C : Addr} {H : Hp} : ∀ {xs : List V} {r : List Dd}, DsAt K C H xs r → ∀ {ys : List V} {u : List Dd}, DsAt K C H ys u → DsAt K C H (xs ++ ys) (r ++ u)
  | xs, [], h, ys, u, g => by cases h; exact g
  | xs, d :: r, h, ys, u, g => by
    obtain ⟨v, us, rfl, h1, h2⟩ := h
    exact ⟨v, us ++ ys, rfl, h1, DsAt_app16 h2 g⟩
theorem DsAt_mul {K : PySem.W.Frag} {C : Addr} {H : Hp} {xs : List V} {r : List Dd} (h : DsAt K C H xs r) : ∀ k : Nat, DsAt K C H (List.replicate k xs).flatten (List.replicate k r).flatten
  | 0 => rfl
  | k + 1 => by
    rw [List.replicate_succ, List.flatten_cons, List.replicate_succ, List.flatten_cons]
    exact DsAt_app16 h (DsAt_mul h k)
theorem op_mulR {C : Addr} : OpR X (binaryOp .Mult) (fun x y H Q => ∃ (q : Addr) (r : List Dd) (k : Nat), x = .ref q ∧ y = .int (k : Nat) ∧ RAt X.K C H q r ∧ k ≤ 1000 ∧ r.length ≤ 1000 ∧ ∀ q' H', Same H H' → RAt X.K C H' q' (List.replicate k r).flatten → Q (.ref q') H') :=
  OpR.imp op_mulT fun x y H Q h => by
    obtain ⟨q, r, k, rfl, rfl, ⟨vs, h1, h2⟩, h3, h4, kk⟩ := h
    have lv := DsAt.length r vs h2
    refine ⟨q, k, vs, rfl, rfl, h1, h3, by omega, fun p H' s hp => kk p H' s ⟨_, hp, DsAt_mul (DsAt_kt (KT.of s) r vs h2) k⟩⟩
end
end Js

set_option Elab.async false
set_option linter.all false
set_option maxRecDepth 100000
set_option maxHeartbeats 2000000
namespace Js
open PySem L2
abbrev sName : Stmt := top 50
abbrev sDeed : Stmt := top 51
abbrev sDeeds : Stmt := top 52
abbrev sTop : Stmt := top 53
/-! told things are small -/
mutual
def Dd.sm : Dd → Prop
  | .told _ t => t.size ≤ 3
  | .take _ _ _ => True
  | .two _ _ _ _ => True
  | .wh _ r => smR r
  | .iff _ r o => smR r ∧ smR o
def smR : List Dd → Prop
  | [] => True
  | d :: r => d.sm ∧ smR r
end
theorem smR_app : ∀ (a b : List Dd), smR a → smR b → smR (a ++ b)
  | [], _, _, h => h
  | _ :: a, b, h, h2 => ⟨h.1, smR_app a b h.2 h2⟩
theorem smR_tk : ∀ (n : Nat) (a : List Dd), smR a → smR (a.take n)
  | 0, a, _ => by rw [List.take_zero]; trivial
  | n + 1, [], _ => trivial
  | n + 1, d :: a, h => ⟨h.1, smR_tk n a h.2⟩
/-- all but what stands at p and f stays -/
def KC (p f : Addr) (H H' : Hp) : Prop := ∀ a o, a ≠ p → a ≠ f → H a = some o → H' a = some o
theorem KC.refl (p f : Addr) (H : Hp) : KC p f H H := fun _ _ _ _ h => h
theorem KC.of {p f : Addr} {H H' : Hp} (s : Same H H') : KC p f H H' := fun _ _ _ _ h => s _ _ h
theorem KC.kb {p f : Addr} {H H' : Hp} (k : KB p H H') : KC p f H H' := fun _ _ n _ h => k _ _ n h
theorem KC.trans {p f : Addr} {H H1 H2 : Hp} (a : KC p f H H1) (b : KC p f H1 H2) : KC p f H H2 := fun x o n m h => b x o n m (a x o n m h)
theorem KC.set {p f : Addr} {H : Hp} {o : HO} : KC p f H (upd H f o) := fun x u _ m h => by rw [upd_ne m]; exact h
theorem KC.kt {p f : Addr} {H H' : Hp} (k : KC p f H H') {xs ys : List V} (hp : H p = some (.lst xs)) (hf : H f = some (.lst ys)) : KT H H' := fun a o h n => k a o (fun z => by subst z; exact n _ (Option.some.inj (h.symm.trans hp))) (fun z => by subst z; exact n _ (Option.some.inj (h.symm.trans hf))) h
/-- how many deeds are left -/
def Lf (H : Hp) (f : Addr) (l : Nat) : Prop := H f = some (.lst [.int (l : Nat)])
def spName : Sp := fun vs H Q _ => ∃ p, vs = [.ref p] ∧ BagOk H p ∧ ∀ (a : Nat) H', KB p H H' → BagOk H' p → a < 10 → Q (.int (a : Nat)) H'
def spDeed (K : PySem.W.Frag) (C : Addr) (m : Nat) : Sp := fun vs H Q _ => ∃ (p f : Addr) (dp l : Nat), vs = [.ref p, .ref f, .int (dp : Nat)] ∧ BagOk H p ∧ Lf H f l ∧ p ≠ f ∧ dp + m = 5 ∧ l ≤ 1000 ∧
  ∀ v d l' H', KC p f H H' → BagOk H' p → Lf H' f l' → l' ≤ l → DAt K C H' v d → d.deep ≤ m → d.many ≤ 2 * (l - l') + 2 → d.sm → Q v H'
def spDeeds (K : PySem.W.Frag) (C : Addr) (m : Nat) : Sp := fun vs H Q _ => ∃ (p f : Addr) (dp l : Nat), vs = [.ref p, .ref f, .int (dp : Nat)] ∧ BagOk H p ∧ Lf H f l ∧ p ≠ f ∧ dp + m = 6 ∧ 1 ≤ m ∧ l ≤ 1000 ∧
  ∀ q r l' H', KC p f H H' → BagOk H' p → Lf H' f l' → l' ≤ l → RAt K C H' q r → deepR r + 1 ≤ m → manyR r ≤ 2 * (l - l') → smR r → Q (.ref q) H'
theorem name_at (d : Int) (h0 : 0 ≤ d) (h1 : d < 8) : ∃ a : Nat, atI [V.int 0, V.int 0, V.int 0, V.int 1, V.int 1, V.int 2, V.int 2, V.int 3] d = some (.int (a : Nat)) ∧ a < 10 := by
  obtain ⟨n, rfl⟩ := Int.eq_ofNat_of_zero_le h0
  match n, h1 with
  | 0, _ => exact ⟨0, rfl, by decide⟩
  | 1, _ => exact ⟨0, rfl, by decide⟩
  | 2, _ => exact ⟨0, rfl, by decide⟩
  | 3, _ => exact ⟨1, rfl, by decide⟩
  | 4, _ => exact ⟨1, rfl, by decide⟩
  | 5, _ => exact ⟨2, rfl, by decide⟩
  | 6, _ => exact ⟨2, rfl, by decide⟩
  | 7, _ => exact ⟨3, rfl, by decide⟩
  | n + 8, h => exact absurd h (by omega)
/-- one of the four short kinds -/
theorem kind_at (d : Int) (h0 : 0 ≤ d) (h1 : d < 6) : ∃ k : Str, atI [V.str "first", V.str "second", V.str "second", V.str "pair", V.str "pair", V.str "same"] d = some (.str k) ∧ ((∃ s, k = takeS s) ∨ ∃ s, k = twoS s) := by
  obtain ⟨n, rfl⟩ := Int.eq_ofNat_of_zero_le h0
  match n, h1 with
  | 0, _ => exact ⟨_, rfl, .inl ⟨false, rfl⟩⟩
  | 1, _ => exact ⟨_, rfl, .inl ⟨true, rfl⟩⟩
  | 2, _ => exact ⟨_, rfl, .inl ⟨true, rfl⟩⟩
  | 3, _ => exact ⟨_, rfl, .inr ⟨false, rfl⟩⟩
  | 4, _ => exact ⟨_, rfl, .inr ⟨false, rfl⟩⟩
  | 5, _ => exact ⟨_, rfl, .inr ⟨true, rfl⟩⟩
  | n + 6, h => exact absurd h (by omega)
theorem in_take (s : Bool) : inV (.str (takeS s)) [V.str "pair", V.str "same"] = false := by cases s <;> decide +kernel
theorem in_two (s : Bool) : inV (.str (twoS s)) [V.str "pair", V.str "same"] = true := by cases s <;> decide +kernel
theorem DsAt_snoc {K : PySem.W.Frag} {C : Addr} {H : Hp} {v : V} {d : Dd} (hd : DAt K C H v d) : ∀ (r : List Dd) (vs : List V), DsAt K C H vs r → DsAt K C H (vs ++ [v]) (r ++ [d])
  | [], vs, h => by
    have e : vs = [] := h
    subst e
    exact ⟨v, [], rfl, hd, rfl⟩
  | e :: r, vs, h => by
    obtain ⟨u, us, rfl, h1, h2⟩ := h
    exact ⟨u, us ++ [v], rfl, h1, DsAt_snoc hd r us h2⟩
theorem DsAt_app {K : PySem.W.Frag} {C : Addr} {H : Hp} : ∀ (r u : List Dd) (vs us : List V), DsAt K C H vs r → DsAt K C H us u → DsAt K C H (vs ++ us) (r ++ u)
  | [], u, vs, us, h, g => by
    have e : vs = [] := h
    subst e
    exact g
  | e :: r, u, vs, us, h, g => by
    obtain ⟨v, ws, rfl, h1, h2⟩ := h
    exact ⟨v, ws ++ us, rfl, h1, DsAt_app r u ws us h2 g⟩
theorem deepR_app : ∀ (a b : List Dd), deepR (a ++ b) = max (deepR a) (deepR b)
  | [], b => by rw [List.nil_append, deepR, Nat.max_eq_right (Nat.zero_le _)]
  | d :: a, b => by rw [List.cons_append, deepR, deepR_app a b, deepR, Nat.max_assoc]
theorem len_many : ∀ r : List Dd, r.length ≤ manyR r
  | [] => Nat.zero_le _
  | d :: r => by
    have := len_many r
    have := many_pos d
    rw [List.length_cons, many_cons]
    omega
theorem deepR_one (d : Dd) : deepR [d] = d.deep := by rw [deepR, deepR, Nat.max_eq_left (Nat.zero_le _)]
section
variable {P : Program} {w : World} {K : PySem.W.Frag} {mg : Str → Option Value} {base : Heap} {C : Addr}
theorem scNa : FnScope ["_law_bag_here"] ["_law_bag_here"] (defScope sName) := ⟨rfl, rfl, rfl, by decide +kernel, rfl, by decide +kernel, by decide +kernel⟩
theorem ok_name {f : Addr} {fd : FuncData} (F : Fun K "_law_name" "_law_name" sName f fd) (DTk : Def P w K mg base "_law_take" 1 ["_law_bag_here", "_law_many"] spTake) : FnOk P w K mg base CX0 2 f fd ["_law_bag_here"] spName := by
  refine F.ok scNa (fun vs H Q E h => ?_) (fun cdv A outer s H vs Q E hr h => ?_)
  · obtain ⟨p, rfl, _⟩ := h
    rfl
  · obtain ⟨p, rfl, hb, k⟩ := h
    have hr1 : Room 1 _ := hr
    refine ⟨_, pss_cons (ps_if (pt_cmpR op_eq (pe_def DTk hr1 rfl (pa_cons (pv 0) (pa_cons pe_int pa_nil))) pe_int (nomark _)) (pss_one (ps_ret (pe_def DTk hr1 rfl (pa_cons (pv 0) (pa_cons pe_int pa_nil))))) pss_nil) (pss_one (ps_ret (pe_ix (r := rIxL K) ix_list (pe_lst (pa_cons pe_int (pa_cons pe_int (pa_cons pe_int (pa_cons pe_int (pa_cons pe_int (pa_cons pe_int (pa_cons pe_int (pa_cons pe_int pa_nil))))))))) (pe_def DTk hr1 rfl (pa_cons (pv 0) (pa_cons pe_int pa_nil))) (fun _ _ => rfl)))), ?_⟩
    refine ⟨_, rfl, p, 12, rfl, hb, by decide, by decide, fun d H1 k1 b1 h0 h1 => ?_⟩
    refine ⟨rfl, _, rfl, ?_⟩
    by_cases hd : d = 0
    · rw [decide_eq_true (show V.int d = V.int 0 by rw [hd])]
      refine iteT ?_
      refine ⟨_, rfl, p, 10, rfl, b1, by decide, by decide, fun d2 H2 k2 b2 h20 h21 => ?_⟩
      obtain ⟨n, rfl⟩ := Int.eq_ofNat_of_zero_le h20
      exact k n H2 (k1.trans k2) b2 (by omega)
    · rw [decide_eq_false (show ¬ V.int d = V.int 0 from fun z => hd (V.int.inj z))]
      refine iteF ?_
      refine ⟨by show 8 ≤ sizeLine; decide, fun L nL => ?_⟩
      have hLp : L ≠ p := fun z => by
        obtain ⟨bx, hbx⟩ := b1.some
        rw [z, hbx] at nL
        cases nL
      have sL := Same.new nL (o := .lst [V.int 0, V.int 0, V.int 0, V.int 1, V.int 1, V.int 2, V.int 2, V.int 3])
      refine ⟨_, rfl, p, 8, rfl, b1.same sL, by decide, by decide, fun d2 H2 k2 b2 h20 h21 => ?_⟩
      obtain ⟨a, ha, ha10⟩ := name_at d2 h20 h21
      exact ⟨L, _, _, _, rfl, rfl, SqL.of (k2 _ _ hLp upd_same), ha, k a H2 ((k1.trans (KB.of sL)).trans k2) b2 ha10⟩
theorem scDe : FnScope ["_law_bag_here", "_law_left", "_law_deep", "_law_way", "_law_a", "_law_b", "_law_c", "_law_kind", "_law_inner"] ["_law_bag_here", "_law_left", "_law_deep"] (defScope sDeed) := ⟨rfl, rfl, rfl, by decide +kernel, rfl, by decide +kernel, by decide +kernel⟩
theorem ok_deed {f fs : Addr} {fd fds : FuncData} {m : Nat} (F : Fun K "_law_deed" "_law_deed" sDeed f fd) (B : Blt mg) (DTk : Def P w K mg base "_law_take" 1 ["_law_bag_here", "_law_many"] spTake) (DNm : Def P w K mg base "_law_name" 2 ["_law_bag_here"] spName) (DTh : Def P w K mg base "_law_thing" 4 ["_law_bag_here", "_law_many"] (spThing C))
    (Gs : FnOk P w K mg base CX0 (2 * m + 4) fs fds ["_law_bag_here", "_law_left", "_law_deep"] (spDeeds K C m)) (mgs : mg "_law_deeds" = some (.ref fs)) (ks : PySem.W.keepIn K (.ref fs) = true) (bs : Binds K fds ["_law_bag_here", "_law_left", "_law_deep"] []) : FnOk P w K mg base CX0 (2 * m + 5) f fd ["_law_bag_here", "_law_left", "_law_deep"] (spDeed K C m) := by
  refine F.ok scDe (fun vs H Q E h => ?_) (fun cdv A outer s H vs Q E hr h => ?_)
  · obtain ⟨p, f, dp, l, rfl, _⟩ := h
    rfl
  · obtain ⟨p, f, dp, l, rfl, hb, hl, hpf, hdm, hll, k⟩ := h
    have hr1 : Room 1 _ := hr.mono (by omega)
    have hr2 : Room 2 _ := hr.mono (by omega)
    have hr4 : Room 4 _ := hr.mono (by omega)
    refine ⟨_, pss_cons (ps_set (i := 3) scDe.nd rfl (Or.inl rfl) (pe_def DTk hr1 rfl (pa_cons (pv 0) (pa_cons pe_int pa_nil)))) (pss_cons (ps_par3 (i := 4) (j := 5) (l := 6) (by rfl) scDe.nd rfl rfl rfl (by decide) (by decide) (by decide) rfl rfl rfl (pa_cons (pe_def DNm hr2 rfl (pa_cons (pv 0) pa_nil)) (pa_cons (pe_def DNm hr2 rfl (pa_cons (pv 0) pa_nil)) (pa_cons (pe_def DNm hr2 rfl (pa_cons (pv 0) pa_nil)) pa_nil))) (by rfl)) (pss_cons (ps_if (pt_cmpR op_lt (pv 3) pe_int (nomark _)) (pss_one (ps_ret (pe_tup (pa_cons pe_str (pa_cons (pv 4) (pa_cons (pe_def DTh hr4 rfl (pa_cons (pv 0) (pa_cons (pe_def DTk hr1 rfl (pa_cons (pv 0) (pa_cons pe_int pa_nil))) pa_nil))) pa_nil)))))) pss_nil) (pss_cons (ps_if (PW.pt (pw_or (pt_cmpR op_lt (pv 3) pe_int (nomark _)) (pw_or1 (pt_cmpR op_gt (pv 2) pe_int (nomark _))))) (pss_cons (ps_set (i := 7) scDe.nd rfl (Or.inl rfl) (pe_ix (r := rIxL K) ix_list (pe_lst (pa_cons pe_str (pa_cons pe_str (pa_cons pe_str (pa_cons pe_str (pa_cons pe_str (pa_cons pe_str pa_nil))))))) (pe_op op_mod (pv 3) pe_int) (fun _ _ => rfl))) (pss_one (ps_ret (pe_slice sl_tupA (pe_tup (pa_cons (pv 7) (pa_cons (pv 4) (pa_cons (pv 5) (pa_cons (pv 6) pa_nil))))) po_none (po_some (pe_op op_add pe_int (pe_callTy call_int1 (by rfl) B.int PyProof.Rows.boot_int (pa_cons (pe_cmpR op_in_seq (pv 7) (pe_tup (pa_cons pe_str (pa_cons pe_str pa_nil))) rfl) pa_nil)))))))) pss_nil) (pss_cons (ps_set (i := 8) scDe.nd rfl (Or.inl rfl) (pe_call Gs hr rfl mgs ks bs .nil pass0 (pa_cons (pv 0) (pa_cons (pv 1) (pa_cons (pe_op op_add (pv 2) pe_int) pa_nil))))) (pss_cons (ps_if (pt_cmpR op_lt (pv 3) pe_int (nomark _)) (pss_cons (ps_if (pt_cmpR op_gt (pe_def DTk hr1 rfl (pa_cons (pv 0) (pa_cons pe_int pa_nil))) pe_int (nomark _)) (pss_one (ps_set (i := 8) scDe.nd rfl (Or.inl rfl) (pe_op op_catA (pv 8) (pe_tup (pa_cons (pe_tup (pa_cons pe_str (pa_cons (pv 4) (pa_cons (pv 4) pa_nil)))) pa_nil))))) pss_nil) (pss_one (ps_ret (pe_tup (pa_cons pe_str (pa_cons (pv 4) (pa_cons (pv 8) pa_nil))))))) pss_nil) (pss_one (ps_ret (pe_tup (pa_cons pe_str (pa_cons (pv 4) (pa_cons (pv 8) (pa_cons (pe_call Gs hr rfl mgs ks bs .nil pass0 (pa_cons (pv 0) (pa_cons (pv 1) (pa_cons (pe_op op_add (pv 2) pe_int) pa_nil)))) pa_nil)))))))))))), ?_⟩
    have hsl := line4
    refine ⟨_, rfl, p, 12, rfl, hb, by decide, by decide, fun wy H1 k1 b1 h0 h1 => ?_⟩
    refine ⟨_, rfl, p, rfl, b1, fun a H2 k2 b2 ha => ?_⟩
    refine ⟨_, rfl, p, rfl, b2, fun bb H3 k3 b3 hbb => ?_⟩
    refine ⟨_, rfl, p, rfl, b3, fun c H4 k4 b4 hc => ?_⟩
    refine ⟨_, _, _, rfl, ?_⟩
    have kb4 : KB p H H4 := ((k1.trans k2).trans k3).trans k4
    have l4 : Lf H4 f l := kb4 _ _ (Ne.symm hpf) hl
    refine ⟨_, rfl, _, _, rfl, rfl, _, rfl, ?_⟩
    by_cases w2 : wy < 2
    · rw [decide_eq_true w2]
      refine iteT ?_
      refine ⟨_, rfl, _, rfl, _, rfl, p, 4, rfl, b4, by decide, by decide, fun tz H5 k5 b5 t0 t1 => ?_⟩
      obtain ⟨n, rfl⟩ := Int.eq_ofNat_of_zero_le t0
      refine ⟨p, n, rfl, b5, by omega, fun x t H6 k6 b6 hx hxs => ?_⟩
      refine ⟨by show 3 ≤ sizeLine; decide, fun T nT => ?_⟩
      have sT := Same.new nT (o := .tup [.str "told", .int (a : Nat), .ref x])
      have kb6 : KB p H4 H6 := k5.trans k6
      refine k (.ref T) (.told a t) l _ ((KC.kb (kb4.trans kb6)).trans (KC.of sT)) (b6.same sT) (sT _ _ (kb6 _ _ (Ne.symm hpf) l4)) (Nat.le_refl _) ⟨T, x, rfl, SqT.of upd_same, ha, hx.same sT, by omega⟩ (Nat.zero_le _) (by rw [many_told]; omega) (by show t.size ≤ 3; omega)
    · rw [decide_eq_false w2]
      refine iteF ?_
      refine ⟨_, rfl, _, _, rfl, rfl, _, rfl, ?_⟩
      by_cases w8 : wy < 8
      · rw [decide_eq_true w8]
        refine iteT (iteT ?_)
        obtain ⟨kk, hkk, hk2⟩ := kind_at (wy % 6) (by omega) (by omega)
        refine ⟨by show 6 ≤ sizeLine; decide, fun L nL => ?_⟩
        have sL := Same.new nL (o := .lst [V.str "first", V.str "second", V.str "second", V.str "pair", V.str "pair", V.str "same"])
        refine ⟨_, rfl, _, _, rfl, rfl, (show (0 : Int) < 6 by decide), L, _, _, _, rfl, rfl, SqL.of upd_same, hkk, ?_⟩
        revert sL
        generalize upd H4 L (.lst [V.str "first", V.str "second", V.str "second", V.str "pair", V.str "pair", V.str "same"]) = H5
        intro sL
        refine ⟨_, rfl, _, rfl, _, rfl, _, rfl, by show 4 ≤ sizeLine; decide, fun T nT => ?_⟩
        have sT := Same.new nT (o := .tup [.str kk, .int (a : Nat), .int (bb : Nat), .int (c : Nat)])
        have hT : (upd H5 T (.tup [.str kk, .int (a : Nat), .int (bb : Nat), .int (c : Nat)])) T = some (.tup [.str kk, .int (a : Nat), .int (bb : Nat), .int (c : Nat)]) := upd_same
        revert sT hT
        generalize upd H5 T (.tup [.str kk, .int (a : Nat), .int (bb : Nat), .int (c : Nat)]) = H6
        intro sT hT
        refine ⟨_, rfl, by show 2 ≤ sizeLine; decide, fun U nU => ?_⟩
        have sU := Same.new nU (o := .tup [V.str "pair", V.str "same"])
        refine ⟨U, _, rfl, .inr (SqT.of upd_same), rfl, rfl, .inr ⟨_, rfl, _, _, rfl, rfl, _, rfl, T, _, rfl, SqT.of (sU _ _ hT), ?_⟩⟩
        have s47 := (sL.trans sT).trans sU
        have kc7 : KC p f H (upd H6 U (.tup [V.str "pair", V.str "same"])) := (KC.kb kb4).trans (KC.of s47)
        have l7 := s47 _ _ l4
        have b7 := b4.same s47
        rcases hk2 with ⟨s, rfl⟩ | ⟨s, rfl⟩
        · rw [show (if false = true then !inV (.str (takeS s)) [V.str "pair", V.str "same"] else inV (.str (takeS s)) [V.str "pair", V.str "same"]) = false from in_take s]
          refine ⟨fun ⟨_, h2⟩ => absurd h2 (show ¬ ((3 : Nat) = 4) by decide), fun _ z nz => ?_⟩
          have sz := Same.new nz (o := .tup [.str (takeS s), .int (a : Nat), .int (bb : Nat)])
          exact k (.ref z) (.take s a bb) l _ (kc7.trans (KC.of sz)) (b7.same sz) (sz _ _ l7) (Nat.le_refl _) ⟨z, rfl, SqT.of upd_same, ha, hbb⟩ (Nat.zero_le _) (by rw [many_take]; omega) trivial
        · rw [show (if false = true then !inV (.str (twoS s)) [V.str "pair", V.str "same"] else inV (.str (twoS s)) [V.str "pair", V.str "same"]) = true from in_two s]
          refine ⟨fun _ => ?_, fun hn => absurd ⟨rfl, rfl⟩ hn⟩
          exact k (.ref T) (.two s a bb c) l _ kc7 b7 l7 (Nat.le_refl _) ⟨T, rfl, SqT.of (sU _ _ hT), ha, hbb, hc⟩ (Nat.zero_le _) (by rw [many_two]; omega) trivial
      · rw [decide_eq_false w8]
        refine iteF ?_
        refine ⟨_, rfl, _, _, rfl, rfl, _, rfl, ?_⟩
        by_cases w4 : 4 < dp
        · rw [decide_eq_true (show (4 : Int) < ((dp : Nat) : Int) by omega)]
          refine iteT ?_
          obtain ⟨kk, hkk, hk2⟩ := kind_at (wy % 6) (by omega) (by omega)
          refine ⟨by show 6 ≤ sizeLine; decide, fun L nL => ?_⟩
          have sL := Same.new nL (o := .lst [V.str "first", V.str "second", V.str "second", V.str "pair", V.str "pair", V.str "same"])
          refine ⟨_, rfl, _, _, rfl, rfl, (show (0 : Int) < 6 by decide), L, _, _, _, rfl, rfl, SqL.of upd_same, hkk, ?_⟩
          revert sL
          generalize upd H4 L (.lst [V.str "first", V.str "second", V.str "second", V.str "pair", V.str "pair", V.str "same"]) = H5
          intro sL
          refine ⟨_, rfl, _, rfl, _, rfl, _, rfl, by show 4 ≤ sizeLine; decide, fun T nT => ?_⟩
          have sT := Same.new nT (o := .tup [.str kk, .int (a : Nat), .int (bb : Nat), .int (c : Nat)])
          have hT : (upd H5 T (.tup [.str kk, .int (a : Nat), .int (bb : Nat), .int (c : Nat)])) T = some (.tup [.str kk, .int (a : Nat), .int (bb : Nat), .int (c : Nat)]) := upd_same
          revert sT hT
          generalize upd H5 T (.tup [.str kk, .int (a : Nat), .int (bb : Nat), .int (c : Nat)]) = H6
          intro sT hT
          refine ⟨_, rfl, by show 2 ≤ sizeLine; decide, fun U nU => ?_⟩
          have sU := Same.new nU (o := .tup [V.str "pair", V.str "same"])
          refine ⟨U, _, rfl, .inr (SqT.of upd_same), rfl, rfl, .inr ⟨_, rfl, _, _, rfl, rfl, _, rfl, T, _, rfl, SqT.of (sU _ _ hT), ?_⟩⟩
          have s47 := (sL.trans sT).trans sU
          have kc7 : KC p f H (upd H6 U (.tup [V.str "pair", V.str "same"])) := (KC.kb kb4).trans (KC.of s47)
          have l7 := s47 _ _ l4
          have b7 := b4.same s47
          rcases hk2 with ⟨s, rfl⟩ | ⟨s, rfl⟩
          · rw [show (if false = true then !inV (.str (takeS s)) [V.str "pair", V.str "same"] else inV (.str (takeS s)) [V.str "pair", V.str "same"]) = false from in_take s]
            refine ⟨fun ⟨_, h2⟩ => absurd h2 (show ¬ ((3 : Nat) = 4) by decide), fun _ z nz => ?_⟩
            have sz := Same.new nz (o := .tup [.str (takeS s), .int (a : Nat), .int (bb : Nat)])
            exact k (.ref z) (.take s a bb) l _ (kc7.trans (KC.of sz)) (b7.same sz) (sz _ _ l7) (Nat.le_refl _) ⟨z, rfl, SqT.of upd_same, ha, hbb⟩ (Nat.zero_le _) (by rw [many_take]; omega) trivial
          · rw [show (if false = true then !inV (.str (twoS s)) [V.str "pair", V.str "same"] else inV (.str (twoS s)) [V.str "pair", V.str "same"]) = true from in_two s]
            refine ⟨fun _ => ?_, fun hn => absurd ⟨rfl, rfl⟩ hn⟩
            exact k (.ref T) (.two s a bb c) l _ kc7 b7 l7 (Nat.le_refl _) ⟨T, rfl, SqT.of (sU _ _ hT), ha, hbb, hc⟩ (Nat.zero_le _) (by rw [many_two]; omega) trivial
        · rw [decide_eq_false (show ¬ (4 : Int) < ((dp : Nat) : Int) by omega)]
          refine iteF ?_
          refine ⟨_, rfl, _, rfl, _, rfl, _, _, rfl, rfl, p, f, dp + 1, l, rfl, b4, l4, hpf, by omega, by omega, hll, fun q r l1 H5 kc5 b5 lf5 hl5 hr5 hd5 hm5 hs5 => ?_⟩
          have kc45 : KC p f H H5 := (KC.kb kb4).trans kc5
          refine ⟨_, rfl, _, _, rfl, rfl, _, rfl, ?_⟩
          by_cases w10 : wy < 10
          · rw [decide_eq_true w10]
            refine iteT ?_
            refine ⟨_, rfl, p, 5, rfl, b5, by decide, by decide, fun d5 H6 k6 b6 d50 d51 => ?_⟩
            refine ⟨_, _, rfl, rfl, _, rfl, ?_⟩
            obtain ⟨bx, hbx⟩ := b5.some
            have hr6 : RAt K C H6 q r := hr5.kt (k6.kt hbx)
            have lf6 : Lf H6 f l1 := k6 _ _ (Ne.symm hpf) lf5
            have kc6 : KC p f H H6 := kc45.trans (KC.kb k6)
            by_cases h5 : 0 < d5
            · rw [decide_eq_true h5]
              refine iteT ?_
              obtain ⟨vs, hq, hvs⟩ := hr6
              refine ⟨_, rfl, _, rfl, _, rfl, by show 3 ≤ sizeLine; decide, fun T1 n1 => ?_⟩
              have s7 := Same.new n1 (o := .tup [V.str "second", .int (a : Nat), .int (a : Nat)])
              have hT1 : (upd H6 T1 (.tup [V.str "second", .int (a : Nat), .int (a : Nat)])) T1 = some (.tup [V.str "second", .int (a : Nat), .int (a : Nat)]) := upd_same
              revert s7 hT1
              generalize upd H6 T1 (.tup [V.str "second", .int (a : Nat), .int (a : Nat)]) = H7
              intro s7 hT1
              refine ⟨by show 1 ≤ sizeLine; decide, fun T2 n2 => ?_⟩
              have s8 := Same.new n2 (o := .tup [V.ref T1])
              have hT2 : (upd H7 T2 (.tup [V.ref T1])) T2 = some (.tup [V.ref T1]) := upd_same
              revert s8 hT2
              generalize upd H7 T2 (.tup [V.ref T1]) = H8
              intro s8 hT2
              have s68 := s7.trans s8
              have dsec : DAt K C H8 (.ref T1) (.take true a a) := ⟨T1, rfl, SqT.of (s8 _ _ hT1), ha, ha⟩
              have hvs8 := DsAt_kt (KT.of s68) r vs hvs
              have hq8 := sqt_kt (KT.of s68) hq
              have lr := len_many r
              have lv := DsAt.length r vs hvs
              have cont : ∀ (q2 : Addr) (H9 : Hp), Same H8 H9 → RAt K C H9 q2 (r ++ [.take true a a]) → (tRet (tTup (tCons (tC (.str "while")) (tCons (tVar 4) (tCons (tVar 8) tNil)))) { nx := fun _ H' => Q .non H', rt := Q } [some (.ref p), some (.ref f), some (.int (dp : Nat)), some (.int wy), some (.int (a : Nat)), some (.int (bb : Nat)), some (.int (c : Nat)), none, some (.ref q2)] H9) := by
                intro q2 H9 s9 hr9
                refine ⟨_, rfl, _, rfl, by show 3 ≤ sizeLine; decide, fun T3 n3 => ?_⟩
                have sT := Same.new n3 (o := .tup [V.str "while", .int (a : Nat), .ref q2])
                have s69 := (s68.trans s9).trans sT
                obtain ⟨vs9, h91, h92⟩ := hr9.same sT
                refine k (.ref T3) (.wh a (r ++ [.take true a a])) l1 _ (kc6.trans (KC.of s69)) (b6.same s69) (s69 _ _ lf6) hl5 ⟨T3, q2, vs9, rfl, SqT.of upd_same, ha, h91, h92⟩ ?_ ?_ (by exact smR_app r [.take true a a] hs5 ⟨trivial, trivial⟩)
                · rw [Dd.deep, deepR_app, deepR_one]
                  have : max (deepR r) (Dd.take true a a).deep = deepR r := Nat.max_eq_left (Nat.zero_le _)
                  omega
                · rw [many_wh, manyR_app, manyR_one, many_take]
                  omega
              refine ⟨q, T2, vs, _, rfl, rfl, hq8, SqT.of hT2, by simp only [List.length_cons, List.length_nil]; omega, fun e0 => ?_, fun _ e1 => (by cases e1), fun _ _ U nU => ?_⟩
              · subst e0
                have er : r = [] := List.length_eq_zero_iff.mp lv.symm
                refine cont T2 H8 (Same.refl H8) ?_
                rw [er]
                exact ⟨_, SqT.of hT2, _, _, rfl, dsec, rfl⟩
              · have sU := Same.new nU (o := .tup (vs ++ [V.ref T1]))
                exact cont U _ sU ⟨_, SqT.of upd_same, DsAt_snoc (DAt_kt (KT.of sU) _ _ dsec) r vs (DsAt_kt (KT.of sU) r vs hvs8)⟩
            · rw [decide_eq_false h5]
              refine iteF ?_
              refine ⟨_, rfl, _, rfl, by show 3 ≤ sizeLine; decide, fun T3 n3 => ?_⟩
              have sT := Same.new n3 (o := .tup [V.str "while", .int (a : Nat), .ref q])
              obtain ⟨vs9, h91, h92⟩ := hr6.same sT
              refine k (.ref T3) (.wh a r) l1 _ (kc6.trans (KC.of sT)) (b6.same sT) (sT _ _ lf6) hl5 ⟨T3, q, vs9, rfl, SqT.of upd_same, ha, h91, h92⟩ (by rw [Dd.deep]; omega) (by rw [many_wh]; omega) hs5
          · rw [decide_eq_false w10]
            refine iteF ?_
            refine ⟨_, rfl, _, rfl, _, rfl, _, rfl, _, rfl, _, _, rfl, rfl, p, f, dp + 1, l1, rfl, b5, lf5, hpf, by omega, by omega, by omega, fun q2 r2 l2 H6 kc6 b6 lf6 hl6 hr6 hd6 hm6 hs6 => ?_⟩
            refine ⟨by show 4 ≤ sizeLine; decide, fun T3 n3 => ?_⟩
            have sT := Same.new n3 (o := .tup [V.str "if", .int (a : Nat), .ref q, .ref q2])
            obtain ⟨bx, hbx⟩ := b5.some
            obtain ⟨vs9, h91, h92⟩ := (hr5.kt (kc6.kt hbx lf5)).same sT
            obtain ⟨vs8, h81, h82⟩ := hr6.same sT
            refine k (.ref T3) (.iff a r r2) l2 _ ((kc45.trans kc6).trans (KC.of sT)) (b6.same sT) (sT _ _ lf6) (Nat.le_trans hl6 hl5) ⟨T3, q, vs9, q2, vs8, rfl, SqT.of upd_same, ha, h91, h92, h81, h82⟩ ?_ ?_ ⟨hs5, hs6⟩
            · rw [Dd.deep]
              have : max (deepR r) (deepR r2) ≤ m - 1 := Nat.max_le.mpr ⟨by omega, by omega⟩
              omega
            · rw [many_iff]
              omega
theorem scDs : FnScope ["_law_bag_here", "_law_left", "_law_deep", "_law_found", "_law_turn"] ["_law_bag_here", "_law_left", "_law_deep"] (defScope sDeeds) := ⟨rfl, rfl, rfl, by decide +kernel, rfl, by decide +kernel, by decide +kernel⟩
theorem ok_deedsS {f fe : Addr} {fd fde : FuncData} {m : Nat} (F : Fun K "_law_deeds" "_law_deeds" sDeeds f fd) (B : Blt mg) (G : FrmC K w mg) (DTk : Def P w K mg base "_law_take" 1 ["_law_bag_here", "_law_many"] spTake)
    (Gd : FnOk P w K mg base CX0 (2 * m + 5) fe fde ["_law_bag_here", "_law_left", "_law_deep"] (spDeed K C m)) (mgd : mg "_law_deed" = some (.ref fe)) (kd : PySem.W.keepIn K (.ref fe) = true) (bd : Binds K fde ["_law_bag_here", "_law_left", "_law_deep"] []) : FnOk P w K mg base CX0 (2 * m + 6) f fd ["_law_bag_here", "_law_left", "_law_deep"] (spDeeds K C (m + 1)) := by
  refine F.ok scDs (fun vs H Q E h => ?_) (fun cdv A outer s H vs Q E hr h => ?_)
  · obtain ⟨p, f, dp, l, rfl, _⟩ := h
    rfl
  · obtain ⟨p, f, dp, l, rfl, hb, hl, hpf, hdm, _, hll, k⟩ := h
    have hr1 : Room 1 _ := hr.mono (by omega)
    refine ⟨_, pss_cons (ps_set (i := 3) scDs.nd rfl (Or.inl rfl) (pe_lst pa_nil)) (pss_cons (ps_for PassesOwn.never rfl (pi_range1 rfl B.range (pa_cons (pe_def DTk hr1 rfl (pa_cons (pv 0) (pa_cons pe_int pa_nil))) pa_nil)) (pg_name (i := 4) scDs.nd rfl (Or.inl rfl)) (pss_one (ps_if (pt_cmpR op_gt (pe_ix (r := rIxL K) ix_list (pv 1) pe_int (fun _ _ => rfl)) pe_int (nomark _)) (pss_cons (ps_asg (pe_op op_sub (pe_ix (r := rIxL K) ix_list (pv 1) pe_int (fun _ _ => rfl)) pe_int) (pg_sub (pv 1) pe_int set_list)) (pss_one (ps_expr (pe_bm PySem.F.plainAttrs_list PySem.F.slot_list_append PySem.F.type_list_append mt_append (pv 3) (pa_cons (pe_call Gd hr rfl mgd kd bd .nil pass0 (pa_cons (pv 0) (pa_cons (pv 1) (pa_cons (pv 2) pa_nil)))) pa_nil))))) pss_nil))) (pss_one (ps_ret (pe_callTy call_tuple_of (by rfl) G.mt PyProof.Rows.boot_tuple (pa_cons (pv 3) pa_nil))))), ?_⟩
    have hsl := line4
    refine ⟨Nat.zero_le _, fun fl nfl => ?_⟩
    have s1 : Same H (upd H fl (.lst [])) := Same.new nfl
    have hfl1 : (upd H fl (.lst [])) fl = some (.lst []) := upd_same
    have hflp : fl ≠ p := fun z => by
      obtain ⟨bx, hbx⟩ := hb.some
      rw [z, hbx] at nfl
      cases nfl
    have hflf : fl ≠ f := fun z => by
      rw [z] at nfl
      have := nfl.symm.trans hl
      cases this
    revert s1 hfl1
    generalize upd H fl (.lst []) = H1
    intro s1 hfl1
    refine ⟨_, rfl, p, 6, rfl, hb.same s1, by decide, by decide, fun n6 H2 k2 b2 n0 n1 => ?_⟩
    have kc2 : KC p f H H2 := (KC.of s1).trans (KC.kb k2)
    refine ⟨n6, rfl, by omega, by omega, for_range (n := n6.toNat) (fun i σ H' => ∃ (x4 : Option V) (us : List V) (r : List Dd) (l' : Nat), σ = [some (.ref p), some (.ref f), some (.int (dp : Nat)), some (.ref fl), x4] ∧ KC p f H H' ∧ BagOk H' p ∧ Lf H' f l' ∧ l' ≤ l ∧ H' fl = some (.lst us) ∧ DsAt K C H' us r ∧ deepR r ≤ m ∧ manyR r ≤ 2 * (l - l') ∧ r.length ≤ i ∧ smR r)
      ⟨none, [], [], l, rfl, kc2, b2, k2 _ _ (Ne.symm hpf) (s1 _ _ hl), Nat.le_refl _, k2 _ _ hflp hfl1, rfl, Nat.zero_le _, by rw [many_nil]; omega, Nat.le_refl _, trivial⟩ ?_ ?_⟩
    · rintro i σ H3 hi ⟨x4, us, r, l1, rfl, kc3, b3, lf3, hl3, hfl3, hus, hdr, hmr, hri, hsm⟩
      refine ⟨_, rfl, f, _, _, _, rfl, rfl, SqL.of lf3, at0 _ _, _, _, rfl, rfl, _, rfl, ?_⟩
      by_cases h1 : 0 < l1
      · rw [decide_eq_true (show (0 : Int) < ((l1 : Nat) : Int) by omega)]
        refine iteT ?_
        refine ⟨_, rfl, f, _, _, _, rfl, rfl, SqL.of lf3, at0 _ _, _, _, rfl, rfl, _, rfl, f, _, _, 0, rfl, rfl, lf3, rfl, ?_⟩
        have e4 : [V.int ((l1 : Nat) : Int)].set 0 (V.int (((l1 : Nat) : Int) - 1)) = [V.int (((l1 - 1 : Nat)) : Int)] := by
          rw [show (((l1 - 1 : Nat)) : Int) = ((l1 : Nat) : Int) - 1 by omega]
          rfl
        rw [e4]
        have lf4 : Lf (upd H3 f (.lst [V.int (((l1 - 1 : Nat)) : Int)])) f (l1 - 1) := upd_same
        have kc4 : KC p f H3 (upd H3 f (.lst [V.int (((l1 - 1 : Nat)) : Int)])) := KC.set
        obtain ⟨bx, hbx⟩ := b3.some
        have kt4 : KT H3 (upd H3 f (.lst [V.int (((l1 - 1 : Nat)) : Int)])) := kc4.kt hbx lf3
        have b4 : BagOk (upd H3 f (.lst [V.int (((l1 - 1 : Nat)) : Int)])) p := by
          obtain ⟨x0, x1', pr, x3', hx, rest⟩ := b3.ex
          exact ⟨⟨x0, x1', pr, x3', by rw [upd_ne hpf]; exact hx, rest⟩⟩
        have hfl4 : (upd H3 f (.lst [V.int (((l1 - 1 : Nat)) : Int)])) fl = some (.lst us) := by rw [upd_ne hflf]; exact hfl3
        revert lf4 kc4 kt4 b4 hfl4
        generalize upd H3 f (.lst [V.int (((l1 - 1 : Nat)) : Int)]) = H4
        intro lf4 kc4 kt4 b4 hfl4
        refine ⟨_, rfl, .inl ⟨rfl, _, SqL.of hfl4⟩, _, rfl, _, rfl, _, rfl, p, f, dp, l1 - 1, rfl, b4, lf4, hpf, by omega, by omega, fun v d l2 H5 kc5 b5 lf5 hl5 hdv hdd hdm2 hds => ?_⟩
        have hfl5 := kc5 _ _ hflp hflf hfl4
        have lus := DsAt.length r us hus
        refine ⟨fl, _, _, rfl, rfl, hfl5, by omega, ?_⟩
        obtain ⟨by_, hby⟩ := b4.some
        have kt5 : KT H4 H5 := kc5.kt hby lf4
        have kt6 : KT H5 (upd H5 fl (.lst (us ++ [v]))) := KT.lst hfl5
        refine ⟨_, us ++ [v], r ++ [d], l2, rfl, fun a o na nf ha => ?_, ?_, ?_, by omega, upd_same, DsAt_snoc (DAt_kt kt6 d v hdv) r us (DsAt_kt kt6 r us (DsAt_kt kt5 r us (DsAt_kt kt4 r us hus))), ?_, ?_, (by rw [List.length_append]; simp only [List.length_cons, List.length_nil]; omega), smR_app r [d] hsm ⟨hds, trivial⟩⟩
        · rw [upd_ne (ne_of_none ha nfl)]
          exact kc5 _ _ na nf (kc4 _ _ na nf (kc3 _ _ na nf ha))
        · obtain ⟨x0, x1', pr, x3', hx, rest⟩ := b5.ex
          exact ⟨⟨x0, x1', pr, x3', by rw [upd_ne (Ne.symm hflp)]; exact hx, rest⟩⟩
        · show (upd H5 fl (.lst (us ++ [v]))) f = _
          rw [upd_ne (Ne.symm hflf)]
          exact lf5
        · rw [deepR_app, deepR_one]
          exact Nat.max_le.mpr ⟨hdr, hdd⟩
        · rw [manyR_app, manyR_one]
          omega
      · rw [decide_eq_false (show ¬ (0 : Int) < ((l1 : Nat) : Int) by omega)]
        refine iteF ?_
        exact ⟨_, us, r, l1, rfl, kc3, b3, lf3, hl3, hfl3, hus, hdr, hmr, by omega, hsm⟩
    · rintro σ H3 ⟨x4, us, r, l1, rfl, kc3, b3, lf3, hl3, hfl3, hus, hdr, hmr, hri, hsm⟩
      refine ⟨_, rfl, fl, _, rfl, .inl ⟨SqL.of hfl3, fun q nq => ?_⟩⟩
      have sq := Same.new nq (o := .tup us)
      exact k q r l1 _ (kc3.trans (KC.of sq)) (b3.same sq) (sq _ _ lf3) hl3 ⟨us, SqT.of upd_same, DsAt_kt (KT.of sq) r us hus⟩ (by omega) hmr hsm
theorem ok_deeds0 {f : Addr} {fd : FuncData} (F : Fun K "_law_deeds" "_law_deeds" sDeeds f fd) : FnOk P w K mg base CX0 4 f fd ["_law_bag_here", "_law_left", "_law_deep"] (spDeeds K C 0) := by
  refine F.ok scDs (fun vs H Q E h => ?_) (fun cdv A outer s H vs Q E hr h => ?_)
  · obtain ⟨p, f, dp, l, rfl, _⟩ := h
    rfl
  · obtain ⟨p, f, dp, l, _, _, _, _, _, h, _⟩ := h
    exact absurd h (Nat.not_succ_le_zero _)
theorem ok_deeds {f fe : Addr} {fd fde : FuncData} (F : Fun K "_law_deeds" "_law_deeds" sDeeds f fd) (Fe : Fun K "_law_deed" "_law_deed" sDeed fe fde) (B : Blt mg) (G : FrmC K w mg) (DTk : Def P w K mg base "_law_take" 1 ["_law_bag_here", "_law_many"] spTake) (DNm : Def P w K mg base "_law_name" 2 ["_law_bag_here"] spName) (DTh : Def P w K mg base "_law_thing" 4 ["_law_bag_here", "_law_many"] (spThing C))
    (mgf : mg "_law_deeds" = some (.ref f)) (bf : Binds K fd ["_law_bag_here", "_law_left", "_law_deep"] []) (mge : mg "_law_deed" = some (.ref fe)) (be : Binds K fde ["_law_bag_here", "_law_left", "_law_deep"] []) : ∀ m, FnOk P w K mg base CX0 (2 * m + 4) f fd ["_law_bag_here", "_law_left", "_law_deep"] (spDeeds K C m)
  | 0 => ok_deeds0 F
  | m + 1 => ok_deedsS F B G DTk (ok_deed Fe B DTk DNm DTh (ok_deeds F Fe B G DTk DNm DTh mgf bf mge be m) mgf F.kp bf) mge Fe.kp be
def spTop (K : PySem.W.Frag) (C : Addr) : Sp := fun vs H Q _ => ∃ (p : Addr) (n : Nat), vs = [.ref p, .int (n : Nat)] ∧ BagOk H p ∧ n ≤ 1000 ∧ ∀ q r H', KB p H H' → BagOk H' p → RAt K C H' q r → deepR r ≤ 4 → manyR r ≤ 2 * n → smR r → Q (.ref q) H'
theorem scTo : FnScope ["_law_bag_here", "_law_many", "_law_left"] ["_law_bag_here", "_law_many"] (defScope sTop) := ⟨rfl, rfl, rfl, by decide +kernel, rfl, by decide +kernel, by decide +kernel⟩
theorem ok_top {f : Addr} {fd : FuncData} (F : Fun K "_law_top" "_law_top" sTop f fd) (DDs : Def P w K mg base "_law_deeds" 14 ["_law_bag_here", "_law_left", "_law_deep"] (spDeeds K C 5)) : FnOk P w K mg base CX0 15 f fd ["_law_bag_here", "_law_many"] (spTop K C) := by
  refine F.ok scTo (fun vs H Q E h => ?_) (fun cdv A outer s H vs Q E hr h => ?_)
  · obtain ⟨p, n, rfl, _⟩ := h
    rfl
  · obtain ⟨p, n, rfl, hb, hn, k⟩ := h
    refine ⟨_, pss_cons (ps_set (i := 2) scTo.nd rfl (Or.inl rfl) (pe_lst (pa_cons (pv 1) pa_nil))) (pss_one (ps_ret (pe_op op_catA (pe_def (k := 14) DDs hr rfl (pa_cons (pv 0) (pa_cons (pv 2) (pa_cons pe_int pa_nil)))) (pe_def (k := 14) DDs hr rfl (pa_cons (pv 0) (pa_cons (pv 2) (pa_cons pe_int pa_nil))))))), ?_⟩
    have hsl := line4
    refine ⟨_, rfl, by show 1 ≤ sizeLine; decide, fun f nf => ?_⟩
    have hpf : p ≠ f := fun z => by
      obtain ⟨bx, hbx⟩ := hb.some
      rw [← z, hbx] at nf
      cases nf
    have s1 : Same H (upd H f (.lst [.int (n : Nat)])) := Same.new nf
    have l1 : Lf (upd H f (.lst [.int (n : Nat)])) f n := upd_same
    revert s1 l1
    generalize upd H f (.lst [.int (n : Nat)]) = H1
    intro s1 l1
    refine ⟨_, rfl, _, rfl, p, f, 1, n, rfl, hb.same s1, l1, hpf, rfl, by decide, hn, fun q r m1 H2 kc2 b2 l2 hl2 hr2 hd2 hm2 hs2 => ?_⟩
    refine ⟨_, rfl, _, rfl, p, f, 1, m1, rfl, b2, l2, hpf, rfl, by decide, by omega, fun q2 r2 m2 H3 kc3 b3 l3 hl3 hr3 hd3 hm3 hs3 => ?_⟩
    obtain ⟨bx, hbx⟩ := b2.some
    obtain ⟨vs, h1, h2⟩ := hr2.kt (kc3.kt hbx l2)
    obtain ⟨us, g1, g2⟩ := hr3
    have kb3 : KB p H H3 := fun a o na ha => kc3 _ _ na (ne_of_none ha nf) (kc2 _ _ na (ne_of_none ha nf) (s1 _ _ ha))
    have lv := DsAt.length r vs h2
    have lu := DsAt.length r2 us g2
    have lr := len_many r
    have lr2 := len_many r2
    have hdd : deepR (r ++ r2) ≤ 4 := by
      rw [deepR_app]
      exact Nat.max_le.mpr ⟨by omega, by omega⟩
    have hmm : manyR (r ++ r2) ≤ 2 * n := by
      rw [manyR_app]
      omega
    refine ⟨q, q2, vs, us, rfl, rfl, h1, g1, by omega, fun e0 => ?_, fun _ e1 => ?_, fun _ _ U nU => ?_⟩
    · subst e0
      have er : r = [] := List.length_eq_zero_iff.mp lv.symm
      subst er
      exact k q2 r2 H3 kb3 b3 ⟨us, g1, g2⟩ (by simpa using hdd) (by simpa using hmm) hs3
    · subst e1
      have er : r2 = [] := List.length_eq_zero_iff.mp lu.symm
      subst er
      exact k q r H3 kb3 b3 ⟨vs, h1, h2⟩ (by simpa using hdd) (by simpa using hmm) hs2
    · have sU := Same.new nU (o := .tup (vs ++ us))
      exact k U (r ++ r2) _ (kb3.trans (KB.of sU)) (b3.same sU) ⟨_, SqT.of upd_same, DsAt_app r r2 vs us (DsAt_kt (KT.of sU) r vs h2) (DsAt_kt (KT.of sU) r2 us g2)⟩ hdd hmm (smR_app r r2 hs2 hs3)
end
end Js

set_option Elab.async false
set_option linter.all false
set_option maxRecDepth 100000
set_option maxHeartbeats 2000000
namespace Js
open PySem L2
section
variable {X : Cx} {C : Addr}
/-- a row behind a row -/
theorem op_catR : OpR X (binaryOp .Add) (fun x y H Q => ∃ q q2 r u, x = .ref q ∧ y = .ref q2 ∧ RAt X.K C H q r ∧ RAt X.K C H q2 u ∧ r.length + u.length ≤ 100000 ∧ ∀ q' H', Same H H' → RAt X.K C H' q' (r ++ u) → Q (.ref q') H') :=
  OpR.imp op_catA fun x y H Q h => by
    obtain ⟨q, q2, r, u, rfl, rfl, ⟨vs, h1, h2⟩, ⟨us, g1, g2⟩, hl, k⟩ := h
    have lv := DsAt.length r vs h2
    have lu := DsAt.length u us g2
    have hsl := line4
    refine ⟨q, q2, vs, us, rfl, rfl, h1, g1, by omega, fun e0 => ?_, fun _ e1 => ?_, fun _ _ U nU => ?_⟩
    · subst e0
      have er : r = [] := List.length_eq_zero_iff.mp lv.symm
      subst er
      exact k q2 H (Same.refl H) ⟨us, g1, g2⟩
    · subst e1
      have er : u = [] := List.length_eq_zero_iff.mp lu.symm
      subst er
      exact k q H (Same.refl H) (by rw [List.append_nil]; exact ⟨vs, h1, h2⟩)
    · have sU := Same.new nU (o := .tup (vs ++ us))
      exact k U _ sU ⟨_, SqT.of upd_same, DsAt_app r u vs us (DsAt_kt (KT.of sU) r vs h2) (DsAt_kt (KT.of sU) u us g2)⟩
end
end Js

set_option Elab.async false
set_option linter.all false
set_option maxRecDepth 100000
set_option maxHeartbeats 2000000
namespace Js
open PySem L2
open PySem PySem.Spec PyProof.Rows L2
abbrev sLaw : Stmt := top 58
theorem mult25 (n : Nat) : 2 ≤ (if (if ((n : Nat) : Int) < 5 then ((n : Nat) : Int) else 5) > 2 then (if ((n : Nat) : Int) < 5 then ((n : Nat) : Int) else 5) else 2) ∧ (if (if ((n : Nat) : Int) < 5 then ((n : Nat) : Int) else 5) > 2 then (if ((n : Nat) : Int) < 5 then ((n : Nat) : Int) else 5) else 2) ≤ 5 := by
  constructor
  · split <;> omega
  · split <;> split <;> omega
theorem sz_pr3 (a b : Tr) : (Tr.pr a b).size = 1 + a.size + b.size := rfl
mutual
theorem code_sizeB : ∀ d : Dd, d.ok → d.sm → d.code.size + 1 ≤ 36 * d.many
  | .told a t, h, s => by
    have h1 := h.1
    have h2 : t.size ≤ 3 := s
    rw [Dd.code, many_told]
    show 1 + (num 0).size + (1 + (num a).size + (1 + t.size + 0)) + 1 ≤ 36 * 1
    rw [num_size, num_size]
    omega
  | .take b x y, h, _ => by
    have h1 := h.1
    have h2 := h.2
    rw [Dd.code, many_take]
    show 1 + (num (if b then 2 else 1)).size + (1 + (num x).size + (1 + (num y).size + 0)) + 1 ≤ 36 * 1
    rw [num_size, num_size, num_size]
    cases b <;> simp <;> omega
  | .two b x y z, h, _ => by
    have h1 := h.1
    have h2 := h.2.1
    have h3 := h.2.2
    rw [Dd.code, many_two]
    show 1 + (num (if b then 4 else 3)).size + (1 + (num x).size + (1 + (num y).size + (1 + (num z).size + 0))) + 1 ≤ 36 * 1
    rw [num_size, num_size, num_size, num_size]
    cases b <;> simp <;> omega
  | .wh a r, h, s => by
    have h1 := h.1
    have h2 := codeR_sizeB r h.2 s
    rw [Dd.code, many_wh]
    show 1 + (num 5).size + (1 + (num a).size + (1 + (codeR r).size + 0)) + 1 ≤ 36 * (manyR r + 1)
    rw [num_size, num_size]
    omega
  | .iff a r o, h, s => by
    have h1 := h.1
    have h2 := codeR_sizeB r h.2.1 s.1
    have h3 := codeR_sizeB o h.2.2 s.2
    rw [Dd.code, many_iff]
    show 1 + (num 6).size + (1 + (num a).size + (1 + (codeR r).size + (1 + (codeR o).size + 0))) + 1 ≤ 36 * (manyR r + manyR o + 1)
    rw [num_size, num_size]
    omega
theorem codeR_sizeB : ∀ r : List Dd, okR r → smR r → (codeR r).size ≤ 36 * manyR r
  | [], _, _ => by rw [codeR]; exact Nat.zero_le _
  | d :: r, h, s => by
    have h1 := code_sizeB d h.1 s.1
    have h2 := codeR_sizeB r h.2 s.2
    rw [codeR, many_cons, sz_pr3]
    omega
end
theorem rowT_app (a b : List Tr) : (rowT (a ++ b)).size = (rowT a).size + (rowT b).size := by
  induction a with
  | nil => rw [List.nil_append]; show _ = 0 + _; omega
  | cons x a ih =>
    rw [List.cons_append]
    show 1 + x.size + (rowT (a ++ b)).size = 1 + x.size + (rowT a).size + _
    rw [ih]
    omega
theorem codeR_app (a b : List Dd) : (codeR (a ++ b)).size = (codeR a).size + (codeR b).size := by rw [codeR_row, codeR_row, codeR_row, List.map_append, rowT_app]
theorem code_one (d : Dd) : (codeR [d]).size = 1 + d.code.size := by
  rw [codeR, sz_pr3, codeR]
  rfl
theorem mul_many (r : List Dd) : ∀ k, manyR (List.replicate k r).flatten = k * manyR r
  | 0 => by rw [Nat.zero_mul]; rfl
  | k + 1 => by rw [List.replicate_succ, List.flatten_cons, manyR_app, mul_many r k, Nat.succ_mul, Nat.add_comm]
theorem mul_size (r : List Dd) : ∀ k, (codeR (List.replicate k r).flatten).size = k * (codeR r).size
  | 0 => by rw [Nat.zero_mul]; rfl
  | k + 1 => by rw [List.replicate_succ, List.flatten_cons, codeR_app, mul_size r k, Nat.succ_mul, Nat.add_comm]
theorem mul_deep (r : List Dd) : ∀ k, deepR (List.replicate k r).flatten ≤ deepR r
  | 0 => Nat.zero_le _
  | k + 1 => by
    rw [List.replicate_succ, List.flatten_cons, deepR_app]
    exact Nat.max_le.mpr ⟨Nat.le_refl _, mul_deep r k⟩
theorem told_size (a : Nat) (t : Tr) : (codeR [Dd.told a t]).size = 4 + a + t.size := by
  rw [code_one, Dd.code]
  show 1 + (1 + (num 0).size + (1 + (num a).size + (1 + t.size + 0))) = _
  rw [num_size, num_size]
  omega
theorem wh_size (a : Nat) (r : List Dd) : (codeR [Dd.wh a r]).size = 9 + a + (codeR r).size := by
  rw [code_one, Dd.code]
  show 1 + (1 + (num 5).size + (1 + (num a).size + (1 + (codeR r).size + 0))) = _
  rw [num_size, num_size]
  omega
theorem iff_size (a : Nat) (r o : List Dd) : (codeR [Dd.iff a r o]).size = 11 + a + (codeR r).size + (codeR o).size := by
  rw [code_one, Dd.code]
  show 1 + (1 + (num 6).size + (1 + (num a).size + (1 + (codeR r).size + (1 + (codeR o).size + 0)))) = _
  rw [num_size, num_size]
  omega
theorem at1_16 (x y : V) : atI [x, y] 1 = some y := rfl
def spLaw (K : PySem.W.Frag) : Sp := fun vs H Q _ => ∃ (a : Addr) (ns : List Int), vs = [.ref a] ∧ SqL K H a (ns.map V.int) ∧ ns.length ≤ 63 ∧ ∀ H', Q (.bl true) H'
section
variable {P : Program} {w : World} {K : PySem.W.Frag} {mg : Str → Option Value} {base : Heap} {C CP fP : Addr} {fdP : FuncData}
theorem scL : FnScope ["_law_script", "_law_k", "_law_bag_here", "_law_deeds_here", "_law_other", "_law_much", "_law_deep", "_law_floor", "_law_one"] ["_law_script"] (defScope sLaw) := ⟨rfl, rfl, rfl, by decide +kernel, rfl, by decide +kernel, by decide +kernel⟩
theorem ok_law {f : Addr} {fd : FuncData} (F : Fun K "law" "law" sLaw f fd) (B : Blt mg) (T : Txt K mg C) (TP : TxtP K mg CP) (MP : MakerP P w K mg base C CP fP fdP) (SS : Spc P w K mg base C "__str__" 2 ["self"] (spStr C)) (DB : Def P w K mg base "_law_bag" 1 ["_law_script", "_law_at"] (spBag K)) (DTk : Def P w K mg base "_law_take" 1 ["_law_bag_here", "_law_many"] spTake) (DTh : Def P w K mg base "_law_thing" 4 ["_law_bag_here", "_law_many"] (spThing C)) (DTo : Def P w K mg base "_law_top" 15 ["_law_bag_here", "_law_many"] (spTop K C)) (DCo : Def P w K mg base "code_of" 33 ["program"] (spCodeOf K C CP)) (DGd : Def P w K mg base "_law_good" 36 ["_law_deeds_here"] (spGood16 K C)) : FnOk P w K mg base CX0 37 f fd ["_law_script"] (spLaw K) := by
  refine F.ok scL (fun vs H Q E h => ?_) (fun cdv A outer s H vs Q E hr h => ?_)
  · obtain ⟨a, ns, rfl, _⟩ := h
    rfl
  · obtain ⟨a, ns, rfl, hS, hlen, k⟩ := h
    have hr1 : Room 1 _ := hr.mono (by decide)
    have hr4 : Room 4 _ := hr.mono (by decide)
    have hr15 : Room 15 _ := hr.mono (by decide)
    have hr33 : Room 33 _ := hr.mono (by decide)
    have hr36 : Room 36 _ := hr
    refine ⟨_, pss_cons (ps_for PassesOwn.never rfl (pi_range1 rfl B.range (pa_cons (pe_callB (call_max2 rfl) (by rfl) B.max (by decide +kernel) (pa_cons pe_int (pa_cons (pe_callB (call_min2 rfl) (by rfl) B.min (by decide +kernel) (pa_cons pe_int (pa_cons (pe_callB call_len_seq (by rfl) B.len PySem.boot_len (pa_cons (pv 0) pa_nil)) pa_nil))) pa_nil))) pa_nil)) (pg_name (i := 1) scL.nd rfl (Or.inl rfl)) (pss_cons (ps_set (i := 2) scL.nd rfl (Or.inl rfl) (pe_def DB hr1 rfl (pa_cons (pv 0) (pa_cons (pv 1) pa_nil)))) (pss_cons (ps_par (i := 3) (j := 4) (by rfl) scL.nd rfl rfl (by decide) rfl rfl (pa_cons (pe_def DTo hr15 rfl (pa_cons (pv 2) (pa_cons (pe_def DTk hr1 rfl (pa_cons (pv 2) (pa_cons pe_int pa_nil))) pa_nil))) (pa_cons (pe_def DTo hr15 rfl (pa_cons (pv 2) (pa_cons pe_int pa_nil))) pa_nil)) (by rfl)) (pss_cons (ps_set (i := 5) scL.nd rfl (Or.inl rfl) (pe_tup (pa_cons (pe_tup (pa_cons pe_str (pa_cons (pe_def DTk hr1 rfl (pa_cons (pv 2) (pa_cons pe_int pa_nil))) (pa_cons (pe_def DTh hr4 rfl (pa_cons (pv 2) (pa_cons (pe_def DTk hr1 rfl (pa_cons (pv 2) (pa_cons pe_int pa_nil))) pa_nil))) pa_nil)))) pa_nil))) (pss_cons (ps_set (i := 6) scL.nd rfl (Or.inl rfl) (pv 4)) (pss_cons (ps_for PassesOwn.never rfl (pi_range1 rfl B.range (pa_cons (pe_def DTk hr1 rfl (pa_cons (pv 2) (pa_cons pe_int pa_nil))) pa_nil)) (pg_name (i := 7) scL.nd rfl (Or.inl rfl)) (pss_one (ps_set (i := 6) scL.nd rfl (Or.inl rfl) (pe_ix (r := rIxL K) ix_list (pe_lst (pa_cons (pe_tup (pa_cons (pe_tup (pa_cons pe_str (pa_cons (pv 7) (pa_cons (pv 6) pa_nil)))) pa_nil)) (pa_cons (pe_tup (pa_cons (pe_tup (pa_cons pe_str (pa_cons (pe_op op_sub pe_int (pv 7)) (pa_cons (pe_tup pa_nil) (pa_cons (pv 6) pa_nil))))) pa_nil)) pa_nil))) (pe_def DTk hr1 rfl (pa_cons (pv 2) (pa_cons pe_int pa_nil))) (fun _ _ => rfl))))) (pss_cons (ps_for PassesOwn.never rfl (pi_list (pe_lst (pa_cons (pv 3) (pa_cons (pe_op (op_catR (C := C)) (pv 5) (pv 4)) (pa_cons (pv 6) (pa_cons (pe_tup pa_nil) (pa_cons (pv 3) pa_nil))))))) (pg_name (i := 8) scL.nd rfl (Or.inl rfl)) (pss_one (ps_if (pt_not (pt_val (pe_def DGd hr36 rfl (pa_cons (pv 8) pa_nil)))) (pss_one (ps_ret pe_bl)) pss_nil))) (pss_cons (ps_if (pt_not (pt_val (pe_def DGd hr36 rfl (pa_cons (pe_op (op_mulR (C := C)) (pe_tup (pa_cons (pe_tup (pa_cons pe_str (pa_cons pe_int (pa_cons pe_int (pa_cons pe_int pa_nil))))) pa_nil)) (pe_op op_add pe_int (pe_def DTk hr1 rfl (pa_cons (pv 2) (pa_cons pe_int pa_nil))))) pa_nil)))) (pss_one (ps_ret pe_bl)) pss_nil) (pss_one (ps_if (pt_not (pt_val (pe_def DGd hr36 rfl (pa_cons (pe_op (op_mulR (C := C)) (pv 4) (pe_def DTk hr1 rfl (pa_cons (pv 2) (pa_cons pe_int pa_nil)))) pa_nil)))) (pss_one (ps_ret pe_bl)) pss_nil)))))))))) (pss_one (ps_ret (pe_and (pe_def DGd hr36 rfl (pa_cons (pe_op (op_mulR (C := C)) (pe_tup (pa_cons (pe_tup (pa_cons pe_str (pa_cons pe_int (pa_cons pe_int pa_nil)))) pa_nil)) pe_int) pa_nil)) (pe_one (pe_cmpR op_eq (pe_callTy (call_strT SS hr4) (by rfl) B.str PyProof.Rows.boot_str (pa_cons (pe_def DCo hr33 rfl (pa_cons (pe_P MP hr15 rfl (pa_cons (pe_tup pa_nil) pa_nil)) pa_nil)) pa_nil)) pe_str (nomark _)))))), ?_⟩
    have hsl := line4
    refine ⟨_, rfl, a, _, rfl, .inl hS, _, _, rfl, _, _, rfl, ?_⟩
    rw [List.length_map]
    have hj := mult25 ns.length
    revert hj
    generalize (if (if ((ns.length : Nat) : Int) < 5 then ((ns.length : Nat) : Int) else 5) > 2 then (if ((ns.length : Nat) : Int) < 5 then ((ns.length : Nat) : Int) else 5) else 2) = j
    intro hj
    refine ⟨j, rfl, by omega, by omega, for_range (n := j.toNat) (fun i σ H' => ∃ x1 x2 x3 x4 x5 x6 x7 x8 : Option V, σ = [some (.ref a), x1, x2, x3, x4, x5, x6, x7, x8] ∧ Same H H') ⟨none, none, none, none, none, none, none, none, rfl, Same.refl H⟩ ?_ ?_⟩
    · rintro i σ H0 hi ⟨x1, x2, x3, x4, x5, x6, x7, x8, rfl, s0⟩
      refine ⟨_, rfl, _, rfl, a, ns, i, by rw [Int.zero_add]; rfl, s0.seq hS, by omega, fun p H1 sb np hbag => ?_⟩
      have hp0 : H p = none := s0.free np
      have nep : ∀ {G : Hp} {D : Addr}, BagOk G p → G D = none → D ≠ p := fun bag n z => by
        obtain ⟨bx, hbx⟩ := bag.some
        rw [z, hbx] at n
        cases n
      have fin : ∀ {G : Hp}, KB p H1 G → Same H G := fun kb b o h => kb _ _ (ne_of_none h hp0) (sb _ _ (s0 _ _ h))
      refine ⟨_, rfl, _, rfl, p, 31, rfl, hbag, by decide, by decide, fun d2 H2 k2 b2 d20 d21 => ?_⟩
      obtain ⟨n2, rfl⟩ := Int.eq_ofNat_of_zero_le d20
      refine ⟨p, n2, rfl, b2, by omega, fun q r H3 k3 b3 hq hd hm hs => ?_⟩
      refine ⟨_, rfl, p, 8, rfl, b3, by omega, fun o u H4 k4 b4 ho hdo hmo hso => ?_⟩
      have hq4 := hq.kt (b3.kt k4)
      have kb14 := (k2.trans k3).trans k4
      refine ⟨_, _, rfl, ?_⟩
      have okq : okR r := by
        obtain ⟨vs, _, h2⟩ := hq
        exact DsAt_ok r vs h2
      have oko : okR u := by
        obtain ⟨vs, _, h2⟩ := ho
        exact DsAt_ok u vs h2
      have csq := codeR_sizeB r okq hs
      have cso := codeR_sizeB u oko hso
      have lnu := len_many u
      -- much
      refine ⟨_, rfl, p, 10, rfl, b4, by decide, by decide, fun na H5 k5 b5 na0 na1 => ?_⟩
      obtain ⟨na, rfl⟩ := Int.eq_ofNat_of_zero_le na0
      refine ⟨_, rfl, _, rfl, p, 41, rfl, b5, by decide, by decide, fun nt H6 k6 b6 nt0 nt1 => ?_⟩
      obtain ⟨nt, rfl⟩ := Int.eq_ofNat_of_zero_le nt0
      refine ⟨p, nt, rfl, b6, by omega, fun x t H7 k7 b7 hx hxz => ?_⟩
      refine ⟨by show 3 ≤ sizeLine; decide, fun T nT => ?_⟩
      have s8 := Same.new nT (o := .tup [.str "told", .int ((na : Nat) : Int), .ref x])
      have eT : (upd H7 T (.tup [.str "told", .int ((na : Nat) : Int), .ref x])) T = some (.tup [.str "told", .int ((na : Nat) : Int), .ref x]) := upd_same
      revert s8 eT
      generalize upd H7 T (.tup [.str "told", .int ((na : Nat) : Int), .ref x]) = H8
      intro s8 eT
      refine ⟨by show 1 ≤ sizeLine; decide, fun T1 nT1 => ?_⟩
      have s9 := Same.new nT1 (o := .tup [.ref T])
      have eT1 : (upd H8 T1 (.tup [.ref T])) T1 = some (.tup [.ref T]) := upd_same
      revert s9 eT1
      generalize upd H8 T1 (.tup [.ref T]) = H9
      intro s9 eT1
      have s79 := s8.trans s9
      have b9 := b7.same s79
      have kt49 : KT H4 H9 := (((b4.kt k5).trans (b5.kt k6)).trans (b6.kt k7)).trans (KT.of s79)
      have kb49 : KB p H4 H9 := ((k5.trans k6).trans k7).trans (KB.of s79)
      have kb19 := kb14.trans kb49
      have hmu : RAt K C H9 T1 [.told na t] := ⟨_, SqT.of eT1, _, _, rfl, ⟨T, x, rfl, SqT.of (s9 _ _ eT), by omega, hx.same s79, by omega⟩, rfl⟩
      have hq9 := hq4.kt kt49
      have ho9 := ho.kt kt49
      -- deep
      refine ⟨_, rfl, ?_⟩
      refine ⟨_, rfl, p, 5, rfl, b9, by decide, by decide, fun nf HA kA bA nf0 nf1 => ?_⟩
      obtain ⟨nf, rfl⟩ := Int.eq_ofNat_of_zero_le nf0
      have ktA := b9.kt kA
      refine ⟨_, rfl, by omega, by omega, for_range (n := ((nf : Nat) : Int).toNat) (fun m σ H' => ∃ (y7 : Option V) (q' : Addr) (r' : List Dd), σ = [some (.ref a), some (.int (0 + ((i : Nat) : Int))), some (.ref p), some (.ref q), some (.ref o), some (.ref T1), some (.ref q'), y7, x8] ∧ KB p HA H' ∧ KT HA H' ∧ BagOk H' p ∧ RAt K C H' q' r' ∧ deepR r' ≤ 4 + m ∧ manyR r' ≤ 16 + m ∧ (codeR r').size ≤ 600 + 100 * m)
        ⟨_, _, u, rfl, KB.refl _ _, KT.of (Same.refl _), bA, ho9.kt ktA, by omega, by omega, by omega⟩ ?_ ?_⟩
      · rintro m σ HB hm5 ⟨y7, q', r', rfl, kB, ktB, bB, hq', hd', hm', hz'⟩
        have hm4 : m ≤ 3 := by omega
        refine ⟨_, rfl, _, rfl, by show 3 ≤ sizeLine; decide, fun W1 nW1 => ?_⟩
        have sC := Same.new nW1 (o := .tup [.str "while", .int (0 + ((m : Nat) : Int)), .ref q'])
        have eW1 : (upd HB W1 (.tup [.str "while", .int (0 + ((m : Nat) : Int)), .ref q'])) W1 = some (.tup [.str "while", .int (0 + ((m : Nat) : Int)), .ref q']) := upd_same
        revert sC eW1
        generalize upd HB W1 (.tup [.str "while", .int (0 + ((m : Nat) : Int)), .ref q']) = HC
        intro sC eW1
        refine ⟨by show 1 ≤ sizeLine; decide, fun W2 nW2 => ?_⟩
        have sD := Same.new nW2 (o := .tup [.ref W1])
        have eW2 : (upd HC W2 (.tup [.ref W1])) W2 = some (.tup [.ref W1]) := upd_same
        revert sD eW2
        generalize upd HC W2 (.tup [.ref W1]) = HD
        intro sD eW2
        refine ⟨_, rfl, _, _, rfl, rfl, by show 0 ≤ sizeLine; decide, fun N1 nN1 => ?_⟩
        have sE := Same.new nN1 (o := .tup [])
        have eN1 : (upd HD N1 (.tup [])) N1 = some (.tup []) := upd_same
        revert sE eN1
        generalize upd HD N1 (.tup []) = HE
        intro sE eN1
        refine ⟨_, rfl, by show 4 ≤ sizeLine; decide, fun W3 nW3 => ?_⟩
        have sF := Same.new nW3 (o := .tup [.str "if", .int (9 - (0 + ((m : Nat) : Int))), .ref N1, .ref q'])
        have eW3 : (upd HE W3 (.tup [.str "if", .int (9 - (0 + ((m : Nat) : Int))), .ref N1, .ref q'])) W3 = some (.tup [.str "if", .int (9 - (0 + ((m : Nat) : Int))), .ref N1, .ref q']) := upd_same
        revert sF eW3
        generalize upd HE W3 (.tup [.str "if", .int (9 - (0 + ((m : Nat) : Int))), .ref N1, .ref q']) = HF
        intro sF eW3
        refine ⟨by show 1 ≤ sizeLine; decide, fun W4 nW4 => ?_⟩
        have sG := Same.new nW4 (o := .tup [.ref W3])
        have eW4 : (upd HF W4 (.tup [.ref W3])) W4 = some (.tup [.ref W3]) := upd_same
        revert sG eW4
        generalize upd HF W4 (.tup [.ref W3]) = HG
        intro sG eW4
        refine ⟨by show 2 ≤ sizeLine; decide, fun Ls nLs => ?_⟩
        have sI := Same.new nLs (o := .lst [.ref W2, .ref W4])
        have eLs : (upd HG Ls (.lst [.ref W2, .ref W4])) Ls = some (.lst [.ref W2, .ref W4]) := upd_same
        revert sI eLs
        generalize upd HG Ls (.lst [.ref W2, .ref W4]) = HI
        intro sI eLs
        have eW1' : HC W1 = some (.tup [.str "while", .int ((m : Nat) : Int), .ref q']) := by rw [eW1, Int.zero_add]
        have eW3' : HF W3 = some (.tup [.str "if", .int ((9 - m : Nat) : Int), .ref N1, .ref q']) := by
          rw [eW3, Int.zero_add]
          congr 6
          omega
        have sDI := ((sE.trans sF).trans sG).trans sI
        have sCI := sD.trans sDI
        have sBI := sC.trans sCI
        have bI := bB.same sBI
        refine ⟨_, rfl, p, 2, rfl, bI, by decide, by decide, fun w HJ kJ bJ w0 w1 => ?_⟩
        have ktJ := bI.kt kJ
        have nLp : Ls ≠ p := nep (bB.same ((((sC.trans sD).trans sE).trans sF).trans sG)) nLs
        have hqJ := (hq'.same sBI).kt ktJ
        have ktIJ : KT HI HJ := ktJ
        obtain ⟨vs', g1, g2⟩ := hqJ
        have kbJ : KB p HA HJ := kB.trans ((KB.of sBI).trans kJ)
        have kt2J : KT HA HJ := ktB.trans ((KT.of sBI).trans ktJ)
        have cw := wh_size m r'
        have cf := iff_size (9 - m) [] r'
        have e0 : (codeR []).size = 0 := by rw [codeR]; rfl
        have dw : deepR [Dd.wh m r'] = deepR r' + 1 := by rw [deepR_one, Dd.deep]
        have df : deepR [Dd.iff (9 - m) [] r'] ≤ deepR r' + 1 := by
          rw [deepR_one, Dd.deep]
          exact Nat.succ_le_succ (Nat.max_le.mpr ⟨Nat.zero_le _, Nat.le_refl _⟩)
        have mw : manyR [Dd.wh m r'] = manyR r' + 1 := by rw [manyR_one, many_wh]
        have mf : manyR [Dd.iff (9 - m) [] r'] = manyR r' + 1 := by rw [manyR_one, many_iff, many_nil, Nat.zero_add]
        obtain ⟨w, rfl⟩ := Int.eq_ofNat_of_zero_le w0
        match w, w1 with
        | 0, _ =>
          have hR : RAt K C HJ W2 [.wh m r'] := ⟨_, sqt_kt ktJ (SqT.of (sDI _ _ eW2)), _, _, rfl, ⟨W1, q', vs', rfl, sqt_kt ktJ (SqT.of (sCI _ _ eW1')), by omega, g1, g2⟩, rfl⟩
          exact ⟨Ls, _, _, _, rfl, rfl, SqL.of (kJ _ _ nLp eLs), at0 _ _, _, W2, _, rfl, kbJ, kt2J, bJ, hR, by omega, by omega, by omega⟩
        | 1, _ =>
          have hR : RAt K C HJ W4 [.iff (9 - m) [] r'] := ⟨_, sqt_kt ktJ (SqT.of (sI _ _ eW4)), _, _, rfl, ⟨W3, N1, [], q', vs', rfl, sqt_kt ktJ (SqT.of ((sG.trans sI) _ _ eW3')), by omega, sqt_kt ktJ (SqT.of (((sF.trans sG).trans sI) _ _ eN1)), rfl, g1, g2⟩, rfl⟩
          exact ⟨Ls, _, _, _, rfl, rfl, SqL.of (kJ _ _ nLp eLs), at1_16 _ _, _, W4, _, rfl, kbJ, kt2J, bJ, hR, by omega, by omega, by omega⟩
        | w + 2, h => exact absurd h (by omega)
      rintro σ HB ⟨y7, q', r', rfl, kB, ktB, bB, hq', hd', hm', hz'⟩
      have hnf : ((nf : Nat) : Int).toNat ≤ 4 := by omega
      revert hd' hm' hz' hnf
      generalize ((nf : Nat) : Int).toNat = nn
      intro hd' hm' hz' hnn
      have ktAB := ktA.trans ktB
      have hqB := hq9.kt ktAB
      have hoB := ho9.kt ktAB
      have hmuB := hmu.kt ktAB
      have eall := told_size na t
      refine ⟨_, rfl, _, rfl, _, rfl, T1, o, [.told na t], u, rfl, rfl, hmuB, hoB, by show 1 + u.length ≤ _; omega, fun q3 HC sC hq3 => ?_⟩
      refine ⟨_, rfl, by show 0 ≤ sizeLine; decide, fun N2 nN2 => ?_⟩
      have sD := Same.new nN2 (o := .tup [])
      have eN2 : (upd HC N2 (.tup [])) N2 = some (.tup []) := upd_same
      revert sD eN2
      generalize upd HC N2 (.tup []) = HD
      intro sD eN2
      refine ⟨_, rfl, by show 5 ≤ sizeLine; decide, fun Ls nLs => ?_⟩
      have sE := Same.new nLs (o := .lst [.ref q, .ref q3, .ref q', .ref N2, .ref q])
      have eLs : (upd HD Ls (.lst [.ref q, .ref q3, .ref q', .ref N2, .ref q])) Ls = some (.lst [.ref q, .ref q3, .ref q', .ref N2, .ref q]) := upd_same
      revert sE eLs
      generalize upd HD Ls (.lst [.ref q, .ref q3, .ref q', .ref N2, .ref q]) = HE
      intro sE eLs
      have sDE := sD.trans sE
      have sCE := sC.trans sDE
      have fit : ∀ v ∈ [V.ref q, .ref q3, .ref q', .ref N2, .ref q], ∃ z rz, v = .ref z ∧ RAt K C HE z rz ∧ deepR rz ≤ 8 ∧ manyR rz ≤ 4000 ∧ (codeR rz).size ≤ 100000 := by
        intro v hv
        simp only [List.mem_cons, List.not_mem_nil, or_false] at hv
        rcases hv with rfl | rfl | rfl | rfl | rfl
        · exact ⟨_, r, rfl, hqB.same sCE, by omega, by omega, by omega⟩
        · refine ⟨_, _, rfl, hq3.same sDE, ?_, ?_, ?_⟩
          · rw [deepR_app, deepR_one, Dd.deep]
            exact Nat.max_le.mpr ⟨Nat.zero_le _, by omega⟩
          · rw [manyR_app, manyR_one, many_told]
            omega
          · rw [codeR_app]
            omega
        · exact ⟨_, r', rfl, hq'.same sCE, by omega, by omega, by omega⟩
        · exact ⟨_, [], rfl, ⟨_, SqT.of (sE _ _ eN2), rfl⟩, Nat.zero_le _, Nat.zero_le _, Nat.zero_le _⟩
        · exact ⟨_, r, rfl, hqB.same sCE, by omega, by omega, by omega⟩
      refine ⟨Ls, rfl, ⟨_, SqL.of eLs⟩, for_list (K := K) (a := Ls) (xs := [V.ref q, .ref q3, .ref q', .ref N2, .ref q]) (fun j σ H' => ∃ y8 : Option V, σ = [some (.ref a), some (.int (0 + ((i : Nat) : Int))), some (.ref p), some (.ref q), some (.ref o), some (.ref T1), some (.ref q'), y7, y8] ∧ Same HE H') ⟨_, rfl, Same.refl _⟩ (fun j σ H' _ z => by obtain ⟨_, _, h⟩ := z; exact SqL.of (h _ _ eLs)) ?_ ?_⟩
      · rintro j v σ HF hv ⟨y8, rfl, sF⟩
        obtain ⟨z, rz, rfl, hz, hz1, hz2, hz3⟩ := fit v (List.mem_of_getElem? hv)
        refine ⟨_, rfl, z, rz, rfl, hz.same sF, hz1, hz2, hz3, fun HG sG => ⟨_, rfl, iteF ?_⟩⟩
        exact ⟨_, rfl, sF.trans sG⟩
      rintro σ HF ⟨y8, rfl, sF⟩
      have sBF := sCE.trans sF
      have bF := bB.same sBF
      have kb1F : KB p H1 HF := ((kb19.trans kA).trans kB).trans (KB.of sBF)
      have hoF := hoB.same sBF
      -- pairs
      refine ⟨by show 4 ≤ sizeLine; decide, fun P1 nP1 => ?_⟩
      have sG := Same.new nP1 (o := .tup [.str "pair", .int 9, .int 8, .int 7])
      have eP1 : (upd HF P1 (.tup [.str "pair", .int 9, .int 8, .int 7])) P1 = some (.tup [.str "pair", .int 9, .int 8, .int 7]) := upd_same
      revert sG eP1
      generalize upd HF P1 (.tup [.str "pair", .int 9, .int 8, .int 7]) = HG
      intro sG eP1
      refine ⟨by show 1 ≤ sizeLine; decide, fun P2 nP2 => ?_⟩
      have sI := Same.new nP2 (o := .tup [.ref P1])
      have eP2 : (upd HG P2 (.tup [.ref P1])) P2 = some (.tup [.ref P1]) := upd_same
      revert sI eP2
      generalize upd HG P2 (.tup [.ref P1]) = HI
      intro sI eP2
      have sFI := sG.trans sI
      have bI := bF.same sFI
      refine ⟨_, rfl, p, 60, rfl, bI, by decide, by decide, fun e HJ kJ bJ e0' e1 => ?_⟩
      obtain ⟨e, rfl⟩ := Int.eq_ofNat_of_zero_le e0'
      have nP1p : P1 ≠ p := nep bF nP1
      have nP2p : P2 ≠ p := nep (bF.same sG) nP2
      have hpr : RAt K C HJ P2 [.two false 9 8 7] := ⟨_, SqT.of (kJ _ _ nP2p eP2), _, _, rfl, ⟨P1, rfl, SqT.of (kJ _ _ nP1p (sI _ _ eP1)), by decide, by decide, by decide⟩, rfl⟩
      refine ⟨_, _, rfl, rfl, P2, [.two false 9 8 7], 100 + e, rfl, by rw [Int.natCast_add]; rfl, hpr, by omega, by decide, fun q6 HK sK hq6 => ?_⟩
      have c32 : (codeR [Dd.two false 9 8 7]).size = 32 := by decide +kernel
      have c1 : manyR [Dd.two false 9 8 7] = 1 := rfl
      have c0 : deepR [Dd.two false 9 8 7] = 0 := by rw [deepR_one, Dd.deep]
      have m6 := mul_many [Dd.two false 9 8 7] (100 + e)
      have z6 := mul_size [Dd.two false 9 8 7] (100 + e)
      have d6 := mul_deep [Dd.two false 9 8 7] (100 + e)
      rw [c1] at m6
      rw [c32] at z6
      rw [c0] at d6
      refine ⟨q6, _, rfl, hq6, by omega, by omega, by omega, fun HL sL => ⟨_, rfl, iteF ?_⟩⟩
      have sJL := sK.trans sL
      have ktFL := ((KT.of sFI).trans (bI.kt kJ)).trans (KT.of sJL)
      have bL := bJ.same sJL
      have kb1L : KB p H1 HL := (kb1F.trans (KB.of sFI)).trans (kJ.trans (KB.of sJL))
      refine ⟨_, rfl, _, rfl, p, 60, rfl, bL, by decide, by decide, fun e2 HM kM bM e20 e21 => ?_⟩
      obtain ⟨e2, rfl⟩ := Int.eq_ofNat_of_zero_le e20
      refine ⟨o, u, e2, rfl, rfl, (hoF.kt ktFL).kt (bL.kt kM), by omega, by omega, fun q7 HN sN hq7 => ?_⟩
      have m7 := mul_many u e2
      have z7 := mul_size u e2
      have d7 := mul_deep u e2
      have b71 : e2 * manyR u ≤ 59 * 16 := Nat.mul_le_mul (by omega) hmo
      have b72 : e2 * (codeR u).size ≤ 59 * (36 * 16) := Nat.mul_le_mul (by omega) (by omega)
      refine ⟨q7, _, rfl, hq7, by omega, by omega, by omega, fun HO sO => ⟨_, rfl, iteF ?_⟩⟩
      exact ⟨_, _, _, _, _, _, _, _, rfl, fin ((kb1L.trans kM).trans (KB.of (sN.trans sO)))⟩
    · rintro σ H0 ⟨x1, x2, x3, x4, x5, x6, x7, x8, rfl, s0⟩
      refine ⟨by show 3 ≤ sizeLine; decide, fun P1 nP1 => ?_⟩
      have sG := Same.new nP1 (o := .tup [.str "first", .int 0, .int 0])
      have eP1 : (upd H0 P1 (.tup [.str "first", .int 0, .int 0])) P1 = some (.tup [.str "first", .int 0, .int 0]) := upd_same
      revert sG eP1
      generalize upd H0 P1 (.tup [.str "first", .int 0, .int 0]) = HG
      intro sG eP1
      refine ⟨by show 1 ≤ sizeLine; decide, fun P2 nP2 => ?_⟩
      have sI := Same.new nP2 (o := .tup [.ref P1])
      have eP2 : (upd HG P2 (.tup [.ref P1])) P2 = some (.tup [.ref P1]) := upd_same
      revert sI eP2
      generalize upd HG P2 (.tup [.ref P1]) = HI
      intro sI eP2
      have hpr : RAt K C HI P2 [.take false 0 0] := ⟨_, SqT.of eP2, _, _, rfl, ⟨P1, rfl, SqT.of (sI _ _ eP1), by decide, by decide⟩, rfl⟩
      refine ⟨P2, [.take false 0 0], 1000, rfl, rfl, hpr, by decide, by decide, fun q6 HK sK hq6 => ?_⟩
      have c5 : (codeR [Dd.take false 0 0]).size = 5 := by decide +kernel
      have c1 : manyR [Dd.take false 0 0] = 1 := rfl
      have c0 : deepR [Dd.take false 0 0] = 0 := by rw [deepR_one, Dd.deep]
      have m6 := mul_many [Dd.take false 0 0] 1000
      have z6 := mul_size [Dd.take false 0 0] 1000
      have d6 := mul_deep [Dd.take false 0 0] 1000
      rw [c1] at m6
      rw [c5] at z6
      rw [c0] at d6
      refine ⟨q6, _, rfl, hq6, by omega, by omega, by omega, fun HL sL => ⟨true, rfl, iteT ?_⟩⟩
      refine ⟨by show 0 ≤ sizeLine; decide, fun N2 nN2 => ?_⟩
      have sM := Same.new nN2 (o := .tup [])
      have eN2 : (upd HL N2 (.tup [])) N2 = some (.tup []) := upd_same
      revert sM eN2
      generalize upd HL N2 (.tup []) = HM
      intro sM eN2
      refine ⟨N2, [], rfl, ⟨_, SqT.of eN2, rfl⟩, Nat.zero_le _, Nat.zero_le _, fun z HN sN nz hz => ?_⟩
      have e0 : (codeR []).size = 0 := by rw [codeR]; rfl
      refine ⟨z, [], rfl, hz, by omega, fun c HO sO hc => ?_⟩
      refine ⟨c, codeR [], rfl, hc, by omega, fun HP sP => ?_⟩
      refine ⟨rfl, ?_⟩
      have et : (codeR []).text = "." := by decide +kernel
      rw [et, decide_eq_true rfl]
      exact k HP
end
end Js

set_option Elab.async false
set_option linter.all false
set_option maxRecDepth 100000
set_option maxHeartbeats 4000000
namespace Js
open PySem L2 PyProof.Rows
theorem all_mk {P : Program} {w : World} {K : PySem.W.Frag} {h : Heap} {mg : Str → Option Value} {fa C : Addr} (X : K.In h) (G : h.Ns mainGlobals mg) (hfa : mg "law" = some (.ref fa))
    {tM : Tok}
    {oI : Value} {odI anI odT : Option Addr} {slI slT : Array (Option Value)} {kVI dcI pmI cdI ctI ocT : Value} {fI TI : Addr} {nT : Nat}
    {fEq : Addr} {ocEq kVEq dcEq pmEq cdEq ctEq : Value} {odEq anEq : Option Addr} {slEq : Array (Option Value)}
    {fLn : Addr} {ocLn kVLn dcLn pmLn cdLn ctLn : Value} {odLn anLn : Option Addr} {slLn : Array (Option Value)}
    {fSt : Addr} {ocSt kVSt dcSt pmSt cdSt ctSt : Value} {odSt anSt : Option Addr} {slSt : Array (Option Value)}
    {fPa : Addr} {ocPa kVPa dcPa pmPa cdPa ctPa : Value} {odPa anPa : Option Addr} {slPa : Array (Option Value)}
    {fAl : Addr} {ocAl kVAl dcAl pmAl cdAl ctAl : Value} {odAl anAl : Option Addr} {slAl : Array (Option Value)}
    {fSg : Addr} {ocSg kVSg dcSg pmSg cdSg ctSg : Value} {odSg anSg : Option Addr} {slSg : Array (Option Value)}
    {fIn : Addr} {ocIn kVIn dcIn pmIn cdIn ctIn : Value} {odIn anIn : Option Addr} {slIn : Array (Option Value)}
    {fFt : Addr} {ocFt kVFt dcFt pmFt cdFt ctFt : Value} {odFt anFt : Option Addr} {slFt : Array (Option Value)}
    {fHf : Addr} {ocHf kVHf dcHf pmHf cdHf ctHf : Value} {odHf anHf : Option Addr} {slHf : Array (Option Value)}
    {fRi : Addr} {ocRi kVRi dcRi pmRi cdRi ctRi : Value} {odRi anRi : Option Addr} {slRi : Array (Option Value)}
    {fLk : Addr} {ocLk kVLk dcLk pmLk cdLk ctLk : Value} {odLk anLk : Option Addr} {slLk : Array (Option Value)}
    {fLy : Addr} {ocLy kVLy dcLy pmLy cdLy ctLy : Value} {odLy anLy : Option Addr} {slLy : Array (Option Value)}
    {fNu : Addr} {ocNu kVNu dcNu pmNu cdNu ctNu : Value} {odNu anNu : Option Addr} {slNu : Array (Option Value)}
    {fRo : Addr} {ocRo kVRo dcRo pmRo cdRo ctRo : Value} {odRo anRo : Option Addr} {slRo : Array (Option Value)}
    {fCo : Addr} {ocCo kVCo dcCo pmCo cdCo ctCo : Value} {odCo anCo : Option Addr} {slCo : Array (Option Value)}
    {fRc : Addr} {ocRc kVRc dcRc pmRc cdRc ctRc : Value} {odRc anRc : Option Addr} {slRc : Array (Option Value)}
    {fDc : Addr} {ocDc kVDc dcDc pmDc cdDc ctDc : Value} {odDc anDc : Option Addr} {slDc : Array (Option Value)}
    {fPc : Addr} {ocPc kVPc dcPc pmPc cdPc ctPc : Value} {odPc anPc : Option Addr} {slPc : Array (Option Value)}
    {fCn : Addr} {ocCn kVCn dcCn pmCn cdCn ctCn : Value} {odCn anCn : Option Addr} {slCn : Array (Option Value)}
    {fPp : Addr} {ocPp kVPp dcPp pmPp cdPp ctPp : Value} {odPp anPp : Option Addr} {slPp : Array (Option Value)}
    {fPo : Addr} {ocPo kVPo dcPo pmPo cdPo ctPo : Value} {odPo anPo : Option Addr} {slPo : Array (Option Value)}
    {fOt : Addr} {ocOt kVOt dcOt pmOt cdOt ctOt : Value} {odOt anOt : Option Addr} {slOt : Array (Option Value)}
    {fDt : Addr} {ocDt kVDt dcDt pmDt cdDt ctDt : Value} {odDt anDt : Option Addr} {slDt : Array (Option Value)}
    {fKt : Addr} {ocKt kVKt dcKt pmKt cdKt ctKt : Value} {odKt anKt : Option Addr} {slKt : Array (Option Value)}
    {fPt : Addr} {ocPt kVPt dcPt pmPt cdPt ctPt : Value} {odPt anPt : Option Addr} {slPt : Array (Option Value)}
    {fIc : Addr} {ocIc kVIc dcIc pmIc cdIc ctIc : Value} {odIc anIc : Option Addr} {slIc : Array (Option Value)}
    {fBa : Addr} {ocBa kVBa dcBa pmBa cdBa ctBa : Value} {odBa anBa : Option Addr} {slBa : Array (Option Value)}
    {fTa : Addr} {ocTa kVTa dcTa pmTa cdTa ctTa : Value} {odTa anTa : Option Addr} {slTa : Array (Option Value)}
    {fTh : Addr} {ocTh kVTh dcTh pmTh cdTh ctTh : Value} {odTh anTh : Option Addr} {slTh : Array (Option Value)}
    {fNa : Addr} {ocNa kVNa dcNa pmNa cdNa ctNa : Value} {odNa anNa : Option Addr} {slNa : Array (Option Value)}
    {fDe : Addr} {ocDe kVDe dcDe pmDe cdDe ctDe : Value} {odDe anDe : Option Addr} {slDe : Array (Option Value)}
    {fDs : Addr} {ocDs kVDs dcDs pmDs cdDs ctDs : Value} {odDs anDs : Option Addr} {slDs : Array (Option Value)}
    {fTo : Addr} {ocTo kVTo dcTo pmTo cdTo ctTo : Value} {odTo anTo : Option Addr} {slTo : Array (Option Value)}
    {fNt : Addr} {ocNt kVNt dcNt pmNt cdNt ctNt : Value} {odNt anNt : Option Addr} {slNt : Array (Option Value)}
    {fRtx : Addr} {ocRtx kVRtx dcRtx pmRtx cdRtx ctRtx : Value} {odRtx anRtx : Option Addr} {slRtx : Array (Option Value)}
    {fLc : Addr} {ocLc kVLc dcLc pmLc cdLc ctLc : Value} {odLc anLc : Option Addr} {slLc : Array (Option Value)}
    {fGd : Addr} {ocGd kVGd dcGd pmGd cdGd ctGd : Value} {odGd anGd : Option Addr} {slGd : Array (Option Value)}
    {fLaw : Addr} {ocLaw kVLaw dcLaw pmLaw cdLaw ctLaw : Value} {odLaw anLaw : Option Addr} {slLaw : Array (Option Value)}
    {CP dF : Addr} {esF : Array DictEntry} {nFm : Nat} {tN1 tN2 tN3 tf0 tf1 tf2 tf3 tf4 tf5 tf6 : Tok}
    {fPI : Addr} {ocPI kVPI dcPI pmPI cdPI ctPI : Value} {odPI anPI : Option Addr} {slPI : Array (Option Value)}
    {fPL : Addr} {ocPL kVPL dcPL pmPL cdPL ctPL : Value} {odPL anPL : Option Addr} {slPL : Array (Option Value)}
    {fPE : Addr} {ocPE kVPE dcPE pmPE cdPE ctPE : Value} {odPE anPE : Option Addr} {slPE : Array (Option Value)}
    {N fN : Addr} {nmN qN : Str} {NN : Addr} {bsN : List Value} {snN : List Str} {subN : List Value} {abN : Bool} {colN : Option Bool} {ddN : Option Addr} {m0N m1N m2N m3N m5N : Option Value}
    {ocN kVN dcN pmN cdN ctN : Value} {odN anN : Option Addr} {slN : Array (Option Value)}
    {n1 n2 n3 n4 n5 n6 : Addr}
    (aC : PySem.W.nsIn K mainGlobals "Thing" = some (some (.ref C)))
    (pg : PySem.W.plainGet K C Str.empty = true)
    (hd : PySem.W.hasDictIn K C = true)
    (po : PySem.W.plainOver K C = true)
    (sa : PySem.W.findIn K (.ref C) "__setattr__" = some (some (.builtin "object.__setattr__")))
    (mkC : PySem.W.makesIn K C = true)
    (kc : PySem.W.keepIn K (.ref C) = true)
    (nF : PySem.W.findIn K (.ref C) "first" = some none)
    (nS : PySem.W.findIn K (.ref C) "second" = some none)
    (nZ : PySem.W.findIn K (.ref C) "size" = some none)
    (ca : PySem.W.findIn K (.ref C) "__class__" = some (some (.builtin "object.__class__")))
    (cn : PySem.W.specialIn K (.builtin "object.__class__") "__get__" = some (some (.builtin "getset_descriptor.__get__")))
    (ct : PySem.W.takesIn K (.builtin "object.__class__") = some true)
    (cm : PySem.W.mroIn K C (.type "object") = some true)
    (neC : PySem.W.findIn K (.ref C) "__ne__" = some (some (.builtin "object.__ne__")))
    (aM : PySem.W.nsIn K mainGlobals "MOST_PAIRS" = some (some (.int 4000 tM)))
    (aI : PySem.W.findIn K (.ref C) "__init__" = some (some (.ref fI)))
    (iI : PySem.W.isFn K (.ref fI) = true)
    (lI : K.lookup fI = some ⟨oI, odI, .func (PySem.W.fnOf "__init__" "Thing.__init__" (defArgs sInit) (defBody sInit) (defScope sInit) (.ref TI) kVI dcI pmI anI cdI ctI), slI⟩)
    (cI : PySem.W.codeIn K cdI "Thing.__init__" = true)
    (kI : PySem.W.keepIn K (.ref fI) = true)
    (lT : K.lookup TI = some ⟨ocT, odT, .seq #[.none, .none] nT, slT⟩)
    (aEq : PySem.W.findIn K (.ref C) "__eq__" = some (some (.ref fEq)))
    (iEq : PySem.W.isFn K (.ref fEq) = true)
    (lEq : K.lookup fEq = some ⟨ocEq, odEq, .func (PySem.W.fnOf "__eq__" "Thing.__eq__" (defArgs sEq) (defBody sEq) (defScope sEq) .none kVEq dcEq pmEq anEq cdEq ctEq), slEq⟩)
    (cEq : PySem.W.codeIn K cdEq "Thing.__eq__" = true)
    (kEq : PySem.W.keepIn K (.ref fEq) = true)
    (aLn : PySem.W.findIn K (.ref C) "__len__" = some (some (.ref fLn)))
    (iLn : PySem.W.isFn K (.ref fLn) = true)
    (lLn : K.lookup fLn = some ⟨ocLn, odLn, .func (PySem.W.fnOf "__len__" "Thing.__len__" (defArgs sLen) (defBody sLen) (defScope sLen) .none kVLn dcLn pmLn anLn cdLn ctLn), slLn⟩)
    (cLn : PySem.W.codeIn K cdLn "Thing.__len__" = true)
    (kLn : PySem.W.keepIn K (.ref fLn) = true)
    (aSt : PySem.W.findIn K (.ref C) "__str__" = some (some (.ref fSt)))
    (iSt : PySem.W.isFn K (.ref fSt) = true)
    (lSt : K.lookup fSt = some ⟨ocSt, odSt, .func (PySem.W.fnOf "__str__" "Thing.__str__" (defArgs sStr) (defBody sStr) (defScope sStr) .none kVSt dcSt pmSt anSt cdSt ctSt), slSt⟩)
    (cSt : PySem.W.codeIn K cdSt "Thing.__str__" = true)
    (kSt : PySem.W.keepIn K (.ref fSt) = true)
    (aPa : PySem.W.nsIn K mainGlobals "pairs_in" = some (some (.ref fPa)))
    (lPa : K.lookup fPa = some ⟨ocPa, odPa, .func (PySem.W.fnOf "pairs_in" "pairs_in" (defArgs sPairs) (defBody sPairs) (defScope sPairs) .none kVPa dcPa pmPa anPa cdPa ctPa), slPa⟩)
    (cPa : PySem.W.codeIn K cdPa "pairs_in" = true)
    (kPa : PySem.W.keepIn K (.ref fPa) = true)
    (aAl : PySem.W.nsIn K mainGlobals "alike" = some (some (.ref fAl)))
    (lAl : K.lookup fAl = some ⟨ocAl, odAl, .func (PySem.W.fnOf "alike" "alike" (defArgs sAlike) (defBody sAlike) (defScope sAlike) .none kVAl dcAl pmAl anAl cdAl ctAl), slAl⟩)
    (cAl : PySem.W.codeIn K cdAl "alike" = true)
    (kAl : PySem.W.keepIn K (.ref fAl) = true)
    (aSg : PySem.W.nsIn K mainGlobals "signs" = some (some (.ref fSg)))
    (lSg : K.lookup fSg = some ⟨ocSg, odSg, .func (PySem.W.fnOf "signs" "signs" (defArgs sSigns) (defBody sSigns) (defScope sSigns) .none kVSg dcSg pmSg anSg cdSg ctSg), slSg⟩)
    (cSg : PySem.W.codeIn K cdSg "signs" = true)
    (kSg : PySem.W.keepIn K (.ref fSg) = true)
    (aIn : PySem.W.nsIn K mainGlobals "is_name" = some (some (.ref fIn)))
    (lIn : K.lookup fIn = some ⟨ocIn, odIn, .func (PySem.W.fnOf "is_name" "is_name" (defArgs sIsName) (defBody sIsName) (defScope sIsName) .none kVIn dcIn pmIn anIn cdIn ctIn), slIn⟩)
    (cIn : PySem.W.codeIn K cdIn "is_name" = true)
    (kIn : PySem.W.keepIn K (.ref fIn) = true)
    (aFt : PySem.W.nsIn K mainGlobals "fits" = some (some (.ref fFt)))
    (lFt : K.lookup fFt = some ⟨ocFt, odFt, .func (PySem.W.fnOf "fits" "fits" (defArgs sFits) (defBody sFits) (defScope sFits) .none kVFt dcFt pmFt anFt cdFt ctFt), slFt⟩)
    (cFt : PySem.W.codeIn K cdFt "fits" = true)
    (kFt : PySem.W.keepIn K (.ref fFt) = true)
    (aHf : PySem.W.nsIn K mainGlobals "has_form" = some (some (.ref fHf)))
    (lHf : K.lookup fHf = some ⟨ocHf, odHf, .func (PySem.W.fnOf "has_form" "has_form" (defArgs sHasForm) (defBody sHasForm) (defScope sHasForm) .none kVHf dcHf pmHf anHf cdHf ctHf), slHf⟩)
    (cHf : PySem.W.codeIn K cdHf "has_form" = true)
    (kHf : PySem.W.keepIn K (.ref fHf) = true)
    (aRi : PySem.W.nsIn K mainGlobals "rows_in" = some (some (.ref fRi)))
    (lRi : K.lookup fRi = some ⟨ocRi, odRi, .func (PySem.W.fnOf "rows_in" "rows_in" (defArgs sRowsIn) (defBody sRowsIn) (defScope sRowsIn) .none kVRi dcRi pmRi anRi cdRi ctRi), slRi⟩)
    (cRi : PySem.W.codeIn K cdRi "rows_in" = true)
    (kRi : PySem.W.keepIn K (.ref fRi) = true)
    (aLk : PySem.W.nsIn K mainGlobals "look_through" = some (some (.ref fLk)))
    (lLk : K.lookup fLk = some ⟨ocLk, odLk, .func (PySem.W.fnOf "look_through" "look_through" (defArgs sLook) (defBody sLook) (defScope sLook) .none kVLk dcLk pmLk anLk cdLk ctLk), slLk⟩)
    (cLk : PySem.W.codeIn K cdLk "look_through" = true)
    (kLk : PySem.W.keepIn K (.ref fLk) = true)
    (aLy : PySem.W.nsIn K mainGlobals "lay_out" = some (some (.ref fLy)))
    (lLy : K.lookup fLy = some ⟨ocLy, odLy, .func (PySem.W.fnOf "lay_out" "lay_out" (defArgs sLay) (defBody sLay) (defScope sLay) .none kVLy dcLy pmLy anLy cdLy ctLy), slLy⟩)
    (cLy : PySem.W.codeIn K cdLy "lay_out" = true)
    (kLy : PySem.W.keepIn K (.ref fLy) = true)
    (aNu : PySem.W.nsIn K mainGlobals "number" = some (some (.ref fNu)))
    (lNu : K.lookup fNu = some ⟨ocNu, odNu, .func (PySem.W.fnOf "number" "number" (defArgs sNumber) (defBody sNumber) (defScope sNumber) .none kVNu dcNu pmNu anNu cdNu ctNu), slNu⟩)
    (cNu : PySem.W.codeIn K cdNu "number" = true)
    (kNu : PySem.W.keepIn K (.ref fNu) = true)
    (aRo : PySem.W.nsIn K mainGlobals "row" = some (some (.ref fRo)))
    (lRo : K.lookup fRo = some ⟨ocRo, odRo, .func (PySem.W.fnOf "row" "row" (defArgs sRow) (defBody sRow) (defScope sRow) .none kVRo dcRo pmRo anRo cdRo ctRo), slRo⟩)
    (cRo : PySem.W.codeIn K cdRo "row" = true)
    (kRo : PySem.W.keepIn K (.ref fRo) = true)
    (aCo : PySem.W.nsIn K mainGlobals "code_of" = some (some (.ref fCo)))
    (lCo : K.lookup fCo = some ⟨ocCo, odCo, .func (PySem.W.fnOf "code_of" "code_of" (defArgs sCodeOf) (defBody sCodeOf) (defScope sCodeOf) .none kVCo dcCo pmCo anCo cdCo ctCo), slCo⟩)
    (cCo : PySem.W.codeIn K cdCo "code_of" = true)
    (kCo : PySem.W.keepIn K (.ref fCo) = true)
    (aRc : PySem.W.nsIn K mainGlobals "row_code" = some (some (.ref fRc)))
    (lRc : K.lookup fRc = some ⟨ocRc, odRc, .func (PySem.W.fnOf "row_code" "row_code" (defArgs sRowC) (defBody sRowC) (defScope sRowC) .none kVRc dcRc pmRc anRc cdRc ctRc), slRc⟩)
    (cRc : PySem.W.codeIn K cdRc "row_code" = true)
    (kRc : PySem.W.keepIn K (.ref fRc) = true)
    (aDc : PySem.W.nsIn K mainGlobals "deed_code" = some (some (.ref fDc)))
    (lDc : K.lookup fDc = some ⟨ocDc, odDc, .func (PySem.W.fnOf "deed_code" "deed_code" (defArgs sDeedC) (defBody sDeedC) (defScope sDeedC) .none kVDc dcDc pmDc anDc cdDc ctDc), slDc⟩)
    (cDc : PySem.W.codeIn K cdDc "deed_code" = true)
    (kDc : PySem.W.keepIn K (.ref fDc) = true)
    (aPc : PySem.W.nsIn K mainGlobals "part_code" = some (some (.ref fPc)))
    (lPc : K.lookup fPc = some ⟨ocPc, odPc, .func (PySem.W.fnOf "part_code" "part_code" (defArgs sPartC) (defBody sPartC) (defScope sPartC) .none kVPc dcPc pmPc anPc cdPc ctPc), slPc⟩)
    (cPc : PySem.W.codeIn K cdPc "part_code" = true)
    (kPc : PySem.W.keepIn K (.ref fPc) = true)
    (aCn : PySem.W.nsIn K mainGlobals "counted" = some (some (.ref fCn)))
    (lCn : K.lookup fCn = some ⟨ocCn, odCn, .func (PySem.W.fnOf "counted" "counted" (defArgs sCounted) (defBody sCounted) (defScope sCounted) .none kVCn dcCn pmCn anCn cdCn ctCn), slCn⟩)
    (cCn : PySem.W.codeIn K cdCn "counted" = true)
    (kCn : PySem.W.keepIn K (.ref fCn) = true)
    (aPp : PySem.W.nsIn K mainGlobals "parts" = some (some (.ref fPp)))
    (lPp : K.lookup fPp = some ⟨ocPp, odPp, .func (PySem.W.fnOf "parts" "parts" (defArgs sParts) (defBody sParts) (defScope sParts) .none kVPp dcPp pmPp anPp cdPp ctPp), slPp⟩)
    (cPp : PySem.W.codeIn K cdPp "parts" = true)
    (kPp : PySem.W.keepIn K (.ref fPp) = true)
    (aPo : PySem.W.nsIn K mainGlobals "program_of" = some (some (.ref fPo)))
    (lPo : K.lookup fPo = some ⟨ocPo, odPo, .func (PySem.W.fnOf "program_of" "program_of" (defArgs sProgOf) (defBody sProgOf) (defScope sProgOf) .none kVPo dcPo pmPo anPo cdPo ctPo), slPo⟩)
    (cPo : PySem.W.codeIn K cdPo "program_of" = true)
    (kPo : PySem.W.keepIn K (.ref fPo) = true)
    (aOt : PySem.W.nsIn K mainGlobals "row_told" = some (some (.ref fOt)))
    (lOt : K.lookup fOt = some ⟨ocOt, odOt, .func (PySem.W.fnOf "row_told" "row_told" (defArgs sRowT) (defBody sRowT) (defScope sRowT) .none kVOt dcOt pmOt anOt cdOt ctOt), slOt⟩)
    (cOt : PySem.W.codeIn K cdOt "row_told" = true)
    (kOt : PySem.W.keepIn K (.ref fOt) = true)
    (aDt : PySem.W.nsIn K mainGlobals "deed_told" = some (some (.ref fDt)))
    (lDt : K.lookup fDt = some ⟨ocDt, odDt, .func (PySem.W.fnOf "deed_told" "deed_told" (defArgs sDeedT) (defBody sDeedT) (defScope sDeedT) .none kVDt dcDt pmDt anDt cdDt ctDt), slDt⟩)
    (cDt : PySem.W.codeIn K cdDt "deed_told" = true)
    (kDt : PySem.W.keepIn K (.ref fDt) = true)
    (aKt : PySem.W.nsIn K mainGlobals "kind_told" = some (some (.ref fKt)))
    (lKt : K.lookup fKt = some ⟨ocKt, odKt, .func (PySem.W.fnOf "kind_told" "kind_told" (defArgs sKindT) (defBody sKindT) (defScope sKindT) .none kVKt dcKt pmKt anKt cdKt ctKt), slKt⟩)
    (cKt : PySem.W.codeIn K cdKt "kind_told" = true)
    (kKt : PySem.W.keepIn K (.ref fKt) = true)
    (aPt : PySem.W.nsIn K mainGlobals "part_told" = some (some (.ref fPt)))
    (lPt : K.lookup fPt = some ⟨ocPt, odPt, .func (PySem.W.fnOf "part_told" "part_told" (defArgs sPartT) (defBody sPartT) (defScope sPartT) .none kVPt dcPt pmPt anPt cdPt ctPt), slPt⟩)
    (cPt : PySem.W.codeIn K cdPt "part_told" = true)
    (kPt : PySem.W.keepIn K (.ref fPt) = true)
    (aIc : PySem.W.nsIn K mainGlobals "is_code" = some (some (.ref fIc)))
    (lIc : K.lookup fIc = some ⟨ocIc, odIc, .func (PySem.W.fnOf "is_code" "is_code" (defArgs sIsCode) (defBody sIsCode) (defScope sIsCode) .none kVIc dcIc pmIc anIc cdIc ctIc), slIc⟩)
    (cIc : PySem.W.codeIn K cdIc "is_code" = true)
    (kIc : PySem.W.keepIn K (.ref fIc) = true)
    (aBa : PySem.W.nsIn K mainGlobals "_law_bag" = some (some (.ref fBa)))
    (lBa : K.lookup fBa = some ⟨ocBa, odBa, .func (PySem.W.fnOf "_law_bag" "_law_bag" (defArgs sBag) (defBody sBag) (defScope sBag) .none kVBa dcBa pmBa anBa cdBa ctBa), slBa⟩)
    (cBa : PySem.W.codeIn K cdBa "_law_bag" = true)
    (kBa : PySem.W.keepIn K (.ref fBa) = true)
    (aTa : PySem.W.nsIn K mainGlobals "_law_take" = some (some (.ref fTa)))
    (lTa : K.lookup fTa = some ⟨ocTa, odTa, .func (PySem.W.fnOf "_law_take" "_law_take" (defArgs sTake) (defBody sTake) (defScope sTake) .none kVTa dcTa pmTa anTa cdTa ctTa), slTa⟩)
    (cTa : PySem.W.codeIn K cdTa "_law_take" = true)
    (kTa : PySem.W.keepIn K (.ref fTa) = true)
    (aTh : PySem.W.nsIn K mainGlobals "_law_thing" = some (some (.ref fTh)))
    (lTh : K.lookup fTh = some ⟨ocTh, odTh, .func (PySem.W.fnOf "_law_thing" "_law_thing" (defArgs sThing) (defBody sThing) (defScope sThing) .none kVTh dcTh pmTh anTh cdTh ctTh), slTh⟩)
    (cTh : PySem.W.codeIn K cdTh "_law_thing" = true)
    (kTh : PySem.W.keepIn K (.ref fTh) = true)
    (aNa : PySem.W.nsIn K mainGlobals "_law_name" = some (some (.ref fNa)))
    (lNa : K.lookup fNa = some ⟨ocNa, odNa, .func (PySem.W.fnOf "_law_name" "_law_name" (defArgs sName) (defBody sName) (defScope sName) .none kVNa dcNa pmNa anNa cdNa ctNa), slNa⟩)
    (cNa : PySem.W.codeIn K cdNa "_law_name" = true)
    (kNa : PySem.W.keepIn K (.ref fNa) = true)
    (aDe : PySem.W.nsIn K mainGlobals "_law_deed" = some (some (.ref fDe)))
    (lDe : K.lookup fDe = some ⟨ocDe, odDe, .func (PySem.W.fnOf "_law_deed" "_law_deed" (defArgs sDeed) (defBody sDeed) (defScope sDeed) .none kVDe dcDe pmDe anDe cdDe ctDe), slDe⟩)
    (cDe : PySem.W.codeIn K cdDe "_law_deed" = true)
    (kDe : PySem.W.keepIn K (.ref fDe) = true)
    (aDs : PySem.W.nsIn K mainGlobals "_law_deeds" = some (some (.ref fDs)))
    (lDs : K.lookup fDs = some ⟨ocDs, odDs, .func (PySem.W.fnOf "_law_deeds" "_law_deeds" (defArgs sDeeds) (defBody sDeeds) (defScope sDeeds) .none kVDs dcDs pmDs anDs cdDs ctDs), slDs⟩)
    (cDs : PySem.W.codeIn K cdDs "_law_deeds" = true)
    (kDs : PySem.W.keepIn K (.ref fDs) = true)
    (aTo : PySem.W.nsIn K mainGlobals "_law_top" = some (some (.ref fTo)))
    (lTo : K.lookup fTo = some ⟨ocTo, odTo, .func (PySem.W.fnOf "_law_top" "_law_top" (defArgs sTop) (defBody sTop) (defScope sTop) .none kVTo dcTo pmTo anTo cdTo ctTo), slTo⟩)
    (cTo : PySem.W.codeIn K cdTo "_law_top" = true)
    (kTo : PySem.W.keepIn K (.ref fTo) = true)
    (aNt : PySem.W.nsIn K mainGlobals "_law_number_text" = some (some (.ref fNt)))
    (lNt : K.lookup fNt = some ⟨ocNt, odNt, .func (PySem.W.fnOf "_law_number_text" "_law_number_text" (defArgs sNt16) (defBody sNt16) (defScope sNt16) .none kVNt dcNt pmNt anNt cdNt ctNt), slNt⟩)
    (cNt : PySem.W.codeIn K cdNt "_law_number_text" = true)
    (kNt : PySem.W.keepIn K (.ref fNt) = true)
    (aRtx : PySem.W.nsIn K mainGlobals "_law_row_text" = some (some (.ref fRtx)))
    (lRtx : K.lookup fRtx = some ⟨ocRtx, odRtx, .func (PySem.W.fnOf "_law_row_text" "_law_row_text" (defArgs sRowText) (defBody sRowText) (defScope sRowText) .none kVRtx dcRtx pmRtx anRtx cdRtx ctRtx), slRtx⟩)
    (cRtx : PySem.W.codeIn K cdRtx "_law_row_text" = true)
    (kRtx : PySem.W.keepIn K (.ref fRtx) = true)
    (aLc : PySem.W.nsIn K mainGlobals "_law_code" = some (some (.ref fLc)))
    (lLc : K.lookup fLc = some ⟨ocLc, odLc, .func (PySem.W.fnOf "_law_code" "_law_code" (defArgs sLc16) (defBody sLc16) (defScope sLc16) .none kVLc dcLc pmLc anLc cdLc ctLc), slLc⟩)
    (cLc : PySem.W.codeIn K cdLc "_law_code" = true)
    (kLc : PySem.W.keepIn K (.ref fLc) = true)
    (aGd : PySem.W.nsIn K mainGlobals "_law_good" = some (some (.ref fGd)))
    (lGd : K.lookup fGd = some ⟨ocGd, odGd, .func (PySem.W.fnOf "_law_good" "_law_good" (defArgs sGood16) (defBody sGood16) (defScope sGood16) .none kVGd dcGd pmGd anGd cdGd ctGd), slGd⟩)
    (cGd : PySem.W.codeIn K cdGd "_law_good" = true)
    (kGd : PySem.W.keepIn K (.ref fGd) = true)
    (aLaw : PySem.W.nsIn K mainGlobals "law" = some (some (.ref fLaw)))
    (lLaw : K.lookup fLaw = some ⟨ocLaw, odLaw, .func (PySem.W.fnOf "law" "law" (defArgs sLaw) (defBody sLaw) (defScope sLaw) .none kVLaw dcLaw pmLaw anLaw cdLaw ctLaw), slLaw⟩)
    (cLaw : PySem.W.codeIn K cdLaw "law" = true)
    (kLaw : PySem.W.keepIn K (.ref fLaw) = true)
    (aP : PySem.W.nsIn K mainGlobals "Program" = some (some (.ref CP)))
    (pgP : PySem.W.plainGet K CP Str.empty = true)
    (hdP : PySem.W.hasDictIn K CP = true)
    (poP : PySem.W.plainOver K CP = true)
    (saP : PySem.W.findIn K (.ref CP) "__setattr__" = some (some (.builtin "object.__setattr__")))
    (mkCP : PySem.W.makesIn K CP = true)
    (kcP : PySem.W.keepIn K (.ref CP) = true)
    (nDP : PySem.W.findIn K (.ref CP) "deeds" = some none)
    (nPP : PySem.W.findIn K (.ref CP) "plan" = some none)
    (caP : PySem.W.findIn K (.ref CP) "__class__" = some (some (.builtin "object.__class__")))
    (cmP : PySem.W.mroIn K CP (.type "object") = some true)
    (neP : PySem.W.findIn K (.ref CP) "__ne__" = some (some (.builtin "object.__ne__")))
    (aFm : PySem.W.nsIn K mainGlobals "FORMS" = some (some (.ref dF)))
    (lFm : K.lookup dF = some ⟨.type "dict", none, .dict esF nFm, #[]⟩)
    (litF : PySem.W.KeysLit w.params esF.toList)
    (lowF : (dF == sysModules) = false)
    (aN1 : PySem.W.nsIn K mainGlobals "MANY_NAMES" = some (some (.int 10 tN1)))
    (aN2 : PySem.W.nsIn K mainGlobals "MOST_DEEDS" = some (some (.int 4000 tN2)))
    (aN3 : PySem.W.nsIn K mainGlobals "MOST_FLOORS" = some (some (.int 8 tN3)))
    (kii : PySem.W.kitOne K (.type "int") (.type "int") = some true)
    (kib : PySem.W.kitOne K (.type "int") (.type "bool") = some false)
    (ktt : PySem.W.kitOne K (.type "tuple") (.type "tuple") = some true)
    (kss : PySem.W.kitOne K (.type "str") (.type "str") = some true)
    (fm0 : PySem.W.nsIn K dF "told" = some (some (.str "nt" tf0)))
    (fm1 : PySem.W.nsIn K dF "first" = some (some (.str "nn" tf1)))
    (fm2 : PySem.W.nsIn K dF "second" = some (some (.str "nn" tf2)))
    (fm3 : PySem.W.nsIn K dF "pair" = some (some (.str "nnn" tf3)))
    (fm4 : PySem.W.nsIn K dF "same" = some (some (.str "nnn" tf4)))
    (fm5 : PySem.W.nsIn K dF "while" = some (some (.str "nr" tf5)))
    (fm6 : PySem.W.nsIn K dF "if" = some (some (.str "nrr" tf6)))
    (aPI : PySem.W.findIn K (.ref CP) "__init__" = some (some (.ref fPI)))
    (iPI : PySem.W.isFn K (.ref fPI) = true)
    (lPI : K.lookup fPI = some ⟨ocPI, odPI, .func (PySem.W.fnOf "__init__" "Program.__init__" (defArgs sPInit) (defBody sPInit) (defScope sPInit) .none kVPI dcPI pmPI anPI cdPI ctPI), slPI⟩)
    (cPI : PySem.W.codeIn K cdPI "Program.__init__" = true)
    (kPI : PySem.W.keepIn K (.ref fPI) = true)
    (aPL : PySem.W.findIn K (.ref CP) "__len__" = some (some (.ref fPL)))
    (iPL : PySem.W.isFn K (.ref fPL) = true)
    (lPL : K.lookup fPL = some ⟨ocPL, odPL, .func (PySem.W.fnOf "__len__" "Program.__len__" (defArgs sPLen) (defBody sPLen) (defScope sPLen) .none kVPL dcPL pmPL anPL cdPL ctPL), slPL⟩)
    (cPL : PySem.W.codeIn K cdPL "Program.__len__" = true)
    (kPL : PySem.W.keepIn K (.ref fPL) = true)
    (aPE : PySem.W.findIn K (.ref CP) "__eq__" = some (some (.ref fPE)))
    (iPE : PySem.W.isFn K (.ref fPE) = true)
    (lPE : K.lookup fPE = some ⟨ocPE, odPE, .func (PySem.W.fnOf "__eq__" "Program.__eq__" (defArgs sPEq) (defBody sPEq) (defScope sPEq) .none kVPE dcPE pmPE anPE cdPE ctPE), slPE⟩)
    (cPE : PySem.W.codeIn K cdPE "Program.__eq__" = true)
    (kPE : PySem.W.keepIn K (.ref fPE) = true)
    (aN : PySem.W.nsIn K mainGlobals "TooGreat" = some (some (.ref N)))
    (xN : K.lookup N = some (excClassObj nmN qN N NN bsN [.type "OverflowError", .type "ArithmeticError", .type "Exception", .type "BaseException", .type "object"] true snN subN abN colN ddN m0N m1N m2N m3N m5N "OverflowError.__new__"))
    (ovN : PySem.W.excOver K N [.type "OverflowError", .type "ArithmeticError", .type "Exception", .type "BaseException", .type "object"] = true)
    (saN : PySem.W.findIn K (.ref N) "__setattr__" = some (some (.builtin "object.__setattr__")))
    (exN : PySem.W.subIn K (.ref N) (.type "BaseException") = some true)
    (tyN : PySem.W.typeIn K (.ref N) = some (.type "type"))
    (kN : PySem.W.keepIn K (.ref N) = true)
    (plN : PySem.W.findIn K (.ref N) "bound" = some none)
    (vV : PySem.W.findCls K (.type "OverflowError") (.type "type") "__init__" = some (.val (.builtin "OverflowError.__init__")))
    (iN : PySem.W.findIn K (.ref N) "__init__" = some (some (.ref fN)))
    (tfN : PySem.W.typeIn K (.ref fN) = some (.type "function"))
    (lN : K.lookup fN = some ⟨ocN, odN, .func (PySem.W.fnOf "__init__" "TooGreat.__init__" (defArgs sTg) (defBody sTg) (defScope sTg) .none kVN dcN pmN anN cdN ctN), slN⟩)
    (cN : PySem.W.codeIn K cdN "TooGreat.__init__" = true)
    (kfN : PySem.W.keepIn K (.ref fN) = true)
    (hdN : PySem.W.hasDictIn K N = true)
    (scN : PySem.W.subIn K (.ref N) (.ref N) = some true)
    (gaN : PySem.W.findIn K (.ref N) "__getattribute__" = some (some (.builtin "BaseException.__getattribute__")))
    (ggN : PySem.W.findIn K (.ref N) "__getattr__" = some none)
    (icN : PySem.W.isClsIn K N = true)
    (caN : PySem.W.findIn K (.ref N) "__class__" = some (some (.builtin "object.__class__")))
    (cmN : PySem.W.mroIn K N (.type "object") = some true)
    (oeN : PySem.W.kitOne K (.ref N) (.type "OverflowError") = some true)
    (o1 : PySem.W.nsIn K mainGlobals "NoName" = some (some (.ref n1)))
    (o2 : PySem.W.nsIn K mainGlobals "NoProgram" = some (some (.ref n2)))
    (o3 : PySem.W.nsIn K mainGlobals "NoRoom" = some (some (.ref n3)))
    (o4 : PySem.W.nsIn K mainGlobals "NoSaying" = some (some (.ref n4)))
    (o5 : PySem.W.nsIn K mainGlobals "NoStep" = some (some (.ref n5)))
    (o6 : PySem.W.nsIn K mainGlobals "NoText" = some (some (.ref n6)))
    (kaN : PySem.W.kitAny K (.ref N) [.ref n1, .ref n2, .ref n3, .ref n4, .ref n5, .ref n6] = some false)
    (kyF : KyL formKs esF.toList)
    (kCi : PySem.W.kitOne K (.ref C) (.type "int") = some false)
    (kCt : PySem.W.kitOne K (.ref C) (.type "tuple") = some false)
    (z_len : PySem.W.nsIn K mainGlobals "len" = some none)
    (z_range : PySem.W.nsIn K mainGlobals "range" = some none)
    (z_isinstance : PySem.W.nsIn K mainGlobals "isinstance" = some none)
    (z_abs : PySem.W.nsIn K mainGlobals "abs" = some none)
    (z_int : PySem.W.nsIn K mainGlobals "int" = some none)
    (z_str : PySem.W.nsIn K mainGlobals "str" = some none)
    (z_max : PySem.W.nsIn K mainGlobals "max" = some none)
    (z_min : PySem.W.nsIn K mainGlobals "min" = some none)
    (z_all : PySem.W.nsIn K mainGlobals "all" = some none)
    (z_bool : PySem.W.nsIn K mainGlobals "bool" = some none)
    (z_tuple : PySem.W.nsIn K mainGlobals "tuple" = some none)
    (z_zip : PySem.W.nsIn K mainGlobals "zip" = some none)
    (z_enumerate : PySem.W.nsIn K mainGlobals "enumerate" = some none)
    (z_list : PySem.W.nsIn K mainGlobals "list" = some none)
    (z_OverflowError : PySem.W.nsIn K mainGlobals "OverflowError" = some none)
    (z_reversed : PySem.W.nsIn K mainGlobals "reversed" = some none)
    : ∃ fd : FuncData, (∀ (s : Shared) (v : Value), BindsTo s fd ⟨[v], []⟩ [("_law_script", v)]) ∧ ∀ base : Heap, K.In base → base.Ns mainGlobals mg → FnOk P w K mg base CX0 37 fa fd ["_law_script"] (spLaw K) := by
  have e := hfa.symm.trans (PySem.W.mg_of X G aLaw)
  cases e
  have FEq := fun_mk (st := sEq) lEq cEq kEq
  have bEq := FEq.binds (ps := ["self", "other"]) fun _ _ _ _ _ _ us hl => match us, hl with | [_, _], _ => rfl
  have FLn := fun_mk (st := sLen) lLn cLn kLn
  have bLn := FLn.binds (ps := ["self"]) fun _ _ _ _ _ _ us hl => match us, hl with | [_], _ => rfl
  have FSt := fun_mk (st := sStr) lSt cSt kSt
  have bSt := FSt.binds (ps := ["self"]) fun _ _ _ _ _ _ us hl => match us, hl with | [_], _ => rfl
  have FPa := fun_mk (st := sPairs) lPa cPa kPa
  have bPa := FPa.binds (ps := ["first", "second"]) fun _ _ _ _ _ _ us hl => match us, hl with | [_, _], _ => rfl
  have FAl := fun_mk (st := sAlike) lAl cAl kAl
  have bAl := FAl.binds (ps := ["one", "other"]) fun _ _ _ _ _ _ us hl => match us, hl with | [_, _], _ => rfl
  have FSg := fun_mk (st := sSigns) lSg cSg kSg
  have bSg := FSg.binds (ps := ["thing"]) fun _ _ _ _ _ _ us hl => match us, hl with | [_], _ => rfl
  have FIn := fun_mk (st := sIsName) lIn cIn kIn
  have bIn := FIn.binds (ps := ["part"]) fun _ _ _ _ _ _ us hl => match us, hl with | [_], _ => rfl
  have FFt := fun_mk (st := sFits) lFt cFt kFt
  have bFt := FFt.binds (ps := ["part", "sign"]) fun _ _ _ _ _ _ us hl => match us, hl with | [_, _], _ => rfl
  have FHf := fun_mk (st := sHasForm) lHf cHf kHf
  have bHf := FHf.binds (ps := ["deed"]) fun _ _ _ _ _ _ us hl => match us, hl with | [_], _ => rfl
  have FRi := fun_mk (st := sRowsIn) lRi cRi kRi
  have bRi := FRi.binds (ps := ["deed"]) fun _ _ _ _ _ _ us hl => match us, hl with | [_], _ => rfl
  have FLk := fun_mk (st := sLook) lLk cLk kLk
  have bLk := FLk.binds (ps := ["row", "floors", "ends"]) fun _ _ _ _ _ _ us hl => match us, hl with | [_, _, _], _ => rfl
  have FLy := fun_mk (st := sLay) lLy cLy kLy
  have bLy := FLy.binds (ps := ["row", "behind", "ends", "plan"]) fun _ _ _ _ _ _ us hl => match us, hl with | [_, _, _, _], _ => rfl
  have FNu := fun_mk (st := sNumber) lNu cNu kNu
  have bNu := FNu.binds (ps := ["n"]) fun _ _ _ _ _ _ us hl => match us, hl with | [_], _ => rfl
  have FRo := fun_mk (st := sRow) lRo cRo kRo
  have bRo := FRo.binds (ps := ["things"]) fun _ _ _ _ _ _ us hl => match us, hl with | [_], _ => rfl
  have FCo := fun_mk (st := sCodeOf) lCo cCo kCo
  have bCo := FCo.binds (ps := ["program"]) fun _ _ _ _ _ _ us hl => match us, hl with | [_], _ => rfl
  have FRc := fun_mk (st := sRowC) lRc cRc kRc
  have bRc := FRc.binds (ps := ["deeds"]) fun _ _ _ _ _ _ us hl => match us, hl with | [_], _ => rfl
  have FDc := fun_mk (st := sDeedC) lDc cDc kDc
  have bDc := FDc.binds (ps := ["deed"]) fun _ _ _ _ _ _ us hl => match us, hl with | [_], _ => rfl
  have FPc := fun_mk (st := sPartC) lPc cPc kPc
  have bPc := FPc.binds (ps := ["part", "sign"]) fun _ _ _ _ _ _ us hl => match us, hl with | [_, _], _ => rfl
  have FCn := fun_mk (st := sCounted) lCn cCn kCn
  have bCn := FCn.binds (ps := ["thing"]) fun _ _ _ _ _ _ us hl => match us, hl with | [_], _ => rfl
  have FPp := fun_mk (st := sParts) lPp cPp kPp
  have bPp := FPp.binds (ps := ["thing"]) fun _ _ _ _ _ _ us hl => match us, hl with | [_], _ => rfl
  have FPo := fun_mk (st := sProgOf) lPo cPo kPo
  have bPo := FPo.binds (ps := ["thing"]) fun _ _ _ _ _ _ us hl => match us, hl with | [_], _ => rfl
  have FOt := fun_mk (st := sRowT) lOt cOt kOt
  have bOt := FOt.binds (ps := ["thing", "floors"]) fun _ _ _ _ _ _ us hl => match us, hl with | [_, _], _ => rfl
  have FDt := fun_mk (st := sDeedT) lDt cDt kDt
  have bDt := FDt.binds (ps := ["code", "floors"]) fun _ _ _ _ _ _ us hl => match us, hl with | [_, _], _ => rfl
  have FKt := fun_mk (st := sKindT) lKt cKt kKt
  have bKt := FKt.binds (ps := ["told"]) fun _ _ _ _ _ _ us hl => match us, hl with | [_], _ => rfl
  have FPt := fun_mk (st := sPartT) lPt cPt kPt
  have bPt := FPt.binds (ps := ["part", "sign", "floors"]) fun _ _ _ _ _ _ us hl => match us, hl with | [_, _, _], _ => rfl
  have FIc := fun_mk (st := sIsCode) lIc cIc kIc
  have bIc := FIc.binds (ps := ["thing"]) fun _ _ _ _ _ _ us hl => match us, hl with | [_], _ => rfl
  have FBa := fun_mk (st := sBag) lBa cBa kBa
  have bBa := FBa.binds (ps := ["_law_script", "_law_at"]) fun _ _ _ _ _ _ us hl => match us, hl with | [_, _], _ => rfl
  have FTa := fun_mk (st := sTake) lTa cTa kTa
  have bTa := FTa.binds (ps := ["_law_bag_here", "_law_many"]) fun _ _ _ _ _ _ us hl => match us, hl with | [_, _], _ => rfl
  have FTh := fun_mk (st := sThing) lTh cTh kTh
  have bTh := FTh.binds (ps := ["_law_bag_here", "_law_many"]) fun _ _ _ _ _ _ us hl => match us, hl with | [_, _], _ => rfl
  have FNa := fun_mk (st := sName) lNa cNa kNa
  have bNa := FNa.binds (ps := ["_law_bag_here"]) fun _ _ _ _ _ _ us hl => match us, hl with | [_], _ => rfl
  have FDe := fun_mk (st := sDeed) lDe cDe kDe
  have bDe := FDe.binds (ps := ["_law_bag_here", "_law_left", "_law_deep"]) fun _ _ _ _ _ _ us hl => match us, hl with | [_, _, _], _ => rfl
  have FDs := fun_mk (st := sDeeds) lDs cDs kDs
  have bDs := FDs.binds (ps := ["_law_bag_here", "_law_left", "_law_deep"]) fun _ _ _ _ _ _ us hl => match us, hl with | [_, _, _], _ => rfl
  have FTo := fun_mk (st := sTop) lTo cTo kTo
  have bTo := FTo.binds (ps := ["_law_bag_here", "_law_many"]) fun _ _ _ _ _ _ us hl => match us, hl with | [_, _], _ => rfl
  have FNt := fun_mk (st := sNt16) lNt cNt kNt
  have bNt := FNt.binds (ps := ["_law_n"]) fun _ _ _ _ _ _ us hl => match us, hl with | [_], _ => rfl
  have FRtx := fun_mk (st := sRowText) lRtx cRtx kRtx
  have bRtx := FRtx.binds (ps := ["_law_texts"]) fun _ _ _ _ _ _ us hl => match us, hl with | [_], _ => rfl
  have FLc := fun_mk (st := sLc16) lLc cLc kLc
  have bLc := FLc.binds (ps := ["_law_deeds_here"]) fun _ _ _ _ _ _ us hl => match us, hl with | [_], _ => rfl
  have FGd := fun_mk (st := sGood16) lGd cGd kGd
  have bGd := FGd.binds (ps := ["_law_deeds_here"]) fun _ _ _ _ _ _ us hl => match us, hl with | [_], _ => rfl
  have FLaw := fun_mk (st := sLaw) lLaw cLaw kLaw
  have bLaw := FLaw.binds (ps := ["_law_script"]) fun _ _ _ _ _ _ us hl => match us, hl with | [_], _ => rfl
  have APa : At K mg "pairs_in" sPairs ["first", "second"] fPa _ := ⟨FPa, PySem.W.mg_of X G aPa, bPa⟩
  have AAl : At K mg "alike" sAlike ["one", "other"] fAl _ := ⟨FAl, PySem.W.mg_of X G aAl, bAl⟩
  have ASg : At K mg "signs" sSigns ["thing"] fSg _ := ⟨FSg, PySem.W.mg_of X G aSg, bSg⟩
  have AIn : At K mg "is_name" sIsName ["part"] fIn _ := ⟨FIn, PySem.W.mg_of X G aIn, bIn⟩
  have AFt : At K mg "fits" sFits ["part", "sign"] fFt _ := ⟨FFt, PySem.W.mg_of X G aFt, bFt⟩
  have AHf : At K mg "has_form" sHasForm ["deed"] fHf _ := ⟨FHf, PySem.W.mg_of X G aHf, bHf⟩
  have ARi : At K mg "rows_in" sRowsIn ["deed"] fRi _ := ⟨FRi, PySem.W.mg_of X G aRi, bRi⟩
  have ALk : At K mg "look_through" sLook ["row", "floors", "ends"] fLk _ := ⟨FLk, PySem.W.mg_of X G aLk, bLk⟩
  have ALy : At K mg "lay_out" sLay ["row", "behind", "ends", "plan"] fLy _ := ⟨FLy, PySem.W.mg_of X G aLy, bLy⟩
  have ANu : At K mg "number" sNumber ["n"] fNu _ := ⟨FNu, PySem.W.mg_of X G aNu, bNu⟩
  have ARo : At K mg "row" sRow ["things"] fRo _ := ⟨FRo, PySem.W.mg_of X G aRo, bRo⟩
  have ACo : At K mg "code_of" sCodeOf ["program"] fCo _ := ⟨FCo, PySem.W.mg_of X G aCo, bCo⟩
  have ARc : At K mg "row_code" sRowC ["deeds"] fRc _ := ⟨FRc, PySem.W.mg_of X G aRc, bRc⟩
  have ADc : At K mg "deed_code" sDeedC ["deed"] fDc _ := ⟨FDc, PySem.W.mg_of X G aDc, bDc⟩
  have APc : At K mg "part_code" sPartC ["part", "sign"] fPc _ := ⟨FPc, PySem.W.mg_of X G aPc, bPc⟩
  have ACn : At K mg "counted" sCounted ["thing"] fCn _ := ⟨FCn, PySem.W.mg_of X G aCn, bCn⟩
  have APp : At K mg "parts" sParts ["thing"] fPp _ := ⟨FPp, PySem.W.mg_of X G aPp, bPp⟩
  have APo : At K mg "program_of" sProgOf ["thing"] fPo _ := ⟨FPo, PySem.W.mg_of X G aPo, bPo⟩
  have AOt : At K mg "row_told" sRowT ["thing", "floors"] fOt _ := ⟨FOt, PySem.W.mg_of X G aOt, bOt⟩
  have ADt : At K mg "deed_told" sDeedT ["code", "floors"] fDt _ := ⟨FDt, PySem.W.mg_of X G aDt, bDt⟩
  have AKt : At K mg "kind_told" sKindT ["told"] fKt _ := ⟨FKt, PySem.W.mg_of X G aKt, bKt⟩
  have APt : At K mg "part_told" sPartT ["part", "sign", "floors"] fPt _ := ⟨FPt, PySem.W.mg_of X G aPt, bPt⟩
  have AIc : At K mg "is_code" sIsCode ["thing"] fIc _ := ⟨FIc, PySem.W.mg_of X G aIc, bIc⟩
  have ABa : At K mg "_law_bag" sBag ["_law_script", "_law_at"] fBa _ := ⟨FBa, PySem.W.mg_of X G aBa, bBa⟩
  have ATa : At K mg "_law_take" sTake ["_law_bag_here", "_law_many"] fTa _ := ⟨FTa, PySem.W.mg_of X G aTa, bTa⟩
  have ATh : At K mg "_law_thing" sThing ["_law_bag_here", "_law_many"] fTh _ := ⟨FTh, PySem.W.mg_of X G aTh, bTh⟩
  have ANa : At K mg "_law_name" sName ["_law_bag_here"] fNa _ := ⟨FNa, PySem.W.mg_of X G aNa, bNa⟩
  have ADe : At K mg "_law_deed" sDeed ["_law_bag_here", "_law_left", "_law_deep"] fDe _ := ⟨FDe, PySem.W.mg_of X G aDe, bDe⟩
  have ADs : At K mg "_law_deeds" sDeeds ["_law_bag_here", "_law_left", "_law_deep"] fDs _ := ⟨FDs, PySem.W.mg_of X G aDs, bDs⟩
  have ATo : At K mg "_law_top" sTop ["_law_bag_here", "_law_many"] fTo _ := ⟨FTo, PySem.W.mg_of X G aTo, bTo⟩
  have ANt : At K mg "_law_number_text" sNt16 ["_law_n"] fNt _ := ⟨FNt, PySem.W.mg_of X G aNt, bNt⟩
  have ARtx : At K mg "_law_row_text" sRowText ["_law_texts"] fRtx _ := ⟨FRtx, PySem.W.mg_of X G aRtx, bRtx⟩
  have ALc : At K mg "_law_code" sLc16 ["_law_deeds_here"] fLc _ := ⟨FLc, PySem.W.mg_of X G aLc, bLc⟩
  have AGd : At K mg "_law_good" sGood16 ["_law_deeds_here"] fGd _ := ⟨FGd, PySem.W.mg_of X G aGd, bGd⟩
  have DI : FunD K "__init__" "Thing.__init__" (defArgs sInit) (defBody sInit) (defScope sInit) [.non, .non] [] fI _ := ⟨⟨oI, odI, .ref TI, kVI, dcI, pmI, anI, cdI, ctI, slI, rfl, lI, cI, .inr ⟨by simp, TI, _, [.none, .none], nT, rfl, lT, rfl, .cons rfl (.cons rfl .nil)⟩, .inl rfl⟩, kI⟩
  have b0 := DI.binds1 (ps := ["self", "first", "second"]) 1 0 (by simp) rfl fun T kV doc pm an cdv ct us its h1 h2 => by
    match us, its, h1, h2 with
    | [a], [b, c], _, _ => exact ⟨_, rfl, rfl⟩
  have b3 := DI.binds1 (ps := ["self", "first", "second"]) 3 2 (by simp) rfl fun T kV doc pm an cdv ct us its h1 h2 => by
    match us, its, h1, h2 with
    | [a, b, c], [d, e], _, _ => exact ⟨_, rfl, rfl⟩
  obtain ⟨ds3, hv3, hb3⟩ := b3
  cases hv3
  have T : Txt K mg C := ⟨⟨pg, hd, po, sa⟩, nF, nS, nZ, PySem.W.mg_of X G aC, ⟨tM, PySem.W.mg_of X G aM⟩, PySem.W.mg_none_of X G z_len, PySem.W.mg_none_of X G z_range, PySem.W.mg_none_of X G z_isinstance, ca, cn, ct, cm, neC⟩
  have B : Blt mg := ⟨PySem.W.mg_none_of X G z_len, PySem.W.mg_none_of X G z_range, PySem.W.mg_none_of X G z_abs, PySem.W.mg_none_of X G z_int, PySem.W.mg_none_of X G z_str, PySem.W.mg_none_of X G z_max, PySem.W.mg_none_of X G z_min, PySem.W.mg_none_of X G z_all⟩
  have ml := PySem.W.mg_none_of X G z_list
  have frm : FrmC K w mg := ⟨⟨dF, esF, nFm, PySem.W.mg_of X G aFm, ⟨lFm, litF, lowF⟩, fun kf hkf => by
    simp only [forms, List.mem_cons, List.not_mem_nil, or_false] at hkf
    rcases hkf with rfl | rfl | rfl | rfl | rfl | rfl | rfl
    · exact ⟨_, fm0⟩
    · exact ⟨_, fm1⟩
    · exact ⟨_, fm2⟩
    · exact ⟨_, fm3⟩
    · exact ⟨_, fm4⟩
    · exact ⟨_, fm5⟩
    · exact ⟨_, fm6⟩⟩, ⟨tN1, PySem.W.mg_of X G aN1⟩, ⟨tN2, PySem.W.mg_of X G aN2⟩, ⟨tN3, PySem.W.mg_of X G aN3⟩, (PySem.W.mg_none_of X G z_bool), (PySem.W.mg_none_of X G z_tuple), (PySem.W.mg_none_of X G z_zip), (PySem.W.mg_none_of X G z_enumerate), kii, kib, ktt, kss⟩
  have TP : TxtP K mg CP := ⟨⟨pgP, hdP, poP, saP⟩, nDP, nPP, PySem.W.mg_of X G aP, caP, cn, ct, cmP, neP⟩
  have FPI := fun_mk (st := sPInit) lPI cPI kPI
  have FPL := fun_mk (st := sPLen) lPL cPL kPL
  have FPE := fun_mk (st := sPEq) lPE cPE kPE
  have bPI := FPI.binds (ps := ["self", "deeds"]) fun _ _ _ _ _ _ us hl => match us, hl with | [_, _], _ => rfl
  have bPL := FPL.binds (ps := ["self"]) fun _ _ _ _ _ _ us hl => match us, hl with | [_], _ => rfl
  have bPE := FPE.binds (ps := ["self", "other"]) fun _ _ _ _ _ _ us hl => match us, hl with | [_, _], _ => rfl
  have fok : FoK K w mg := FoK.of (PySem.W.mg_of X G aFm) ⟨lFm, litF, lowF⟩ (fun kf hkf => by
    simp only [forms, List.mem_cons, List.not_mem_nil, or_false] at hkf
    rcases hkf with rfl | rfl | rfl | rfl | rfl | rfl | rfl
    · exact ⟨_, fm0⟩
    · exact ⟨_, fm1⟩
    · exact ⟨_, fm2⟩
    · exact ⟨_, fm3⟩
    · exact ⟨_, fm4⟩
    · exact ⟨_, fm5⟩
    · exact ⟨_, fm6⟩) kyF
  refine ⟨PySem.W.fnOf "law" "law" (defArgs sLaw) (defBody sLaw) (defScope sLaw) .none kVLaw dcLaw pmLaw anLaw cdLaw ctLaw, fun s v => .of_eq rfl, fun base _ _ => ?_⟩
  have GI : FnOk P w K mg base CX0 2 fI _ ["self", "first", "second"] (spInit C) := ok_init DI T APa
  have M : Maker P w K mg base C fI _ := ⟨⟨mkC, aI, iI, kc⟩, GI, T.mgC, hb3, b0⟩
  have SE : Spc P w K mg base C "__eq__" 2 ["self", "other"] (spEqT C) := ⟨fEq, _, ⟨aEq, iEq⟩, ok_eq FEq T AAl, bEq⟩
  have SS : Spc P w K mg base C "__str__" 2 ["self"] (spStr C) := ⟨fSt, _, ⟨aSt, iSt⟩, ok_str FSt T ASg, bSt⟩
  have dIN : Def P w K mg base "is_name" 1 ["part"] spIsName := ⟨fIn, _, AIn.mgf, kIn, ok_isName FIn B T frm, bIn⟩
  have dFt : Def P w K mg base "fits" 2 ["part", "sign"] (spFits K C) := ⟨fFt, _, PySem.W.mg_of X G aFt, kFt, ok_fits FFt B T frm dIN, bFt⟩
  have dHF : Def P w K mg base "has_form" 3 ["deed"] (spHasForm K C) := ⟨fHf, _, PySem.W.mg_of X G aHf, kHf, ok_hasForm FHf B T frm dFt, bHf⟩
  have dRI : Def P w K mg base "rows_in" 1 ["deed"] (spRowsIn K C) := ⟨fRi, _, ARi.mgf, kRi, ok_rowsIn FRi frm, bRi⟩
  have dLk : Def P w K mg base "look_through" 13 ["row", "floors", "ends"] (spLook K C 9) := ⟨fLk, _, ALk.mgf, kLk, ok_look FLk ALk.mgf bLk B T frm dHF dRI 9, bLk⟩
  have dLy : Def P w K mg base "lay_out" 11 ["row", "behind", "ends", "plan"] (spLay K C 9) := ⟨fLy, _, ALy.mgf, kLy, ok_lay FLy ALy.mgf bLy B frm dRI 9, bLy⟩
  have MP : MakerP P w K mg base C CP fPI _ := ⟨⟨mkCP, aPI, iPI, kcP⟩, ok_pinit FPI B T frm TP dLk dLy, TP.mgP, bPI⟩
  have FN := fun_mk (st := sTg) lN cN kfN
  have bN := FN.binds (ps := ["self", "bound"]) fun _ _ _ _ _ _ us hl => match us, hl with | [_, _], _ => rfl
  have gO : GexO K N := ⟨PySem.F.excBase_OverflowError, PySem.F.store_OverflowError, ⟨nmN, qN, NN, bsN, _, snN, subN, abN, colN, ddN, m0N, m1N, m2N, m3N, m5N, xN, fun _ => rfl⟩, ovN, saN, exN, tyN, kN⟩
  have tgC : TgC K mg N := ⟨PySem.W.mg_of X G aN, gO, plN, PySem.W.mg_none_of X G z_OverflowError, vV⟩
  have NM : TgM P w K mg base N fN _ := ⟨tgC, iN, tfN, ok_tg FN tgC, bN⟩
  have MXN : MakerN P w K mg base C fI N _ := ⟨⟨mkC, aI, iI, kc⟩, ok_initN DI T APa NM, T.mgC, hb3⟩
  have exm : PySem.W.exmOne K (.ref N) (.ref N) = some true := PySem.W.exm_ref exN hdN tyN scN
  have RC : RfC K mg N := ⟨tgC, ⟨gaN, ggN, exN, hdN⟩, ⟨icN, gaN, ggN, exN, caN, cn, ct, cmN⟩, exm, oeN, ⟨n1, n2, n3, n4, n5, n6, PySem.W.mg_of X G o1, PySem.W.mg_of X G o2, PySem.W.mg_of X G o3, PySem.W.mg_of X G o4, PySem.W.mg_of X G o5, PySem.W.mg_of X G o6, kaN⟩⟩
  have DNu : Def P w K mg base "number" 4 ["n"] (spNumber C) := ⟨fNu, _, ANu.mgf, kNu, ok_number FNu T M, bNu⟩
  have DRo : Def P w K mg base "row" 4 ["things"] (spRow C) := ⟨fRo, _, ARo.mgf, kRo, ok_row FRo T (PySem.W.mg_none_of X G z_reversed) M, bRo⟩
  have DRc : Def P w K mg base "row_code" 32 ["deeds"] (spRowC K C 9) := ⟨fRc, _, ARc.mgf, kRc, ok_codes FRc FDc FPc ml frm fok DNu DRo ARc.mgf bRc ADc.mgf bDc APc.mgf bPc 9, bRc⟩
  have DCo : Def P w K mg base "code_of" 33 ["program"] (spCodeOf K C CP) := ⟨fCo, _, ACo.mgf, kCo, ok_codeOf FCo TP DRc, bCo⟩
  have DCn : Def P w K mg base "counted" 1 ["thing"] (spCounted C) := ⟨fCn, _, ACn.mgf, kCn, ok_counted FCn T, bCn⟩
  have DPp : Def P w K mg base "parts" 1 ["thing"] (spParts C) := ⟨fPp, _, APp.mgf, kPp, ok_parts FPp T, bPp⟩
  have DKt : Def P w K mg base "kind_told" 2 ["told"] (spKindT C) := ⟨fKt, _, AKt.mgf, kKt, ok_kindT FKt B ml fok DCn, bKt⟩
  have DOt : Def P w K mg base "row_told" 30 ["thing", "floors"] (spRowT K C 9) := ⟨fOt, _, AOt.mgf, kOt, ok_tolds FOt FDt FPt B frm DCn DPp DKt AOt.mgf bOt ADt.mgf bDt APt.mgf bPt 9, bOt⟩
  have gPo := ok_progOf (P := P) (w := w) (base := base) FPo T MP DOt
  have DPo : Def P w K mg base "program_of" 34 ["thing"] (spProgOf K C CP) := ⟨fPo, _, APo.mgf, kPo, gPo, bPo⟩
  have DTk : Def P w K mg base "_law_take" 1 ["_law_bag_here", "_law_many"] spTake := ⟨fTa, _, ATa.mgf, kTa, ok_take FTa, bTa⟩
  have DTh : Def P w K mg base "_law_thing" 4 ["_law_bag_here", "_law_many"] (spThing C) := ⟨fTh, _, ATh.mgf, kTh, ok_thing FTh B M ATa, bTh⟩
  have DNm : Def P w K mg base "_law_name" 2 ["_law_bag_here"] spName := ⟨fNa, _, ANa.mgf, kNa, ok_name FNa DTk, bNa⟩
  have DDs : Def P w K mg base "_law_deeds" 14 ["_law_bag_here", "_law_left", "_law_deep"] (spDeeds K C 5) := ⟨fDs, _, ADs.mgf, kDs, ok_deeds FDs FDe B frm DTk DNm DTh ADs.mgf bDs ADe.mgf bDe 5, bDs⟩
  have DTo : Def P w K mg base "_law_top" 15 ["_law_bag_here", "_law_many"] (spTop K C) := ⟨fTo, _, ATo.mgf, kTo, ok_top FTo DDs, bTo⟩
  have SL : Spc P w K mg base C "__len__" 1 ["self"] (spLen C) := ⟨fLn, _, ⟨aLn, iLn⟩, ok_len FLn T, bLn⟩
  have SPE : Spc P w K mg base CP "__eq__" 21 ["self", "other"] (spPEq K C CP) := ⟨fPE, _, ⟨aPE, iPE⟩, ok_peq FPE T TP SE, bPE⟩
  have gRoN := ok_rowN (P := P) (w := w) (base := base) FRo T (PySem.W.mg_none_of X G z_reversed) M MXN
  have gRcN := ok_codesN (P := P) (w := w) (base := base) FRc FDc FPc ml frm fok DNu gRoN ARo.mgf kRo bRo ARc.mgf bRc ADc.mgf bDc APc.mgf bPc 9
  have gCoN := ok_codeOfN (P := P) (w := w) (base := base) FCo TP gRcN ARc.mgf kRc bRc
  have gIc := ok_isCode (P := P) (w := w) (base := base) FIc (PySem.W.mg_of X G o2) DPo
  have KCo : DefV P w K mg base "code_of" 33 ["program"] ["program"] (spCodeOf K C CP) := ⟨fCo, _, ACo.mgf, kCo, ok_codeOf FCo TP DRc, ⟨fun s us ws _ l1 l2 => match us, ws, l1, l2 with | [], [_], _, _ => .of_eq rfl, fun _ r2 => vals_rev r2⟩⟩
  have KPo : DefV P w K mg base "program_of" 34 ["thing"] ["thing"] (spProgOf K C CP) := ⟨fPo, _, APo.mgf, kPo, gPo, ⟨fun s us ws _ l1 l2 => match us, ws, l1, l2 with | [], [_], _, _ => .of_eq rfl, fun _ r2 => vals_rev r2⟩⟩
  have KIc : DefV P w K mg base "is_code" 35 ["thing"] ["thing"] (spIsCode C) := ⟨fIc, _, AIc.mgf, kIc, gIc, ⟨fun s us ws _ l1 l2 => match us, ws, l1, l2 with | [], [_], _, _ => .of_eq rfl, fun _ r2 => vals_rev r2⟩⟩
  have DNt : Def P w K mg base "_law_number_text" 1 ["_law_n"] spNt := ⟨fNt, _, ANt.mgf, kNt, ok_nt FNt, bNt⟩
  have DRt : Def P w K mg base "_law_row_text" 1 ["_law_texts"] (spRowText K) := ⟨fRtx, _, ARtx.mgf, kRtx, ok_rowText FRtx B, bRtx⟩
  have DLc : Def P w K mg base "_law_code" 14 ["_law_deeds_here"] (spLc16 K C 9) := ⟨fLc, _, ALc.mgf, kLc, ok_lc16 FLc ALc.mgf bLc B T (PySem.W.mg_none_of X G z_tuple) kCi kCt SS DNt DRt 9, bLc⟩
  have DGd : Def P w K mg base "_law_good" 36 ["_law_deeds_here"] (spGood16 K C) := ⟨fGd, _, AGd.mgf, kGd, ok_good16 FGd B T TP RC MP SS SL SE SPE gCoN ACo.mgf kCo bCo KCo KPo KIc DLc, bGd⟩
  exact ok_law FLaw B T TP MP SS ⟨fBa, _, ABa.mgf, kBa, ok_bag FBa B, bBa⟩ DTk DTh DTo DCo DGd
theorem walk {l : PySem.W.OpenLaw} {q : Program} {loose : List Str} {XP : (Str → Option Value) → Heap → Prop} {YP : World → Heap → Prop} {d : DefRec} {K : Params → PySem.W.Frag} (hn : l.most = some 63) (hdf : d.params.defaults = [])
    (hY : ∀ (w : World) (h : Heap), YP w h → (K w.params).In h)
    (F : ∀ (w : World) (mg : Str → Option Value) (fa : Addr) (h : Heap), (K w.params).In h → h.Ns mainGlobals mg → mg d.name = some (.ref fa) →
      ∃ fd : FuncData, (∀ (s : Shared) (u : Value), BindsTo s fd ⟨[u], []⟩ [("_law_script", u)]) ∧ ∀ base : Heap, (K w.params).In base → base.Ns mainGlobals mg → FnOk l.prog w (K w.params) mg base CX0 37 fa fd ["_law_script"] (spLaw (K w.params))) :
    PySem.W.WalkO q loose XP YP l.row.toRowW d [] (fun f vs => PySem.call f vs) :=
  L2.walk_of (n := 63) (k := 37) (x := "_law_script") (CX := fun _ => CX0) (sp := fun w => spLaw (K w.params)) hn (by decide) hdf ⟨rfl, by decide, by decide⟩ hY F (fun _ _ a ns hl _ hS => ⟨a, ns, rfl, hS, hl, fun _ => rfl⟩) fun _ _ _ _ _ z => z
end Js

set_option Elab.async false
set_option linter.all false
set_option maxRecDepth 100000
set_option maxHeartbeats 0
namespace Js
open PySem PySem.Spec PyProof.Rows L2
theorem kyl_of {P : Params} : ∀ {l : List DictEntry} {ks : List Str}, l.map He.keyOf = He.keysIn P ks → KyL ks l
  | [], [], _ => trivial
  | [], _ :: _, h => by cases h
  | _ :: _, [], h => by cases h
  | e :: r, k :: ks, h => by
    have h1 : He.keyOf e :: r.map He.keyOf = some (k, PyData.keyHash P k) :: He.keysIn P ks := h
    injection h1 with h2 h3
    refine ⟨?_, kyl_of h3⟩
    unfold He.keyOf at h2
    split at h2
    · rename_i x t q
      have h4 := Option.some.inj h2
      obtain ⟨h5, h6⟩ := Prod.mk.inj h4
      exact ⟨t, by rw [q, h5]⟩
    · cases h2
theorem hfacts {P : Program} {w : World} {K : PySem.W.Frag} {h : Heap} {mg : Str → Option Value} {fa : Addr} (X : K.In h) (G : h.Ns mainGlobals mg) (hfa : mg "law" = some (.ref fa)) (cT : He.SaysT [] hfn hts w K) (cX : hexs K = true)
    : ∃ fd : FuncData, (∀ (s : Shared) (v : Value), BindsTo s fd ⟨[v], []⟩ [("_law_script", v)]) ∧ ∀ base : Heap, K.In base → base.Ns mainGlobals mg → FnOk P w K mg base CX0 37 fa fd ["_law_script"] (spLaw K) := by
  have cD := cT.d
  have cE : (hex.all fun f => f K) = true := cX
  have aC : PySem.W.nsIn K mainGlobals "Thing" = some (some (.ref (He.ga K "Thing"))) := of_decide_eq_true (ex_at cE 0 (f := fun K => decide (PySem.W.nsIn K mainGlobals "Thing" = some (some (.ref (He.ga K "Thing"))))) rfl)
  have pg : PySem.W.plainGet K (He.ga K "Thing") Str.empty = true := of_decide_eq_true (ex_at cE 1 (f := fun K => decide (PySem.W.plainGet K (He.ga K "Thing") Str.empty = true)) rfl)
  have hd : PySem.W.hasDictIn K (He.ga K "Thing") = true := of_decide_eq_true (ex_at cE 2 (f := fun K => decide (PySem.W.hasDictIn K (He.ga K "Thing") = true)) rfl)
  have po : PySem.W.plainOver K (He.ga K "Thing") = true := of_decide_eq_true (ex_at cE 3 (f := fun K => decide (PySem.W.plainOver K (He.ga K "Thing") = true)) rfl)
  have sa : PySem.W.findIn K (.ref (He.ga K "Thing")) "__setattr__" = some (some (.builtin "object.__setattr__")) := of_decide_eq_true (ex_at cE 4 (f := fun K => decide (PySem.W.findIn K (.ref (He.ga K "Thing")) "__setattr__" = some (some (.builtin "object.__setattr__")))) rfl)
  have mkC : PySem.W.makesIn K (He.ga K "Thing") = true := of_decide_eq_true (ex_at cE 5 (f := fun K => decide (PySem.W.makesIn K (He.ga K "Thing") = true)) rfl)
  have kc : PySem.W.keepIn K (.ref (He.ga K "Thing")) = true := of_decide_eq_true (ex_at cE 6 (f := fun K => decide (PySem.W.keepIn K (.ref (He.ga K "Thing")) = true)) rfl)
  have nF : PySem.W.findIn K (.ref (He.ga K "Thing")) "first" = some none := of_decide_eq_true (ex_at cE 7 (f := fun K => decide (PySem.W.findIn K (.ref (He.ga K "Thing")) "first" = some none)) rfl)
  have nS : PySem.W.findIn K (.ref (He.ga K "Thing")) "second" = some none := of_decide_eq_true (ex_at cE 8 (f := fun K => decide (PySem.W.findIn K (.ref (He.ga K "Thing")) "second" = some none)) rfl)
  have nZ : PySem.W.findIn K (.ref (He.ga K "Thing")) "size" = some none := of_decide_eq_true (ex_at cE 9 (f := fun K => decide (PySem.W.findIn K (.ref (He.ga K "Thing")) "size" = some none)) rfl)
  have ca : PySem.W.findIn K (.ref (He.ga K "Thing")) "__class__" = some (some (.builtin "object.__class__")) := of_decide_eq_true (ex_at cE 10 (f := fun K => decide (PySem.W.findIn K (.ref (He.ga K "Thing")) "__class__" = some (some (.builtin "object.__class__")))) rfl)
  have cn : PySem.W.specialIn K (.builtin "object.__class__") "__get__" = some (some (.builtin "getset_descriptor.__get__")) := of_decide_eq_true (ex_at cE 11 (f := fun K => decide (PySem.W.specialIn K (.builtin "object.__class__") "__get__" = some (some (.builtin "getset_descriptor.__get__")))) rfl)
  have ct : PySem.W.takesIn K (.builtin "object.__class__") = some true := of_decide_eq_true (ex_at cE 12 (f := fun K => decide (PySem.W.takesIn K (.builtin "object.__class__") = some true)) rfl)
  have cm : PySem.W.mroIn K (He.ga K "Thing") (.type "object") = some true := of_decide_eq_true (ex_at cE 13 (f := fun K => decide (PySem.W.mroIn K (He.ga K "Thing") (.type "object") = some true)) rfl)
  have neC : PySem.W.findIn K (.ref (He.ga K "Thing")) "__ne__" = some (some (.builtin "object.__ne__")) := of_decide_eq_true (ex_at cE 14 (f := fun K => decide (PySem.W.findIn K (.ref (He.ga K "Thing")) "__ne__" = some (some (.builtin "object.__ne__")))) rfl)
  obtain ⟨_, aM⟩ := int_raw (ex_at cE 15 (f := fun K => intB K mainGlobals "MOST_PAIRS" 4000) rfl)
  have aI : PySem.W.findIn K (.ref (He.ga K "Thing")) "__init__" = some (some (.ref (He.ma K (He.ga K "Thing") "__init__"))) := of_decide_eq_true (ex_at cE 16 (f := fun K => decide (PySem.W.findIn K (.ref (He.ga K "Thing")) "__init__" = some (some (.ref (He.ma K (He.ga K "Thing") "__init__"))))) rfl)
  have iI : PySem.W.isFn K (.ref (He.ma K (He.ga K "Thing") "__init__")) = true := of_decide_eq_true (ex_at cE 17 (f := fun K => decide (PySem.W.isFn K (.ref (He.ma K (He.ga K "Thing") "__init__")) = true)) rfl)
  obtain ⟨_, _, _, _, _, _, _, _, _, _, _, _, its_lT, _, _, lI, cI, lT, vv⟩ := fn_rawD cD 0 ("Thing", some "__init__") "__init__" "Thing.__init__" sInit (.non) [.non] rfl
  obtain ⟨l_lT⟩ := its_lT
  change Vals _ l_lT at vv
  obtain _ | ⟨h_lT0, v_lT0⟩ := vv
  obtain rfl := h_lT0
  obtain _ | ⟨h_lT1, v_lT1⟩ := v_lT0
  obtain rfl := h_lT1
  cases v_lT1
  have kI : PySem.W.keepIn K (.ref (He.ma K (He.ga K "Thing") "__init__")) = true := of_decide_eq_true (ex_at cE 18 (f := fun K => decide (PySem.W.keepIn K (.ref (He.ma K (He.ga K "Thing") "__init__")) = true)) rfl)
  have aEq : PySem.W.findIn K (.ref (He.ga K "Thing")) "__eq__" = some (some (.ref (He.ma K (He.ga K "Thing") "__eq__"))) := of_decide_eq_true (ex_at cE 19 (f := fun K => decide (PySem.W.findIn K (.ref (He.ga K "Thing")) "__eq__" = some (some (.ref (He.ma K (He.ga K "Thing") "__eq__"))))) rfl)
  have iEq : PySem.W.isFn K (.ref (He.ma K (He.ga K "Thing") "__eq__")) = true := of_decide_eq_true (ex_at cE 20 (f := fun K => decide (PySem.W.isFn K (.ref (He.ma K (He.ga K "Thing") "__eq__")) = true)) rfl)
  obtain ⟨_, _, _, _, _, _, _, _, _, lEq, cEq⟩ := fn_raw cD 1 ("Thing", some "__eq__") "__eq__" "Thing.__eq__" sEq rfl
  have kEq : PySem.W.keepIn K (.ref (He.ma K (He.ga K "Thing") "__eq__")) = true := of_decide_eq_true (ex_at cE 21 (f := fun K => decide (PySem.W.keepIn K (.ref (He.ma K (He.ga K "Thing") "__eq__")) = true)) rfl)
  have aLn : PySem.W.findIn K (.ref (He.ga K "Thing")) "__len__" = some (some (.ref (He.ma K (He.ga K "Thing") "__len__"))) := of_decide_eq_true (ex_at cE 22 (f := fun K => decide (PySem.W.findIn K (.ref (He.ga K "Thing")) "__len__" = some (some (.ref (He.ma K (He.ga K "Thing") "__len__"))))) rfl)
  have iLn : PySem.W.isFn K (.ref (He.ma K (He.ga K "Thing") "__len__")) = true := of_decide_eq_true (ex_at cE 23 (f := fun K => decide (PySem.W.isFn K (.ref (He.ma K (He.ga K "Thing") "__len__")) = true)) rfl)
  obtain ⟨_, _, _, _, _, _, _, _, _, lLn, cLn⟩ := fn_raw cD 2 ("Thing", some "__len__") "__len__" "Thing.__len__" sLen rfl
  have kLn : PySem.W.keepIn K (.ref (He.ma K (He.ga K "Thing") "__len__")) = true := of_decide_eq_true (ex_at cE 24 (f := fun K => decide (PySem.W.keepIn K (.ref (He.ma K (He.ga K "Thing") "__len__")) = true)) rfl)
  have aSt : PySem.W.findIn K (.ref (He.ga K "Thing")) "__str__" = some (some (.ref (He.ma K (He.ga K "Thing") "__str__"))) := of_decide_eq_true (ex_at cE 25 (f := fun K => decide (PySem.W.findIn K (.ref (He.ga K "Thing")) "__str__" = some (some (.ref (He.ma K (He.ga K "Thing") "__str__"))))) rfl)
  have iSt : PySem.W.isFn K (.ref (He.ma K (He.ga K "Thing") "__str__")) = true := of_decide_eq_true (ex_at cE 26 (f := fun K => decide (PySem.W.isFn K (.ref (He.ma K (He.ga K "Thing") "__str__")) = true)) rfl)
  obtain ⟨_, _, _, _, _, _, _, _, _, lSt, cSt⟩ := fn_raw cD 3 ("Thing", some "__str__") "__str__" "Thing.__str__" sStr rfl
  have kSt : PySem.W.keepIn K (.ref (He.ma K (He.ga K "Thing") "__str__")) = true := of_decide_eq_true (ex_at cE 27 (f := fun K => decide (PySem.W.keepIn K (.ref (He.ma K (He.ga K "Thing") "__str__")) = true)) rfl)
  have aPa : PySem.W.nsIn K mainGlobals "pairs_in" = some (some (.ref (He.ga K "pairs_in"))) := of_decide_eq_true (ex_at cE 28 (f := fun K => decide (PySem.W.nsIn K mainGlobals "pairs_in" = some (some (.ref (He.ga K "pairs_in"))))) rfl)
  obtain ⟨_, _, _, _, _, _, _, _, _, lPa, cPa⟩ := fn_raw cD 4 ("pairs_in", none) "pairs_in" "pairs_in" sPairs rfl
  have kPa : PySem.W.keepIn K (.ref (He.ga K "pairs_in")) = true := of_decide_eq_true (ex_at cE 29 (f := fun K => decide (PySem.W.keepIn K (.ref (He.ga K "pairs_in")) = true)) rfl)
  have aAl : PySem.W.nsIn K mainGlobals "alike" = some (some (.ref (He.ga K "alike"))) := of_decide_eq_true (ex_at cE 30 (f := fun K => decide (PySem.W.nsIn K mainGlobals "alike" = some (some (.ref (He.ga K "alike"))))) rfl)
  obtain ⟨_, _, _, _, _, _, _, _, _, lAl, cAl⟩ := fn_raw cD 5 ("alike", none) "alike" "alike" sAlike rfl
  have kAl : PySem.W.keepIn K (.ref (He.ga K "alike")) = true := of_decide_eq_true (ex_at cE 31 (f := fun K => decide (PySem.W.keepIn K (.ref (He.ga K "alike")) = true)) rfl)
  have aSg : PySem.W.nsIn K mainGlobals "signs" = some (some (.ref (He.ga K "signs"))) := of_decide_eq_true (ex_at cE 32 (f := fun K => decide (PySem.W.nsIn K mainGlobals "signs" = some (some (.ref (He.ga K "signs"))))) rfl)
  obtain ⟨_, _, _, _, _, _, _, _, _, lSg, cSg⟩ := fn_raw cD 6 ("signs", none) "signs" "signs" sSigns rfl
  have kSg : PySem.W.keepIn K (.ref (He.ga K "signs")) = true := of_decide_eq_true (ex_at cE 33 (f := fun K => decide (PySem.W.keepIn K (.ref (He.ga K "signs")) = true)) rfl)
  have aIn : PySem.W.nsIn K mainGlobals "is_name" = some (some (.ref (He.ga K "is_name"))) := of_decide_eq_true (ex_at cE 34 (f := fun K => decide (PySem.W.nsIn K mainGlobals "is_name" = some (some (.ref (He.ga K "is_name"))))) rfl)
  obtain ⟨_, _, _, _, _, _, _, _, _, lIn, cIn⟩ := fn_raw cD 7 ("is_name", none) "is_name" "is_name" sIsName rfl
  have kIn : PySem.W.keepIn K (.ref (He.ga K "is_name")) = true := of_decide_eq_true (ex_at cE 35 (f := fun K => decide (PySem.W.keepIn K (.ref (He.ga K "is_name")) = true)) rfl)
  have aFt : PySem.W.nsIn K mainGlobals "fits" = some (some (.ref (He.ga K "fits"))) := of_decide_eq_true (ex_at cE 36 (f := fun K => decide (PySem.W.nsIn K mainGlobals "fits" = some (some (.ref (He.ga K "fits"))))) rfl)
  obtain ⟨_, _, _, _, _, _, _, _, _, lFt, cFt⟩ := fn_raw cD 8 ("fits", none) "fits" "fits" sFits rfl
  have kFt : PySem.W.keepIn K (.ref (He.ga K "fits")) = true := of_decide_eq_true (ex_at cE 37 (f := fun K => decide (PySem.W.keepIn K (.ref (He.ga K "fits")) = true)) rfl)
  have aHf : PySem.W.nsIn K mainGlobals "has_form" = some (some (.ref (He.ga K "has_form"))) := of_decide_eq_true (ex_at cE 38 (f := fun K => decide (PySem.W.nsIn K mainGlobals "has_form" = some (some (.ref (He.ga K "has_form"))))) rfl)
  obtain ⟨_, _, _, _, _, _, _, _, _, lHf, cHf⟩ := fn_raw cD 9 ("has_form", none) "has_form" "has_form" sHasForm rfl
  have kHf : PySem.W.keepIn K (.ref (He.ga K "has_form")) = true := of_decide_eq_true (ex_at cE 39 (f := fun K => decide (PySem.W.keepIn K (.ref (He.ga K "has_form")) = true)) rfl)
  have aRi : PySem.W.nsIn K mainGlobals "rows_in" = some (some (.ref (He.ga K "rows_in"))) := of_decide_eq_true (ex_at cE 40 (f := fun K => decide (PySem.W.nsIn K mainGlobals "rows_in" = some (some (.ref (He.ga K "rows_in"))))) rfl)
  obtain ⟨_, _, _, _, _, _, _, _, _, lRi, cRi⟩ := fn_raw cD 10 ("rows_in", none) "rows_in" "rows_in" sRowsIn rfl
  have kRi : PySem.W.keepIn K (.ref (He.ga K "rows_in")) = true := of_decide_eq_true (ex_at cE 41 (f := fun K => decide (PySem.W.keepIn K (.ref (He.ga K "rows_in")) = true)) rfl)
  have aLk : PySem.W.nsIn K mainGlobals "look_through" = some (some (.ref (He.ga K "look_through"))) := of_decide_eq_true (ex_at cE 42 (f := fun K => decide (PySem.W.nsIn K mainGlobals "look_through" = some (some (.ref (He.ga K "look_through"))))) rfl)
  obtain ⟨_, _, _, _, _, _, _, _, _, lLk, cLk⟩ := fn_raw cD 11 ("look_through", none) "look_through" "look_through" sLook rfl
  have kLk : PySem.W.keepIn K (.ref (He.ga K "look_through")) = true := of_decide_eq_true (ex_at cE 43 (f := fun K => decide (PySem.W.keepIn K (.ref (He.ga K "look_through")) = true)) rfl)
  have aLy : PySem.W.nsIn K mainGlobals "lay_out" = some (some (.ref (He.ga K "lay_out"))) := of_decide_eq_true (ex_at cE 44 (f := fun K => decide (PySem.W.nsIn K mainGlobals "lay_out" = some (some (.ref (He.ga K "lay_out"))))) rfl)
  obtain ⟨_, _, _, _, _, _, _, _, _, lLy, cLy⟩ := fn_raw cD 12 ("lay_out", none) "lay_out" "lay_out" sLay rfl
  have kLy : PySem.W.keepIn K (.ref (He.ga K "lay_out")) = true := of_decide_eq_true (ex_at cE 45 (f := fun K => decide (PySem.W.keepIn K (.ref (He.ga K "lay_out")) = true)) rfl)
  have aNu : PySem.W.nsIn K mainGlobals "number" = some (some (.ref (He.ga K "number"))) := of_decide_eq_true (ex_at cE 46 (f := fun K => decide (PySem.W.nsIn K mainGlobals "number" = some (some (.ref (He.ga K "number"))))) rfl)
  obtain ⟨_, _, _, _, _, _, _, _, _, lNu, cNu⟩ := fn_raw cD 13 ("number", none) "number" "number" sNumber rfl
  have kNu : PySem.W.keepIn K (.ref (He.ga K "number")) = true := of_decide_eq_true (ex_at cE 47 (f := fun K => decide (PySem.W.keepIn K (.ref (He.ga K "number")) = true)) rfl)
  have aRo : PySem.W.nsIn K mainGlobals "row" = some (some (.ref (He.ga K "row"))) := of_decide_eq_true (ex_at cE 48 (f := fun K => decide (PySem.W.nsIn K mainGlobals "row" = some (some (.ref (He.ga K "row"))))) rfl)
  obtain ⟨_, _, _, _, _, _, _, _, _, lRo, cRo⟩ := fn_raw cD 14 ("row", none) "row" "row" sRow rfl
  have kRo : PySem.W.keepIn K (.ref (He.ga K "row")) = true := of_decide_eq_true (ex_at cE 49 (f := fun K => decide (PySem.W.keepIn K (.ref (He.ga K "row")) = true)) rfl)
  have aCo : PySem.W.nsIn K mainGlobals "code_of" = some (some (.ref (He.ga K "code_of"))) := of_decide_eq_true (ex_at cE 50 (f := fun K => decide (PySem.W.nsIn K mainGlobals "code_of" = some (some (.ref (He.ga K "code_of"))))) rfl)
  obtain ⟨_, _, _, _, _, _, _, _, _, lCo, cCo⟩ := fn_raw cD 15 ("code_of", none) "code_of" "code_of" sCodeOf rfl
  have kCo : PySem.W.keepIn K (.ref (He.ga K "code_of")) = true := of_decide_eq_true (ex_at cE 51 (f := fun K => decide (PySem.W.keepIn K (.ref (He.ga K "code_of")) = true)) rfl)
  have aRc : PySem.W.nsIn K mainGlobals "row_code" = some (some (.ref (He.ga K "row_code"))) := of_decide_eq_true (ex_at cE 52 (f := fun K => decide (PySem.W.nsIn K mainGlobals "row_code" = some (some (.ref (He.ga K "row_code"))))) rfl)
  obtain ⟨_, _, _, _, _, _, _, _, _, lRc, cRc⟩ := fn_raw cD 16 ("row_code", none) "row_code" "row_code" sRowC rfl
  have kRc : PySem.W.keepIn K (.ref (He.ga K "row_code")) = true := of_decide_eq_true (ex_at cE 53 (f := fun K => decide (PySem.W.keepIn K (.ref (He.ga K "row_code")) = true)) rfl)
  have aDc : PySem.W.nsIn K mainGlobals "deed_code" = some (some (.ref (He.ga K "deed_code"))) := of_decide_eq_true (ex_at cE 54 (f := fun K => decide (PySem.W.nsIn K mainGlobals "deed_code" = some (some (.ref (He.ga K "deed_code"))))) rfl)
  obtain ⟨_, _, _, _, _, _, _, _, _, lDc, cDc⟩ := fn_raw cD 17 ("deed_code", none) "deed_code" "deed_code" sDeedC rfl
  have kDc : PySem.W.keepIn K (.ref (He.ga K "deed_code")) = true := of_decide_eq_true (ex_at cE 55 (f := fun K => decide (PySem.W.keepIn K (.ref (He.ga K "deed_code")) = true)) rfl)
  have aPc : PySem.W.nsIn K mainGlobals "part_code" = some (some (.ref (He.ga K "part_code"))) := of_decide_eq_true (ex_at cE 56 (f := fun K => decide (PySem.W.nsIn K mainGlobals "part_code" = some (some (.ref (He.ga K "part_code"))))) rfl)
  obtain ⟨_, _, _, _, _, _, _, _, _, lPc, cPc⟩ := fn_raw cD 18 ("part_code", none) "part_code" "part_code" sPartC rfl
  have kPc : PySem.W.keepIn K (.ref (He.ga K "part_code")) = true := of_decide_eq_true (ex_at cE 57 (f := fun K => decide (PySem.W.keepIn K (.ref (He.ga K "part_code")) = true)) rfl)
  have aCn : PySem.W.nsIn K mainGlobals "counted" = some (some (.ref (He.ga K "counted"))) := of_decide_eq_true (ex_at cE 58 (f := fun K => decide (PySem.W.nsIn K mainGlobals "counted" = some (some (.ref (He.ga K "counted"))))) rfl)
  obtain ⟨_, _, _, _, _, _, _, _, _, lCn, cCn⟩ := fn_raw cD 19 ("counted", none) "counted" "counted" sCounted rfl
  have kCn : PySem.W.keepIn K (.ref (He.ga K "counted")) = true := of_decide_eq_true (ex_at cE 59 (f := fun K => decide (PySem.W.keepIn K (.ref (He.ga K "counted")) = true)) rfl)
  have aPp : PySem.W.nsIn K mainGlobals "parts" = some (some (.ref (He.ga K "parts"))) := of_decide_eq_true (ex_at cE 60 (f := fun K => decide (PySem.W.nsIn K mainGlobals "parts" = some (some (.ref (He.ga K "parts"))))) rfl)
  obtain ⟨_, _, _, _, _, _, _, _, _, lPp, cPp⟩ := fn_raw cD 20 ("parts", none) "parts" "parts" sParts rfl
  have kPp : PySem.W.keepIn K (.ref (He.ga K "parts")) = true := of_decide_eq_true (ex_at cE 61 (f := fun K => decide (PySem.W.keepIn K (.ref (He.ga K "parts")) = true)) rfl)
  have aPo : PySem.W.nsIn K mainGlobals "program_of" = some (some (.ref (He.ga K "program_of"))) := of_decide_eq_true (ex_at cE 62 (f := fun K => decide (PySem.W.nsIn K mainGlobals "program_of" = some (some (.ref (He.ga K "program_of"))))) rfl)
  obtain ⟨_, _, _, _, _, _, _, _, _, lPo, cPo⟩ := fn_raw cD 21 ("program_of", none) "program_of" "program_of" sProgOf rfl
  have kPo : PySem.W.keepIn K (.ref (He.ga K "program_of")) = true := of_decide_eq_true (ex_at cE 63 (f := fun K => decide (PySem.W.keepIn K (.ref (He.ga K "program_of")) = true)) rfl)
  have aOt : PySem.W.nsIn K mainGlobals "row_told" = some (some (.ref (He.ga K "row_told"))) := of_decide_eq_true (ex_at cE 64 (f := fun K => decide (PySem.W.nsIn K mainGlobals "row_told" = some (some (.ref (He.ga K "row_told"))))) rfl)
  obtain ⟨_, _, _, _, _, _, _, _, _, lOt, cOt⟩ := fn_raw cD 22 ("row_told", none) "row_told" "row_told" sRowT rfl
  have kOt : PySem.W.keepIn K (.ref (He.ga K "row_told")) = true := of_decide_eq_true (ex_at cE 65 (f := fun K => decide (PySem.W.keepIn K (.ref (He.ga K "row_told")) = true)) rfl)
  have aDt : PySem.W.nsIn K mainGlobals "deed_told" = some (some (.ref (He.ga K "deed_told"))) := of_decide_eq_true (ex_at cE 66 (f := fun K => decide (PySem.W.nsIn K mainGlobals "deed_told" = some (some (.ref (He.ga K "deed_told"))))) rfl)
  obtain ⟨_, _, _, _, _, _, _, _, _, lDt, cDt⟩ := fn_raw cD 23 ("deed_told", none) "deed_told" "deed_told" sDeedT rfl
  have kDt : PySem.W.keepIn K (.ref (He.ga K "deed_told")) = true := of_decide_eq_true (ex_at cE 67 (f := fun K => decide (PySem.W.keepIn K (.ref (He.ga K "deed_told")) = true)) rfl)
  have aKt : PySem.W.nsIn K mainGlobals "kind_told" = some (some (.ref (He.ga K "kind_told"))) := of_decide_eq_true (ex_at cE 68 (f := fun K => decide (PySem.W.nsIn K mainGlobals "kind_told" = some (some (.ref (He.ga K "kind_told"))))) rfl)
  obtain ⟨_, _, _, _, _, _, _, _, _, lKt, cKt⟩ := fn_raw cD 24 ("kind_told", none) "kind_told" "kind_told" sKindT rfl
  have kKt : PySem.W.keepIn K (.ref (He.ga K "kind_told")) = true := of_decide_eq_true (ex_at cE 69 (f := fun K => decide (PySem.W.keepIn K (.ref (He.ga K "kind_told")) = true)) rfl)
  have aPt : PySem.W.nsIn K mainGlobals "part_told" = some (some (.ref (He.ga K "part_told"))) := of_decide_eq_true (ex_at cE 70 (f := fun K => decide (PySem.W.nsIn K mainGlobals "part_told" = some (some (.ref (He.ga K "part_told"))))) rfl)
  obtain ⟨_, _, _, _, _, _, _, _, _, lPt, cPt⟩ := fn_raw cD 25 ("part_told", none) "part_told" "part_told" sPartT rfl
  have kPt : PySem.W.keepIn K (.ref (He.ga K "part_told")) = true := of_decide_eq_true (ex_at cE 71 (f := fun K => decide (PySem.W.keepIn K (.ref (He.ga K "part_told")) = true)) rfl)
  have aIc : PySem.W.nsIn K mainGlobals "is_code" = some (some (.ref (He.ga K "is_code"))) := of_decide_eq_true (ex_at cE 72 (f := fun K => decide (PySem.W.nsIn K mainGlobals "is_code" = some (some (.ref (He.ga K "is_code"))))) rfl)
  obtain ⟨_, _, _, _, _, _, _, _, _, lIc, cIc⟩ := fn_raw cD 26 ("is_code", none) "is_code" "is_code" sIsCode rfl
  have kIc : PySem.W.keepIn K (.ref (He.ga K "is_code")) = true := of_decide_eq_true (ex_at cE 73 (f := fun K => decide (PySem.W.keepIn K (.ref (He.ga K "is_code")) = true)) rfl)
  have aBa : PySem.W.nsIn K mainGlobals "_law_bag" = some (some (.ref (He.ga K "_law_bag"))) := of_decide_eq_true (ex_at cE 74 (f := fun K => decide (PySem.W.nsIn K mainGlobals "_law_bag" = some (some (.ref (He.ga K "_law_bag"))))) rfl)
  obtain ⟨_, _, _, _, _, _, _, _, _, lBa, cBa⟩ := fn_raw cD 27 ("_law_bag", none) "_law_bag" "_law_bag" sBag rfl
  have kBa : PySem.W.keepIn K (.ref (He.ga K "_law_bag")) = true := of_decide_eq_true (ex_at cE 75 (f := fun K => decide (PySem.W.keepIn K (.ref (He.ga K "_law_bag")) = true)) rfl)
  have aTa : PySem.W.nsIn K mainGlobals "_law_take" = some (some (.ref (He.ga K "_law_take"))) := of_decide_eq_true (ex_at cE 76 (f := fun K => decide (PySem.W.nsIn K mainGlobals "_law_take" = some (some (.ref (He.ga K "_law_take"))))) rfl)
  obtain ⟨_, _, _, _, _, _, _, _, _, lTa, cTa⟩ := fn_raw cD 28 ("_law_take", none) "_law_take" "_law_take" sTake rfl
  have kTa : PySem.W.keepIn K (.ref (He.ga K "_law_take")) = true := of_decide_eq_true (ex_at cE 77 (f := fun K => decide (PySem.W.keepIn K (.ref (He.ga K "_law_take")) = true)) rfl)
  have aTh : PySem.W.nsIn K mainGlobals "_law_thing" = some (some (.ref (He.ga K "_law_thing"))) := of_decide_eq_true (ex_at cE 78 (f := fun K => decide (PySem.W.nsIn K mainGlobals "_law_thing" = some (some (.ref (He.ga K "_law_thing"))))) rfl)
  obtain ⟨_, _, _, _, _, _, _, _, _, lTh, cTh⟩ := fn_raw cD 29 ("_law_thing", none) "_law_thing" "_law_thing" sThing rfl
  have kTh : PySem.W.keepIn K (.ref (He.ga K "_law_thing")) = true := of_decide_eq_true (ex_at cE 79 (f := fun K => decide (PySem.W.keepIn K (.ref (He.ga K "_law_thing")) = true)) rfl)
  have aNa : PySem.W.nsIn K mainGlobals "_law_name" = some (some (.ref (He.ga K "_law_name"))) := of_decide_eq_true (ex_at cE 80 (f := fun K => decide (PySem.W.nsIn K mainGlobals "_law_name" = some (some (.ref (He.ga K "_law_name"))))) rfl)
  obtain ⟨_, _, _, _, _, _, _, _, _, lNa, cNa⟩ := fn_raw cD 30 ("_law_name", none) "_law_name" "_law_name" sName rfl
  have kNa : PySem.W.keepIn K (.ref (He.ga K "_law_name")) = true := of_decide_eq_true (ex_at cE 81 (f := fun K => decide (PySem.W.keepIn K (.ref (He.ga K "_law_name")) = true)) rfl)
  have aDe : PySem.W.nsIn K mainGlobals "_law_deed" = some (some (.ref (He.ga K "_law_deed"))) := of_decide_eq_true (ex_at cE 82 (f := fun K => decide (PySem.W.nsIn K mainGlobals "_law_deed" = some (some (.ref (He.ga K "_law_deed"))))) rfl)
  obtain ⟨_, _, _, _, _, _, _, _, _, lDe, cDe⟩ := fn_raw cD 31 ("_law_deed", none) "_law_deed" "_law_deed" sDeed rfl
  have kDe : PySem.W.keepIn K (.ref (He.ga K "_law_deed")) = true := of_decide_eq_true (ex_at cE 83 (f := fun K => decide (PySem.W.keepIn K (.ref (He.ga K "_law_deed")) = true)) rfl)
  have aDs : PySem.W.nsIn K mainGlobals "_law_deeds" = some (some (.ref (He.ga K "_law_deeds"))) := of_decide_eq_true (ex_at cE 84 (f := fun K => decide (PySem.W.nsIn K mainGlobals "_law_deeds" = some (some (.ref (He.ga K "_law_deeds"))))) rfl)
  obtain ⟨_, _, _, _, _, _, _, _, _, lDs, cDs⟩ := fn_raw cD 32 ("_law_deeds", none) "_law_deeds" "_law_deeds" sDeeds rfl
  have kDs : PySem.W.keepIn K (.ref (He.ga K "_law_deeds")) = true := of_decide_eq_true (ex_at cE 85 (f := fun K => decide (PySem.W.keepIn K (.ref (He.ga K "_law_deeds")) = true)) rfl)
  have aTo : PySem.W.nsIn K mainGlobals "_law_top" = some (some (.ref (He.ga K "_law_top"))) := of_decide_eq_true (ex_at cE 86 (f := fun K => decide (PySem.W.nsIn K mainGlobals "_law_top" = some (some (.ref (He.ga K "_law_top"))))) rfl)
  obtain ⟨_, _, _, _, _, _, _, _, _, lTo, cTo⟩ := fn_raw cD 33 ("_law_top", none) "_law_top" "_law_top" sTop rfl
  have kTo : PySem.W.keepIn K (.ref (He.ga K "_law_top")) = true := of_decide_eq_true (ex_at cE 87 (f := fun K => decide (PySem.W.keepIn K (.ref (He.ga K "_law_top")) = true)) rfl)
  have aNt : PySem.W.nsIn K mainGlobals "_law_number_text" = some (some (.ref (He.ga K "_law_number_text"))) := of_decide_eq_true (ex_at cE 88 (f := fun K => decide (PySem.W.nsIn K mainGlobals "_law_number_text" = some (some (.ref (He.ga K "_law_number_text"))))) rfl)
  obtain ⟨_, _, _, _, _, _, _, _, _, lNt, cNt⟩ := fn_raw cD 34 ("_law_number_text", none) "_law_number_text" "_law_number_text" sNt16 rfl
  have kNt : PySem.W.keepIn K (.ref (He.ga K "_law_number_text")) = true := of_decide_eq_true (ex_at cE 89 (f := fun K => decide (PySem.W.keepIn K (.ref (He.ga K "_law_number_text")) = true)) rfl)
  have aRtx : PySem.W.nsIn K mainGlobals "_law_row_text" = some (some (.ref (He.ga K "_law_row_text"))) := of_decide_eq_true (ex_at cE 90 (f := fun K => decide (PySem.W.nsIn K mainGlobals "_law_row_text" = some (some (.ref (He.ga K "_law_row_text"))))) rfl)
  obtain ⟨_, _, _, _, _, _, _, _, _, lRtx, cRtx⟩ := fn_raw cD 35 ("_law_row_text", none) "_law_row_text" "_law_row_text" sRowText rfl
  have kRtx : PySem.W.keepIn K (.ref (He.ga K "_law_row_text")) = true := of_decide_eq_true (ex_at cE 91 (f := fun K => decide (PySem.W.keepIn K (.ref (He.ga K "_law_row_text")) = true)) rfl)
  have aLc : PySem.W.nsIn K mainGlobals "_law_code" = some (some (.ref (He.ga K "_law_code"))) := of_decide_eq_true (ex_at cE 92 (f := fun K => decide (PySem.W.nsIn K mainGlobals "_law_code" = some (some (.ref (He.ga K "_law_code"))))) rfl)
  obtain ⟨_, _, _, _, _, _, _, _, _, lLc, cLc⟩ := fn_raw cD 36 ("_law_code", none) "_law_code" "_law_code" sLc16 rfl
  have kLc : PySem.W.keepIn K (.ref (He.ga K "_law_code")) = true := of_decide_eq_true (ex_at cE 93 (f := fun K => decide (PySem.W.keepIn K (.ref (He.ga K "_law_code")) = true)) rfl)
  have aGd : PySem.W.nsIn K mainGlobals "_law_good" = some (some (.ref (He.ga K "_law_good"))) := of_decide_eq_true (ex_at cE 94 (f := fun K => decide (PySem.W.nsIn K mainGlobals "_law_good" = some (some (.ref (He.ga K "_law_good"))))) rfl)
  obtain ⟨_, _, _, _, _, _, _, _, _, lGd, cGd⟩ := fn_raw cD 37 ("_law_good", none) "_law_good" "_law_good" sGood16 rfl
  have kGd : PySem.W.keepIn K (.ref (He.ga K "_law_good")) = true := of_decide_eq_true (ex_at cE 95 (f := fun K => decide (PySem.W.keepIn K (.ref (He.ga K "_law_good")) = true)) rfl)
  have aLaw : PySem.W.nsIn K mainGlobals "law" = some (some (.ref (He.ga K "law"))) := of_decide_eq_true (ex_at cE 96 (f := fun K => decide (PySem.W.nsIn K mainGlobals "law" = some (some (.ref (He.ga K "law"))))) rfl)
  obtain ⟨_, _, _, _, _, _, _, _, _, lLaw, cLaw⟩ := fn_raw cD 38 ("law", none) "law" "law" sLaw rfl
  have kLaw : PySem.W.keepIn K (.ref (He.ga K "law")) = true := of_decide_eq_true (ex_at cE 97 (f := fun K => decide (PySem.W.keepIn K (.ref (He.ga K "law")) = true)) rfl)
  have aP : PySem.W.nsIn K mainGlobals "Program" = some (some (.ref (He.ga K "Program"))) := of_decide_eq_true (ex_at cE 98 (f := fun K => decide (PySem.W.nsIn K mainGlobals "Program" = some (some (.ref (He.ga K "Program"))))) rfl)
  have pgP : PySem.W.plainGet K (He.ga K "Program") Str.empty = true := of_decide_eq_true (ex_at cE 99 (f := fun K => decide (PySem.W.plainGet K (He.ga K "Program") Str.empty = true)) rfl)
  have hdP : PySem.W.hasDictIn K (He.ga K "Program") = true := of_decide_eq_true (ex_at cE 100 (f := fun K => decide (PySem.W.hasDictIn K (He.ga K "Program") = true)) rfl)
  have poP : PySem.W.plainOver K (He.ga K "Program") = true := of_decide_eq_true (ex_at cE 101 (f := fun K => decide (PySem.W.plainOver K (He.ga K "Program") = true)) rfl)
  have saP : PySem.W.findIn K (.ref (He.ga K "Program")) "__setattr__" = some (some (.builtin "object.__setattr__")) := of_decide_eq_true (ex_at cE 102 (f := fun K => decide (PySem.W.findIn K (.ref (He.ga K "Program")) "__setattr__" = some (some (.builtin "object.__setattr__")))) rfl)
  have mkCP : PySem.W.makesIn K (He.ga K "Program") = true := of_decide_eq_true (ex_at cE 103 (f := fun K => decide (PySem.W.makesIn K (He.ga K "Program") = true)) rfl)
  have kcP : PySem.W.keepIn K (.ref (He.ga K "Program")) = true := of_decide_eq_true (ex_at cE 104 (f := fun K => decide (PySem.W.keepIn K (.ref (He.ga K "Program")) = true)) rfl)
  have nDP : PySem.W.findIn K (.ref (He.ga K "Program")) "deeds" = some none := of_decide_eq_true (ex_at cE 105 (f := fun K => decide (PySem.W.findIn K (.ref (He.ga K "Program")) "deeds" = some none)) rfl)
  have nPP : PySem.W.findIn K (.ref (He.ga K "Program")) "plan" = some none := of_decide_eq_true (ex_at cE 106 (f := fun K => decide (PySem.W.findIn K (.ref (He.ga K "Program")) "plan" = some none)) rfl)
  have caP : PySem.W.findIn K (.ref (He.ga K "Program")) "__class__" = some (some (.builtin "object.__class__")) := of_decide_eq_true (ex_at cE 107 (f := fun K => decide (PySem.W.findIn K (.ref (He.ga K "Program")) "__class__" = some (some (.builtin "object.__class__")))) rfl)
  have cmP : PySem.W.mroIn K (He.ga K "Program") (.type "object") = some true := of_decide_eq_true (ex_at cE 108 (f := fun K => decide (PySem.W.mroIn K (He.ga K "Program") (.type "object") = some true)) rfl)
  have neP : PySem.W.findIn K (.ref (He.ga K "Program")) "__ne__" = some (some (.builtin "object.__ne__")) := of_decide_eq_true (ex_at cE 109 (f := fun K => decide (PySem.W.findIn K (.ref (He.ga K "Program")) "__ne__" = some (some (.builtin "object.__ne__")))) rfl)
  have aFm : PySem.W.nsIn K mainGlobals "FORMS" = some (some (.ref (He.ga K "FORMS"))) := of_decide_eq_true (ex_at cE 110 (f := fun K => decide (PySem.W.nsIn K mainGlobals "FORMS" = some (some (.ref (He.ga K "FORMS"))))) rfl)
  obtain ⟨_, _, ⟨lFm, litF, lowF⟩, ky_lFm⟩ := tab_keys cT 0 (t := (fun K => He.ga K "FORMS", ["told", "first", "second", "pair", "same", "while", "if"])) rfl
  have kyF := kyl_of ky_lFm
  obtain ⟨_, aN1⟩ := int_raw (ex_at cE 111 (f := fun K => intB K mainGlobals "MANY_NAMES" 10) rfl)
  obtain ⟨_, aN2⟩ := int_raw (ex_at cE 112 (f := fun K => intB K mainGlobals "MOST_DEEDS" 4000) rfl)
  obtain ⟨_, aN3⟩ := int_raw (ex_at cE 113 (f := fun K => intB K mainGlobals "MOST_FLOORS" 8) rfl)
  have kii : PySem.W.kitOne K (.type "int") (.type "int") = some true := of_decide_eq_true (ex_at cE 114 (f := fun K => decide (PySem.W.kitOne K (.type "int") (.type "int") = some true)) rfl)
  have kib : PySem.W.kitOne K (.type "int") (.type "bool") = some false := of_decide_eq_true (ex_at cE 115 (f := fun K => decide (PySem.W.kitOne K (.type "int") (.type "bool") = some false)) rfl)
  have ktt : PySem.W.kitOne K (.type "tuple") (.type "tuple") = some true := of_decide_eq_true (ex_at cE 116 (f := fun K => decide (PySem.W.kitOne K (.type "tuple") (.type "tuple") = some true)) rfl)
  have kss : PySem.W.kitOne K (.type "str") (.type "str") = some true := of_decide_eq_true (ex_at cE 117 (f := fun K => decide (PySem.W.kitOne K (.type "str") (.type "str") = some true)) rfl)
  obtain ⟨_, fm0⟩ := str_raw (ex_at cE 118 (f := fun K => strB K (He.ga K "FORMS") "told" "nt") rfl)
  obtain ⟨_, fm1⟩ := str_raw (ex_at cE 119 (f := fun K => strB K (He.ga K "FORMS") "first" "nn") rfl)
  obtain ⟨_, fm2⟩ := str_raw (ex_at cE 120 (f := fun K => strB K (He.ga K "FORMS") "second" "nn") rfl)
  obtain ⟨_, fm3⟩ := str_raw (ex_at cE 121 (f := fun K => strB K (He.ga K "FORMS") "pair" "nnn") rfl)
  obtain ⟨_, fm4⟩ := str_raw (ex_at cE 122 (f := fun K => strB K (He.ga K "FORMS") "same" "nnn") rfl)
  obtain ⟨_, fm5⟩ := str_raw (ex_at cE 123 (f := fun K => strB K (He.ga K "FORMS") "while" "nr") rfl)
  obtain ⟨_, fm6⟩ := str_raw (ex_at cE 124 (f := fun K => strB K (He.ga K "FORMS") "if" "nrr") rfl)
  have aPI : PySem.W.findIn K (.ref (He.ga K "Program")) "__init__" = some (some (.ref (He.ma K (He.ga K "Program") "__init__"))) := of_decide_eq_true (ex_at cE 125 (f := fun K => decide (PySem.W.findIn K (.ref (He.ga K "Program")) "__init__" = some (some (.ref (He.ma K (He.ga K "Program") "__init__"))))) rfl)
  have iPI : PySem.W.isFn K (.ref (He.ma K (He.ga K "Program") "__init__")) = true := of_decide_eq_true (ex_at cE 126 (f := fun K => decide (PySem.W.isFn K (.ref (He.ma K (He.ga K "Program") "__init__")) = true)) rfl)
  obtain ⟨_, _, _, _, _, _, _, _, _, lPI, cPI⟩ := fn_raw cD 39 ("Program", some "__init__") "__init__" "Program.__init__" sPInit rfl
  have kPI : PySem.W.keepIn K (.ref (He.ma K (He.ga K "Program") "__init__")) = true := of_decide_eq_true (ex_at cE 127 (f := fun K => decide (PySem.W.keepIn K (.ref (He.ma K (He.ga K "Program") "__init__")) = true)) rfl)
  have aPL : PySem.W.findIn K (.ref (He.ga K "Program")) "__len__" = some (some (.ref (He.ma K (He.ga K "Program") "__len__"))) := of_decide_eq_true (ex_at cE 128 (f := fun K => decide (PySem.W.findIn K (.ref (He.ga K "Program")) "__len__" = some (some (.ref (He.ma K (He.ga K "Program") "__len__"))))) rfl)
  have iPL : PySem.W.isFn K (.ref (He.ma K (He.ga K "Program") "__len__")) = true := of_decide_eq_true (ex_at cE 129 (f := fun K => decide (PySem.W.isFn K (.ref (He.ma K (He.ga K "Program") "__len__")) = true)) rfl)
  obtain ⟨_, _, _, _, _, _, _, _, _, lPL, cPL⟩ := fn_raw cD 40 ("Program", some "__len__") "__len__" "Program.__len__" sPLen rfl
  have kPL : PySem.W.keepIn K (.ref (He.ma K (He.ga K "Program") "__len__")) = true := of_decide_eq_true (ex_at cE 130 (f := fun K => decide (PySem.W.keepIn K (.ref (He.ma K (He.ga K "Program") "__len__")) = true)) rfl)
  have aPE : PySem.W.findIn K (.ref (He.ga K "Program")) "__eq__" = some (some (.ref (He.ma K (He.ga K "Program") "__eq__"))) := of_decide_eq_true (ex_at cE 131 (f := fun K => decide (PySem.W.findIn K (.ref (He.ga K "Program")) "__eq__" = some (some (.ref (He.ma K (He.ga K "Program") "__eq__"))))) rfl)
  have iPE : PySem.W.isFn K (.ref (He.ma K (He.ga K "Program") "__eq__")) = true := of_decide_eq_true (ex_at cE 132 (f := fun K => decide (PySem.W.isFn K (.ref (He.ma K (He.ga K "Program") "__eq__")) = true)) rfl)
  obtain ⟨_, _, _, _, _, _, _, _, _, lPE, cPE⟩ := fn_raw cD 41 ("Program", some "__eq__") "__eq__" "Program.__eq__" sPEq rfl
  have kPE : PySem.W.keepIn K (.ref (He.ma K (He.ga K "Program") "__eq__")) = true := of_decide_eq_true (ex_at cE 133 (f := fun K => decide (PySem.W.keepIn K (.ref (He.ma K (He.ga K "Program") "__eq__")) = true)) rfl)
  have aN : PySem.W.nsIn K mainGlobals "TooGreat" = some (some (.ref (He.ga K "TooGreat"))) := of_decide_eq_true (ex_at cE 134 (f := fun K => decide (PySem.W.nsIn K mainGlobals "TooGreat" = some (some (.ref (He.ga K "TooGreat"))))) rfl)
  obtain ⟨_, _, _, _, _, _, _, _, _, _, _, _, _, _, xN⟩ := exc_raw (ex_at cE 135 (f := fun K => excB K (He.ga K "TooGreat") [.type "OverflowError", .type "ArithmeticError", .type "Exception", .type "BaseException", .type "object"] "OverflowError.__new__") rfl)
  have ovN : PySem.W.excOver K (He.ga K "TooGreat") [.type "OverflowError", .type "ArithmeticError", .type "Exception", .type "BaseException", .type "object"] = true := of_decide_eq_true (ex_at cE 136 (f := fun K => decide (PySem.W.excOver K (He.ga K "TooGreat") [.type "OverflowError", .type "ArithmeticError", .type "Exception", .type "BaseException", .type "object"] = true)) rfl)
  have saN : PySem.W.findIn K (.ref (He.ga K "TooGreat")) "__setattr__" = some (some (.builtin "object.__setattr__")) := of_decide_eq_true (ex_at cE 137 (f := fun K => decide (PySem.W.findIn K (.ref (He.ga K "TooGreat")) "__setattr__" = some (some (.builtin "object.__setattr__")))) rfl)
  have exN : PySem.W.subIn K (.ref (He.ga K "TooGreat")) (.type "BaseException") = some true := of_decide_eq_true (ex_at cE 138 (f := fun K => decide (PySem.W.subIn K (.ref (He.ga K "TooGreat")) (.type "BaseException") = some true)) rfl)
  have tyN : PySem.W.typeIn K (.ref (He.ga K "TooGreat")) = some (.type "type") := of_decide_eq_true (ex_at cE 139 (f := fun K => decide (PySem.W.typeIn K (.ref (He.ga K "TooGreat")) = some (.type "type"))) rfl)
  have kN : PySem.W.keepIn K (.ref (He.ga K "TooGreat")) = true := of_decide_eq_true (ex_at cE 140 (f := fun K => decide (PySem.W.keepIn K (.ref (He.ga K "TooGreat")) = true)) rfl)
  have plN : PySem.W.findIn K (.ref (He.ga K "TooGreat")) "bound" = some none := of_decide_eq_true (ex_at cE 141 (f := fun K => decide (PySem.W.findIn K (.ref (He.ga K "TooGreat")) "bound" = some none)) rfl)
  have vV : PySem.W.findCls K (.type "OverflowError") (.type "type") "__init__" = some (.val (.builtin "OverflowError.__init__")) := by first | rfl | decide +kernel
  have iN : PySem.W.findIn K (.ref (He.ga K "TooGreat")) "__init__" = some (some (.ref (He.ma K (He.ga K "TooGreat") "__init__"))) := of_decide_eq_true (ex_at cE 142 (f := fun K => decide (PySem.W.findIn K (.ref (He.ga K "TooGreat")) "__init__" = some (some (.ref (He.ma K (He.ga K "TooGreat") "__init__"))))) rfl)
  have tfN : PySem.W.typeIn K (.ref (He.ma K (He.ga K "TooGreat") "__init__")) = some (.type "function") := of_decide_eq_true (ex_at cE 143 (f := fun K => decide (PySem.W.typeIn K (.ref (He.ma K (He.ga K "TooGreat") "__init__")) = some (.type "function"))) rfl)
  obtain ⟨_, _, _, _, _, _, _, _, _, lN, cN⟩ := fn_raw cD 42 ("TooGreat", some "__init__") "__init__" "TooGreat.__init__" sTg rfl
  have kfN : PySem.W.keepIn K (.ref (He.ma K (He.ga K "TooGreat") "__init__")) = true := of_decide_eq_true (ex_at cE 144 (f := fun K => decide (PySem.W.keepIn K (.ref (He.ma K (He.ga K "TooGreat") "__init__")) = true)) rfl)
  have hdN : PySem.W.hasDictIn K (He.ga K "TooGreat") = true := of_decide_eq_true (ex_at cE 145 (f := fun K => decide (PySem.W.hasDictIn K (He.ga K "TooGreat") = true)) rfl)
  have scN : PySem.W.subIn K (.ref (He.ga K "TooGreat")) (.ref (He.ga K "TooGreat")) = some true := of_decide_eq_true (ex_at cE 146 (f := fun K => decide (PySem.W.subIn K (.ref (He.ga K "TooGreat")) (.ref (He.ga K "TooGreat")) = some true)) rfl)
  have gaN : PySem.W.findIn K (.ref (He.ga K "TooGreat")) "__getattribute__" = some (some (.builtin "BaseException.__getattribute__")) := of_decide_eq_true (ex_at cE 147 (f := fun K => decide (PySem.W.findIn K (.ref (He.ga K "TooGreat")) "__getattribute__" = some (some (.builtin "BaseException.__getattribute__")))) rfl)
  have ggN : PySem.W.findIn K (.ref (He.ga K "TooGreat")) "__getattr__" = some none := of_decide_eq_true (ex_at cE 148 (f := fun K => decide (PySem.W.findIn K (.ref (He.ga K "TooGreat")) "__getattr__" = some none)) rfl)
  have icN : PySem.W.isClsIn K (He.ga K "TooGreat") = true := of_decide_eq_true (ex_at cE 149 (f := fun K => decide (PySem.W.isClsIn K (He.ga K "TooGreat") = true)) rfl)
  have caN : PySem.W.findIn K (.ref (He.ga K "TooGreat")) "__class__" = some (some (.builtin "object.__class__")) := of_decide_eq_true (ex_at cE 150 (f := fun K => decide (PySem.W.findIn K (.ref (He.ga K "TooGreat")) "__class__" = some (some (.builtin "object.__class__")))) rfl)
  have cmN : PySem.W.mroIn K (He.ga K "TooGreat") (.type "object") = some true := of_decide_eq_true (ex_at cE 151 (f := fun K => decide (PySem.W.mroIn K (He.ga K "TooGreat") (.type "object") = some true)) rfl)
  have oeN : PySem.W.kitOne K (.ref (He.ga K "TooGreat")) (.type "OverflowError") = some true := of_decide_eq_true (ex_at cE 152 (f := fun K => decide (PySem.W.kitOne K (.ref (He.ga K "TooGreat")) (.type "OverflowError") = some true)) rfl)
  have o1 : PySem.W.nsIn K mainGlobals "NoName" = some (some (.ref (He.ga K "NoName"))) := of_decide_eq_true (ex_at cE 153 (f := fun K => decide (PySem.W.nsIn K mainGlobals "NoName" = some (some (.ref (He.ga K "NoName"))))) rfl)
  have o2 : PySem.W.nsIn K mainGlobals "NoProgram" = some (some (.ref (He.ga K "NoProgram"))) := of_decide_eq_true (ex_at cE 154 (f := fun K => decide (PySem.W.nsIn K mainGlobals "NoProgram" = some (some (.ref (He.ga K "NoProgram"))))) rfl)
  have o3 : PySem.W.nsIn K mainGlobals "NoRoom" = some (some (.ref (He.ga K "NoRoom"))) := of_decide_eq_true (ex_at cE 155 (f := fun K => decide (PySem.W.nsIn K mainGlobals "NoRoom" = some (some (.ref (He.ga K "NoRoom"))))) rfl)
  have o4 : PySem.W.nsIn K mainGlobals "NoSaying" = some (some (.ref (He.ga K "NoSaying"))) := of_decide_eq_true (ex_at cE 156 (f := fun K => decide (PySem.W.nsIn K mainGlobals "NoSaying" = some (some (.ref (He.ga K "NoSaying"))))) rfl)
  have o5 : PySem.W.nsIn K mainGlobals "NoStep" = some (some (.ref (He.ga K "NoStep"))) := of_decide_eq_true (ex_at cE 157 (f := fun K => decide (PySem.W.nsIn K mainGlobals "NoStep" = some (some (.ref (He.ga K "NoStep"))))) rfl)
  have o6 : PySem.W.nsIn K mainGlobals "NoText" = some (some (.ref (He.ga K "NoText"))) := of_decide_eq_true (ex_at cE 158 (f := fun K => decide (PySem.W.nsIn K mainGlobals "NoText" = some (some (.ref (He.ga K "NoText"))))) rfl)
  have kaN : PySem.W.kitAny K (.ref (He.ga K "TooGreat")) [.ref (He.ga K "NoName"), .ref (He.ga K "NoProgram"), .ref (He.ga K "NoRoom"), .ref (He.ga K "NoSaying"), .ref (He.ga K "NoStep"), .ref (He.ga K "NoText")] = some false := of_decide_eq_true (ex_at cE 159 (f := fun K => decide (PySem.W.kitAny K (.ref (He.ga K "TooGreat")) [.ref (He.ga K "NoName"), .ref (He.ga K "NoProgram"), .ref (He.ga K "NoRoom"), .ref (He.ga K "NoSaying"), .ref (He.ga K "NoStep"), .ref (He.ga K "NoText")] = some false)) rfl)
  have kCi : PySem.W.kitOne K (.ref (He.ga K "Thing")) (.type "int") = some false := of_decide_eq_true (ex_at cE 160 (f := fun K => decide (PySem.W.kitOne K (.ref (He.ga K "Thing")) (.type "int") = some false)) rfl)
  have kCt : PySem.W.kitOne K (.ref (He.ga K "Thing")) (.type "tuple") = some false := of_decide_eq_true (ex_at cE 161 (f := fun K => decide (PySem.W.kitOne K (.ref (He.ga K "Thing")) (.type "tuple") = some false)) rfl)
  have z_len : PySem.W.nsIn K mainGlobals "len" = some none := of_decide_eq_true (ex_at cE 162 (f := fun K => decide (PySem.W.nsIn K mainGlobals "len" = some none)) rfl)
  have z_range : PySem.W.nsIn K mainGlobals "range" = some none := of_decide_eq_true (ex_at cE 163 (f := fun K => decide (PySem.W.nsIn K mainGlobals "range" = some none)) rfl)
  have z_isinstance : PySem.W.nsIn K mainGlobals "isinstance" = some none := of_decide_eq_true (ex_at cE 164 (f := fun K => decide (PySem.W.nsIn K mainGlobals "isinstance" = some none)) rfl)
  have z_abs : PySem.W.nsIn K mainGlobals "abs" = some none := of_decide_eq_true (ex_at cE 165 (f := fun K => decide (PySem.W.nsIn K mainGlobals "abs" = some none)) rfl)
  have z_int : PySem.W.nsIn K mainGlobals "int" = some none := of_decide_eq_true (ex_at cE 166 (f := fun K => decide (PySem.W.nsIn K mainGlobals "int" = some none)) rfl)
  have z_str : PySem.W.nsIn K mainGlobals "str" = some none := of_decide_eq_true (ex_at cE 167 (f := fun K => decide (PySem.W.nsIn K mainGlobals "str" = some none)) rfl)
  have z_max : PySem.W.nsIn K mainGlobals "max" = some none := of_decide_eq_true (ex_at cE 168 (f := fun K => decide (PySem.W.nsIn K mainGlobals "max" = some none)) rfl)
  have z_min : PySem.W.nsIn K mainGlobals "min" = some none := of_decide_eq_true (ex_at cE 169 (f := fun K => decide (PySem.W.nsIn K mainGlobals "min" = some none)) rfl)
  have z_all : PySem.W.nsIn K mainGlobals "all" = some none := of_decide_eq_true (ex_at cE 170 (f := fun K => decide (PySem.W.nsIn K mainGlobals "all" = some none)) rfl)
  have z_bool : PySem.W.nsIn K mainGlobals "bool" = some none := of_decide_eq_true (ex_at cE 171 (f := fun K => decide (PySem.W.nsIn K mainGlobals "bool" = some none)) rfl)
  have z_tuple : PySem.W.nsIn K mainGlobals "tuple" = some none := of_decide_eq_true (ex_at cE 172 (f := fun K => decide (PySem.W.nsIn K mainGlobals "tuple" = some none)) rfl)
  have z_zip : PySem.W.nsIn K mainGlobals "zip" = some none := of_decide_eq_true (ex_at cE 173 (f := fun K => decide (PySem.W.nsIn K mainGlobals "zip" = some none)) rfl)
  have z_enumerate : PySem.W.nsIn K mainGlobals "enumerate" = some none := of_decide_eq_true (ex_at cE 174 (f := fun K => decide (PySem.W.nsIn K mainGlobals "enumerate" = some none)) rfl)
  have z_list : PySem.W.nsIn K mainGlobals "list" = some none := of_decide_eq_true (ex_at cE 175 (f := fun K => decide (PySem.W.nsIn K mainGlobals "list" = some none)) rfl)
  have z_OverflowError : PySem.W.nsIn K mainGlobals "OverflowError" = some none := of_decide_eq_true (ex_at cE 176 (f := fun K => decide (PySem.W.nsIn K mainGlobals "OverflowError" = some none)) rfl)
  have z_reversed : PySem.W.nsIn K mainGlobals "reversed" = some none := of_decide_eq_true (ex_at cE 177 (f := fun K => decide (PySem.W.nsIn K mainGlobals "reversed" = some none)) rfl)
  exact all_mk X G hfa aC pg hd po sa mkC kc nF nS nZ ca cn ct cm neC aM aI iI lI cI kI lT aEq iEq lEq cEq kEq aLn iLn lLn cLn kLn aSt iSt lSt cSt kSt aPa lPa cPa kPa aAl lAl cAl kAl aSg lSg cSg kSg aIn lIn cIn kIn aFt lFt cFt kFt aHf lHf cHf kHf aRi lRi cRi kRi aLk lLk cLk kLk aLy lLy cLy kLy aNu lNu cNu kNu aRo lRo cRo kRo aCo lCo cCo kCo aRc lRc cRc kRc aDc lDc cDc kDc aPc lPc cPc kPc aCn lCn cCn kCn aPp lPp cPp kPp aPo lPo cPo kPo aOt lOt cOt kOt aDt lDt cDt kDt aKt lKt cKt kKt aPt lPt cPt kPt aIc lIc cIc kIc aBa lBa cBa kBa aTa lTa cTa kTa aTh lTh cTh kTh aNa lNa cNa kNa aDe lDe cDe kDe aDs lDs cDs kDs aTo lTo cTo kTo aNt lNt cNt kNt aRtx lRtx cRtx kRtx aLc lLc cLc kLc aGd lGd cGd kGd aLaw lLaw cLaw kLaw aP pgP hdP poP saP mkCP kcP nDP nPP caP cmP neP aFm lFm litF lowF aN1 aN2 aN3 kii kib ktt kss fm0 fm1 fm2 fm3 fm4 fm5 fm6 aPI iPI lPI cPI kPI aPL iPL lPL cPL kPL aPE iPE lPE cPE kPE aN xN ovN saN exN tyN kN plN vV iN tfN lN cN kfN hdN scN gaN ggN icN caN cmN oeN o1 o2 o3 o4 o5 o6 kaN kyF kCi kCt z_len z_range z_isinstance z_abs z_int z_str z_max z_min z_all z_bool z_tuple z_zip z_enumerate z_list z_OverflowError z_reversed

end Js

open PySem PySem.W PySem.Calls PyProof.Rows in
set_option maxRecDepth 100000 in
set_option maxHeartbeats 0 in
theorem PySem.Challenge.cw_judgeslip_k16_codes_holds : PySem.Challenge.rw_judgeslip_k16_codes.Holds := by
  w_on; o_law
  refine HandSHeadRun.head_any (r := OpenLaw.row PySem.Challenge.rw_judgeslip_k16_codes) (q := view (OpenLaw.row PySem.Challenge.rw_judgeslip_k16_codes).prog [58]) (H := Js.hkX) (ob := Js.hob) (M := 20000) (loose := Js.hnames) (d := HandSHeadRun.topDef (OpenLaw.row PySem.Challenge.rw_judgeslip_k16_codes).prog 58) (kwd := []) Js.hob_eq
    (by kernel_rfl) (fun s => by kernel_rfl) Js.hrun (by kernel_rfl) (by kernel_rfl) (by kernel_rfl) (by rfl) (by first | assumption | decide +kernel) (by decide +kernel) ⟨rfl, rfl, rfl, rfl, rfl, by decide +kernel⟩ ?hw ?hc
  case hw => w_witness2
  case hc =>
    refine L2.walk_ofE (l := PySem.Challenge.rw_judgeslip_k16_codes) (n := 63) (k := 37) (x := "_law_script") (CX := L2.CX0) rfl (by decide) (by kernel_rfl) ⟨rfl, by decide, by decide⟩ ?F (fun _ _ _ _ z => z)
    intro w mg fa h Y G hmg0
    obtain ⟨K, KX, cT, cX⟩ := Y
    have hmg : mg ("law" : PySem.Str) = some (.ref fa) := by
      have e : (HandSHeadRun.topDef (OpenLaw.row PySem.Challenge.rw_judgeslip_k16_codes).prog 58).name = ("law" : PySem.Str) := by kernel_rfl
      rw [← e]
      exact hmg0
    obtain ⟨fd, hb, hF⟩ := Js.hfacts (P := (PySem.Challenge.rw_judgeslip_k16_codes).prog) (w := w) KX G hmg cT cX
    exact ⟨K, fd, Js.spLaw K, KX, hb, fun H a ns hl _ hS => ⟨a, ns, rfl, hS, hl, fun _ => rfl⟩, hF⟩
