import PyProof.Rows.All
import Wide.All
import OpenK.AllK
import Wide.FinOn
import PyProof.EqAt
import PyProof.EqKinds
import PyProof.TupleCall
import HandS.ForMost
import HandS.ForExc
import HandS.IsInst
import HandS.NoneIn
import HandS.Defaults
import HandS.MakeKw
import HandS.OwnEq
import HandS.Walk
import HandS.Rev
import HandS.FStr
import HandS.More
import KE.KCallOwn
import HandS.Conv
import HandS.Replace
import HandS.ExcInit
import HandS.ExcField
import HandS.ExcOwn
import HandS.WordsExc
import KE.KExcIs
import KE.KExcInit
import PyProof.ExcBaseAll.OverflowError
import HandS.RevTup
import HandS.MakeKwOnly
import PyProof.Rows.EqNone
import HandS.Records
import HandS.ExcIs
import KE.KExcLine
import PySem.Challenge.RW_judgeslip_k01_things
set_option Elab.async false
set_option linter.all false
set_option maxRecDepth 100000
set_option maxHeartbeats 2000000
/-! rules of our own: len, str, ==, != of an instance by its class's defs; x in a list of such -/
namespace JsLow
open PySem PySem.Spec PyProof.Rows PySem.W
section
variable {prog : Program} {w : World} {A : Around} {E : Value → Shared → Prop} {s : Shared} {K : Frag} {x C f : Addr} {ox : Obj} {od : Option Obj} {y tb : Value}
theorem ifBound_ne {M : Model} {args : List Value} {Q : Option Value → Shared → Prop} (X : K.In s.heap) (I : InstAt s.heap x ox C od) (hs : findIn K (.ref C) "__ne__" = some (some (.builtin "object.__ne__")))
    (h : wpAny M A (call (.builtin "object.__ne__") (.ref x :: args)) (fun v => Q (some v)) E s) : wpAny M A (callSpecialIfBound? (.ref x) "__ne__" args) Q E s := by
  simp only [callSpecialIfBound?, bindSpecialIfBound?]
  refine wpAny_holding (wpAny_bind (wpAny_bind (wpAny_bind (I.type.here ((looks_findIn X hs).here ?_)))))
  refine wpAny_bind (wpAny_askSetting (wpAny_ite ?_))
  have fin : wpAny M A (call (.builtin "object.__ne__") ([.ref x] ++ args) >>= fun v => pure (some v)) Q E s := wpAny_bind (wpAny_mono h (fun v s' h' => wpAny_pure h') fun _ _ h' => h')
  split
  · exact wpAny_bind (wpAny_of_eq (F.cmp_object.ne.bind _) (wpAny_pure (by exact fin)))
  · exact wpAny_tryCatch (wpAny_bind (wpAny_of_eq (F.cmp_object.ne.bind _) (wpAny_pure (by exact fin))))
theorem objNe_K {Q : Fin → Shared → Prop} (hu : A.units < cLine) (X : K.In s.heap) (I : InstAt s.heap x ox C od) (he : findIn K (.ref C) "__eq__" = some (some (.ref f))) (hf : isFn K (.ref f) = true)
    (hcall : wpAny (model prog w) A (call (.ref f) [.ref x, y]) (fun v s' => ∃ b, v = .bool b ∧ Q (.done (.ret (.bool (!b)))) s') E s) :
    wpAny (model prog w) A (Builtin.«object.__ne__» ⟨[.ref x, y], []⟩) Q E s := by
  unfold Builtin.«object.__ne__»
  repeat (first
    | with_reducible refine wpAny_cRoomFor hu ?_
    | (refine wpAny_bind (m := callSpecialIfBound? (.ref x) (Str.ofString "__eq__") [y])
        (ifBound_K X I he hf (wpAny_mono hcall (fun r s' hr => by
          obtain ⟨b, rfl, hq⟩ := hr
          repeat (first | exact hq | exact wpAny_pure hq | exact wpAny_truthy_bool hq | (refine wpAny_bind (m := truthy (.bool _)) (wpAny_truthy_bool ?_)) | wp_step)) fun _ _ e => e)))
    | wp_step)
/-- x != y by the class's __eq__ -/
theorem ne_K {Q : Value → Shared → Prop} (hu : A.units + 1 < cLine) (X : K.In s.heap) (I : InstAt s.heap x ox C od) (hb : Looks (model prog w) s.heap (typeOf y) tb) (hn : notFirst K C tb = true)
    (hm : mroIn K C (.type "object") = some true) (hne : findIn K (.ref C) "__ne__" = some (some (.builtin "object.__ne__"))) (he : findIn K (.ref C) "__eq__" = some (some (.ref f))) (hf : isFn K (.ref f) = true)
    (h : wpAny (model prog w) A.in1 (call (.ref f) [.ref x, y]) (fun v s' => ∃ b, v = .bool b ∧ Q (.bool (!b)) s') E s) : wpAny (model prog w) A (richCompare .NotEq (.ref x) y) Q E s := by
  have hu1 : A.in1.units < cLine := by show A.units + 1 < cLine; exact hu
  have one : wpAny (model prog w) A (tryCompare (.ref x) "__ne__" y) (fun r s' => ∃ v, r = some v ∧ Q v s') E s := by
    unfold tryCompare
    refine wpAny_bind (ifBound_ne X I hne ?_)
    refine wpAny_call (codeAny_call_builtin F.cmp_object.ne.plain F.cmpEntry_ne (check_slot F.cmpKind_ne F.cmpSplit_ne (I.type.andThen (looks_mroIn X hm)) (F.cmpArgs_ne _ _) (objNe_K (A := A.in1) hu1 X I he hf (wpAny_mono h (fun v s' hv => ?_) fun _ _ e => e))))
    obtain ⟨b, rfl, hq⟩ := hv
    first | exact ⟨b, rfl, wpAny_pure ⟨_, rfl, hq⟩⟩ | exact ⟨b, rfl, ⟨_, rfl, hq⟩⟩
  have hu0 : A.units < cLine := Nat.lt_of_succ_lt hu
  unfold richCompare
  simp only [oneThing_ref]
  refine wpAny_holding (wpAny_bind (wpAny_cRoomFor hu0 ?_))
  rw [cmpInfo_NotEq]
  dsimp only
  refine wpAny_bind (I.type.here (wpAny_bind (hb.here ?_)))
  split
  · rename_i q
    have e : subIn K tb (.ref C) = some false := by
      rcases Bool.or_eq_true_iff.mp hn with e | e
      · rw [beq_iff_eq.mp e] at q; simp at q
      · exact beq_iff_eq.mp e
    refine wpAny_bind ((looks_subIn X e).here ?_)
    simp only [Bool.false_eq_true, if_false]
    refine wpAny_bind (wpAny_mono one (fun r s' z => ?_) fun _ _ e => e)
    obtain ⟨v, rfl, hq⟩ := z
    exact wpAny_pure hq
  · refine wpAny_bind (wpAny_pure ?_)
    simp only [Bool.false_eq_true, if_false]
    refine wpAny_bind (wpAny_mono one (fun r s' z => ?_) fun _ _ e => e)
    obtain ⟨v, rfl, hq⟩ := z
    exact wpAny_pure hq
end
end JsLow

namespace L2
open PySem PySem.Spec PyProof.Rows
section
variable {X : Cx} {CX : CXT} {n : Nat} {C f : Addr} {fd : FuncData} {ps : List Str} {sp : Sp} {E : XK} {pins : List (Addr × Obj)} {σ : St} {H : Hp} {s : Shared}
/-- the callee runs somewhere below the body -/
theorem run_fnA {A : Around} {Q : VK} {us : List Value} {vs : List V} (F : FnOk X.prog X.w X.K X.mg X.base CX n f fd ps sp) (hr : Room n A) (e0 : Env0 X.prog X.w X.K X.mg X.base A X.stack s H) (hb : Binds X.K fd ps []) (hx : Passes CX X E)
    (I : Inv X pins σ H s) (r : Vals vs us) (h : sp vs H Q E) : wpAny (model X.prog X.w) A (call (.ref f) us) (EP X pins σ Q) X.xe s := by
  have hl : (us ++ []).length = ps.length := by rw [List.append_nil, ← r.length]; exact F.len _ _ _ _ h
  have hb' := hb s us I.kIn hl
  rw [List.append_nil] at hb'
  refine wpAny_call (codeAny_mono (F.run A X.stack s H ⟨us, []⟩ us vs Q E hr e0 hb' r h) fun r s' hq => ?_)
  cases r with
  | error e => exact hx pins σ H s e s' I hq
  | ok fl =>
    cases fl with
    | ret u => exact I.after hq
    | next => exact False.elim hq
    | brk => exact False.elim hq
    | cont => exact False.elim hq
theorem inst_of {a dx : Addr} {fs : List (Str × V)} (I : Inv X pins σ H s) (ha : H a = some (.ins C dx fs)) : ∃ od, PySem.W.InstAt s.heap a (PySem.W.instObj C dx) C (some od) := by
  obtain ⟨mA, J, _⟩ := ins_get I.hok ha
  obtain ⟨od, J, _⟩ := J.look
  exact ⟨od, J⟩
/-- what the text says of a class with a special def of its own -/
structure Own (K : PySem.W.Frag) (C : Addr) (name : Str) (f : Addr) : Prop where
  at_ : PySem.W.findIn K (.ref C) name = some (some (.ref f))
  fn : PySem.W.isFn K (.ref f) = true
/-- len(x) -/
def rLenOwn (C : Addr) (sp : Sp) (E : XK) : List V → Hp → VK → Prop := fun xs H Q => ∃ a dx fs, xs = [V.ref a] ∧ H a = some (.ins C dx fs) ∧ sp [.ref a] H (fun z H' => ∃ i : Int, z = .int i ∧ (0 ≤ i ∧ i < 2 ^ 63) ∧ Q (.int i) H') E
theorem call_lenOwn (o : Own X.K C "__len__" f) (F : FnOk X.prog X.w X.K X.mg X.base CX n f fd ps sp) (hb : Binds X.K fd ps []) (hr : Room (n + 1) X.A) (hx : Passes CX X E) : CallR X (.builtin "len") (rLenOwn C sp E) := by
  intro pins s σ H xs us Q I r h
  obtain ⟨a, dx, fs, rfl, ha, q⟩ := h
  obtain ⟨u, rfl, ru⟩ := vals1 r
  cases (show u = Value.ref a from ru)
  obtain ⟨od, J⟩ := inst_of I ha
  obtain ⟨m, hF⟩ := I.fr
  refine PySem.W.len_K hF I.ok.mod.kin J o.at_ o.fn (wpAny_mono (run_fnA (us := [.ref a]) (vs := [.ref a]) F hr.in1 I.env0.in1 hb hx I (.cons rfl .nil) q) (fun w s' z => ?_) fun _ _ x => x)
  obtain ⟨z', H', I', rz, i, ei, hi, qz⟩ := z
  subst ei
  obtain ⟨t, e⟩ := (show ∃ t, w = Value.int i t from rz)
  cases e
  exact ⟨hi, .int i, H', I'.tok _, ⟨_, rfl⟩, qz⟩
/-- str(x) -/
def rStrOwn (C : Addr) (sp : Sp) (E : XK) : List V → Hp → VK → Prop := fun xs H Q => ∃ a dx fs, xs = [V.ref a] ∧ H a = some (.ins C dx fs) ∧ sp [.ref a] H (fun z H' => ∃ i : Str, z = .str i ∧ Q (.str i) H') E
theorem call_strOwn (o : Own X.K C "__str__" f) (F : FnOk X.prog X.w X.K X.mg X.base CX n f fd ps sp) (hb : Binds X.K fd ps []) (hr : Room (n + 2) X.A) (hx : Passes CX X E) : CallR X (.type "str") (rStrOwn C sp E) := by
  intro pins s σ H xs us Q I r h
  obtain ⟨a, dx, fs, rfl, ha, q⟩ := h
  obtain ⟨u, rfl, ru⟩ := vals1 r
  cases (show u = Value.ref a from ru)
  obtain ⟨od, J⟩ := inst_of I ha
  have hr2 : Room n X.A.in1.in1 := (show Room (n + 1) X.A.in1 from Room.in1 hr).in1
  refine PySem.W.kso_call hr2.units0 I.kIn J o.at_ o.fn (wpAny_mono (run_fnA (us := [.ref a]) (vs := [.ref a]) F hr2 I.env0.in1.in1 hb hx I (.cons rfl .nil) q) (fun w s' z => ?_) fun _ _ x => x)
  obtain ⟨z', H', I', rz, i, ei, qz⟩ := z
  subst ei
  obtain ⟨t, e⟩ := (show ∃ t, w = Value.str i t from rz)
  cases e
  exact ⟨.str i, H', I', ⟨_, rfl⟩, qz⟩
/-- repr(x) -/
theorem call_reprOwn (o : Own X.K C "__repr__" f) (F : FnOk X.prog X.w X.K X.mg X.base CX n f fd ps sp) (hb : Binds X.K fd ps []) (hr : Room (n + 1) X.A) (hx : Passes CX X E) : CallR X (.builtin "repr") (rStrOwn C sp E) := by
  intro pins s σ H xs us Q I r h
  obtain ⟨a, dx, fs, rfl, ha, q⟩ := h
  obtain ⟨u, rfl, ru⟩ := vals1 r
  cases (show u = Value.ref a from ru)
  obtain ⟨od, J⟩ := inst_of I ha
  obtain ⟨m, hF⟩ := I.fr
  have hr2 : Room n X.A.in1 := Room.in1 hr
  refine PySem.W.repr_K hr2.units0 hF I.ok.mod.kin J o.at_ o.fn (wpAny_mono (run_fnA (us := [.ref a]) (vs := [.ref a]) F hr2 I.env0.in1 hb hx I (.cons rfl .nil) q) (fun w s' z => ?_) fun _ _ x => x)
  obtain ⟨z', H', I', rz, i, ei, qz⟩ := z
  subst ei
  obtain ⟨t, e⟩ := (show ∃ t, w = Value.str i t from rz)
  cases e
  exact ⟨.str i, H', I', ⟨_, rfl⟩, qz⟩
/-- x == y, both of the class at C, by its __eq__ -/
def rEqOwn (C : Addr) (sp : Sp) (E : XK) : R2 := fun x y H Q => ∃ a dx fs b dy gs, x = .ref a ∧ y = .ref b ∧ H a = some (.ins C dx fs) ∧ H b = some (.ins C dy gs) ∧ sp [x, y] H (fun z H' => ∃ b, z = .bl b ∧ Q (.bl b) H') E
def rNeOwn (C : Addr) (sp : Sp) (E : XK) : R2 := fun x y H Q => ∃ a dx fs b dy gs, x = .ref a ∧ y = .ref b ∧ H a = some (.ins C dx fs) ∧ H b = some (.ins C dy gs) ∧ sp [x, y] H (fun z H' => ∃ b, z = .bl b ∧ Q (.bl (!b)) H') E
/-- == of two of the class at A, below the body -/
theorem rc_own {A : Around} {Q : Bool → Hp → Prop} {a b dx dy : Addr} {fs gs : List (Str × V)} (o : Own X.K C "__eq__" f) (F : FnOk X.prog X.w X.K X.mg X.base CX n f fd ps sp) (hb : Binds X.K fd ps []) (hr : Room n A) (e0 : Env0 X.prog X.w X.K X.mg X.base A X.stack s H) (hx : Passes CX X E)
    (I : Inv X pins σ H s) (ha : H a = some (.ins C dx fs)) (hb' : H b = some (.ins C dy gs)) (q : sp [.ref a, .ref b] H (fun z H' => ∃ b, z = .bl b ∧ Q b H') E) :
    wpAny (model X.prog X.w) A (richCompare .Eq (.ref a) (.ref b)) (fun v s' => ∃ r, v = .bool r ∧ ∃ H', Inv X pins σ H' s' ∧ Q r H') X.xe s := by
  obtain ⟨od, J⟩ := inst_of I ha
  obtain ⟨od', J'⟩ := inst_of I hb'
  obtain ⟨m, hF⟩ := I.fr
  refine PySem.W.cmp_K (op := .Eq) (tb := .ref C) hr.units0 hF I.ok.mod.kin J J'.type (by simp [PySem.W.notFirst]) o.at_ o.fn (wpAny_mono (run_fnA (us := [.ref a, .ref b]) (vs := [.ref a, .ref b]) F hr e0 hb hx I (.cons rfl (.cons rfl .nil)) q) (fun w s' z => ?_) fun _ _ x => x)
  obtain ⟨z', H', I', rz, i, ei, qz⟩ := z
  subst ei
  cases (show w = Value.bool i from rz)
  exact ⟨i, rfl, H', I', qz⟩
theorem op_eqOwn (o : Own X.K C "__eq__" f) (F : FnOk X.prog X.w X.K X.mg X.base CX n f fd ps sp) (hb : Binds X.K fd ps []) (hr : Room n X.A) (hx : Passes CX X E) : OpR X (compareOp .Eq) (rEqOwn C sp E) := by
  intro pins s σ H x y v u Q I rx ry h
  obtain ⟨a, dx, fs, b, dy, gs, rfl, rfl, ha, hb', q⟩ := h
  cases (show v = Value.ref a from rx)
  cases (show u = Value.ref b from ry)
  show wpAny _ _ (richCompare .Eq (.ref a) (.ref b)) _ _ _
  refine wpAny_mono (rc_own (Q := fun r H' => Q (.bl r) H') o F hb hr I.env0 hx I ha hb' q) (fun w s' z => ?_) fun _ _ x => x
  obtain ⟨r, rfl, H', I', qz⟩ := z
  exact ⟨.bl r, H', I', rfl, qz⟩
/-- what != asks besides -/
structure OwnNe (K : PySem.W.Frag) (C : Addr) : Prop where
  ne : PySem.W.findIn K (.ref C) "__ne__" = some (some (.builtin "object.__ne__"))
  mro : PySem.W.mroIn K C (.type "object") = some true
theorem op_neOwn (o : Own X.K C "__eq__" f) (on : OwnNe X.K C) (F : FnOk X.prog X.w X.K X.mg X.base CX n f fd ps sp) (hb : Binds X.K fd ps []) (hr : Room (n + 1) X.A) (hx : Passes CX X E) : OpR X (compareOp .NotEq) (rNeOwn C sp E) := by
  intro pins s σ H x y v u Q I rx ry h
  obtain ⟨a, dx, fs, b, dy, gs, rfl, rfl, ha, hb', q⟩ := h
  cases (show v = Value.ref a from rx)
  cases (show u = Value.ref b from ry)
  show wpAny _ _ (richCompare .NotEq (.ref a) (.ref b)) _ _ _
  obtain ⟨od, J⟩ := inst_of I ha
  obtain ⟨od', J'⟩ := inst_of I hb'
  refine JsLow.ne_K (tb := .ref C) (hu_of hr) I.kIn J J'.type (by simp [PySem.W.notFirst]) on.mro on.ne o.at_ o.fn (wpAny_mono (run_fnA (us := [.ref a, .ref b]) (vs := [.ref a, .ref b]) F hr.in1 I.env0.in1 hb hx I (.cons rfl (.cons rfl .nil)) q) (fun w s' z => ?_) fun _ _ x => x)
  obtain ⟨z', H', I', rz, i, ei, qz⟩ := z
  subst ei
  cases (show w = Value.bool i from rz)
  exact ⟨i, rfl, .bl (!i), H', I', rfl, qz⟩
end
end L2

set_option Elab.async false
set_option linter.all false
set_option maxRecDepth 100000
set_option maxHeartbeats 2000000
namespace GQ
open PySem PySem.SeqAt
open AutoSeq1 (wpAny_loadPart')
open MeetsSeq MeetsSeq2 MeetsSeq3 SeqRoads2
section
variable {prog : Program} {w : World} {A : Around} {R : Result → Shared → Prop}
/-- x in a list: at each turn the list is read anew -/
def InI (prog : Program) (w : World) (A : Around) (R : Result → Shared → Prop) (l : Addr) (x : Value) (N : Nat) (I : Nat → Shared → Prop) : Prop :=
  ∀ i s, I i s → ∃ (items : Array Value) (n : Nat), s.heap.get? l = some { cls := .type "list", data := .seq items n } ∧ items.size = N ∧
    ∀ (h1 : i < items.size), wpAny (model prog w) A.in1 (eqBool items[i] x) (fun r s' => if r = true then R (.ok (.ret (.bool true))) s' else I (i + 1) s') (fun e s' => R (.error e) s') s
theorem in_loopG (l : Addr) (x : Value) (N : Nat) (I : Nat → Shared → Prop) (hl : InI prog w A R l x N I)
    (fin : ∀ s, I N s → R (.ok (.ret (.bool false))) s) (k : Nat) :
    ∀ i : Nat, N - i = k → i ≤ N → ∀ s, I i s →
      wpAny (model prog w) A.in1 (Builtin.«list.__contains__.loop» ⟨[.ref l, x, rawInt i], []⟩) (FinOf prog w A R) (fun e s' => R (.error e) s') s := by
  induction k with
  | zero =>
    intro i hk hi s h
    obtain ⟨items, n, hl1, hs1, _⟩ := hl _ _ h
    have hi' : i = N := by omega
    have hR : R (.ok (.ret (.bool false))) s := fin s (hi' ▸ h)
    obtain ⟨hp, g, d, tk, os⟩ := s
    wp_walk using wpAny_loadPart' hl1
    have hi1 : items[((i : Nat) : Int).toNat]? = none := by simp; omega
    rw [hi1]
    wp_walk
    exact hR
  | succ k ih =>
    intro i hk hi s h
    obtain ⟨items, n, hl1, hs1, turn⟩ := hl _ _ h
    have hlt : i < items.size := by omega
    have ht := turn hlt
    obtain ⟨hp, g, d, tk, os⟩ := s
    wp_walk using wpAny_loadPart' hl1
    have hi1 : items[((i : Nat) : Int).toNat]? = some items[i] := by simp [hlt]
    have hc : ((i : Int) + 1) = ((i + 1 : Nat) : Int) := by omega
    rw [hi1]
    refine wpAny_bind (wpAny_mono ht (fun r s2 h2 => ?_) fun _ _ x => x)
    cases r with
    | true =>
      rw [if_pos rfl] at h2
      obtain ⟨hp2, g2, d2, tk2, os2⟩ := s2
      wp_walk
      exact h2
    | false =>
      rw [if_neg Bool.false_ne_true] at h2
      have hrec := ih (i + 1) (by omega) (by omega) s2 h2
      obtain ⟨hp2, g2, d2, tk2, os2⟩ := s2
      wp_walk
      rw [hc]
      exact ⟨plainId_quiet plain_contains_loop _, codeAny_builtin entry_contains_loop (by
        rw [Around.under_plainId plain_contains_loop _]
        exact hrec)⟩
theorem list_inG (l : Addr) (x : Value) (N : Nat) (I : Nat → Shared → Prop) (hl : InI prog w A R l x N I)
    (fin : ∀ s, I N s → R (.ok (.ret (.bool false))) s) {s : Shared} (h : I 0 s) :
    wpAny (model prog w) A.in1 (Builtin.«list.__contains__» ⟨[.ref l, x], []⟩) (FinOf prog w A R) (fun e s' => R (.error e) s') s := by
  obtain ⟨items, n, hl1, hs1, _⟩ := hl _ _ h
  have hrec := in_loopG (A := A) (R := R) l x N I hl fin _ 0 rfl (Nat.zero_le _) s h
  obtain ⟨hp, g, d, tk, os⟩ := s
  wp_walk using wpAny_loadPart' hl1
  exact ⟨plainId_quiet plain_contains_loop _, codeAny_builtin entry_contains_loop (by
    rw [Around.under_plainId plain_contains_loop _]
    exact hrec)⟩
theorem op_in_listG {E : Value → Shared → Prop} {s : Shared} {l : Addr} {x : Value} {N : Nat} {Q : Value → Shared → Prop} (I : Nat → Shared → Prop)
    (hl : InI prog w A (wants (fun v s' => ∃ b, v = .bool b ∧ Q (.bool b) s') E) l x N I)
    (fin : ∀ s, I N s → Q (.bool false) s) (h : I 0 s) : wpAny (model prog w) A (compareOp .In x (.ref l)) Q E s := by
  obtain ⟨items, n, hl1, hs1, _⟩ := hl _ _ h
  show wpAny _ A (do return .bool (← contains (.ref l) x)) Q E s
  refine wpAny_bind (wpAny_contains_slot ⟨_, hl1, rfl⟩ F.slot_list_contains (wpAny_mono (call_here F.slot_list_contains ⟨_, hl1, rfl⟩ F.entry_list_contains (F.args_list_contains_2 _ _)
    (list_inG (R := wants (fun v s' => ∃ b, v = .bool b ∧ Q (.bool b) s') E) l x N I hl (fun s' q => ⟨false, rfl, fin s' q⟩) h)) (fun v s' hv => ?_) fun _ _ e => e))
  obtain ⟨b, rfl, hq⟩ := hv
  exact wpAny_truthy_bool (wpAny_pure hq)
end
end GQ
namespace L2
open PySem PySem.Spec PyProof.Rows
/-- how == answers, by the abstract heap -/
abbrev Tells := V → V → Bool → Hp → Prop
def EqT (X : Cx) (n : Nat) (D : Tells) : Prop :=
  ∀ (A : Around) (pins : List (Addr × Obj)) (s : Shared) (σ : St) (H : Hp) (x y : V) (u v : Value) (r : Bool), Sub X n A → Inv X pins σ H s → RelV x u → RelV y v → D x y r H →
    wpAny (model X.prog X.w) A (eqBool u v) (fun r' s' => r' = r ∧ ∃ H', Inv X pins σ H' s' ∧ Same H H') X.xe s
def rInT (D : Tells) : R2 := fun x y H Q => ∃ (p : Addr) (xs : List V) (bs : List Bool), y = .ref p ∧ H p = some (.lst xs) ∧ bs.length = xs.length ∧ (∀ (i : Nat) z b, xs[i]? = some z → bs[i]? = some b → D z x b H) ∧ ∀ H', Same H H' → Q (.bl (bs.any id)) H'
theorem op_inT {X : Cx} {n : Nat} {D : Tells} (h : EqT X n D) (mon : ∀ x y r H H', Same H H' → D x y r H → D x y r H') (hr : Room (n + 1) X.A) : OpR X (compareOp .In) (rInT D) := by
  intro pins s σ H x y v u Q I rx ry hq
  obtain ⟨p, xs, bs, rfl, hp, hl, hd, q⟩ := hq
  cases (show u = Value.ref p from ry)
  refine GQ.op_in_listG (N := xs.length) (fun i s' => (∃ H', Inv X pins σ H' s' ∧ Same H H') ∧ (bs.take i).any id = false) (fun i s' z => ?_) (fun s' z => ?_) ⟨⟨H, I, Same.refl H⟩, by simp⟩
  · obtain ⟨⟨H1, I1, e1⟩, nb⟩ := z
    obtain ⟨z, its, k, r, e⟩ := I1.hok p _ (e1 _ _ hp)
    refine ⟨its.toArray, k, e, by rw [List.size_toArray, ← r.length], fun h1 => ?_⟩
    have h1' : i < its.length := by simpa using h1
    have k1 : i < xs.length := by rw [r.length]; exact h1'
    have k2 : i < bs.length := by rw [hl]; exact k1
    obtain ⟨w', hw, rw'⟩ := r.get (List.getElem?_eq_getElem k1)
    have g1 : its[i]? = some its.toArray[i] := by rw [List.getElem?_eq_getElem h1'] <;> simp
    rw [g1] at hw
    rw [Option.some.inj hw]
    refine wpAny_mono (h X.A.in1 pins s' σ H1 _ x w' v _ ⟨hr.in1, rfl⟩ I1 rw' rx (mon _ _ _ _ _ e1 (hd i _ _ (List.getElem?_eq_getElem k1) (List.getElem?_eq_getElem k2)))) (fun r' s2 q2 => ?_) fun _ _ x => x
    obtain ⟨er, H2, I2, e2⟩ := q2
    subst er
    have tk : (bs.take (i + 1)).any id = bs[i] := by
      rw [List.take_succ_eq_append_getElem k2, List.any_append, nb]
      simp
    cases hb : bs[i] with
    | true =>
      rw [if_pos rfl]
      refine ⟨true, rfl, .bl true, H2, I2, rfl, ?_⟩
      have qq := q H2 (e1.trans e2)
      have : bs.any id = true := List.any_eq_true.mpr ⟨bs[i], List.getElem_mem k2, by rw [hb]; rfl⟩
      rw [this] at qq
      exact qq
    | false =>
      rw [if_neg Bool.false_ne_true]
      exact ⟨⟨H2, I2, e1.trans e2⟩, by rw [tk, hb]⟩
  · obtain ⟨⟨H1, I1, e1⟩, nb⟩ := z
    rw [← hl, List.take_length] at nb
    have qq := q H1 e1
    rw [nb] at qq
    exact ⟨.bl false, H1, I1, rfl, qq⟩
/-- == inside a list of two of the class at C -/
theorem eqT_own {X : Cx} {CX : CXT} {n : Nat} {C f : Addr} {fd : FuncData} {ps : List Str} {sp : Sp} {E : XK} {D : Tells} (o : Own X.K C "__eq__" f) (F : FnOk X.prog X.w X.K X.mg X.base CX n f fd ps sp) (hb : Binds X.K fd ps []) (hx : Passes CX X E)
    (hD : ∀ x y r H, D x y r H → ∃ a b dx dy fs gs, x = .ref a ∧ y = .ref b ∧ H a = some (.ins C dx fs) ∧ H b = some (.ins C dy gs) ∧ (a = b → r = true) ∧ sp [.ref a, .ref b] H (fun z H' => ∃ b, z = .bl b ∧ b = r ∧ Same H H') E) : EqT X n D := by
  intro A pins s σ H x y u v r sb I rx ry d
  obtain ⟨a, b, dx, dy, fs, gs, rfl, rfl, ha, hb', hab, q⟩ := hD _ _ _ _ d
  cases (show u = Value.ref a from rx)
  cases (show v = Value.ref b from ry)
  by_cases hc : a = b
  · subst hc
    rw [hab rfl]
    exact SeqAt.EqAt.same (A := A) (s := s) (.ref a) X.prog X.w X.xe _ ⟨rfl, H, I, Same.refl H⟩
  · have e0 : Env0 X.prog X.w X.K X.mg X.base A X.stack s H := by
      have e := I.env0
      exact ⟨by rw [sb.fr]; exact e.frames, e.mod, e.bs, e.bsz, e.funs, e.frf, e.hok, e.bare⟩
    refine GQ.eqBool_refG hc (wpAny_mono (rc_own (Q := fun r' H' => r' = r ∧ Same H H') o F hb sb.room e0 hx I ha hb' q) (fun w s' z => ?_) fun _ _ x => x)
    obtain ⟨r', hw, H', I', er, sm⟩ := z
    exact ⟨r', hw, er, H', I', sm⟩

/-! ### o[a:c] = ys -/
def gSlice (to : TE) (tl th : TO) : TG := fun v σ H Q => to σ H fun o H1 => tl σ H1 fun l H2 => th σ H2 fun u H3 => ∃ (p q : Addr) (xs ys : List V) (a c : Int), o = .ref p ∧ v = .ref q ∧ l = some a ∧ u = some c ∧ H3 p = some (.lst xs) ∧ H3 q = some (.lst ys) ∧ p ≠ q ∧
  0 ≤ a ∧ a ≤ c ∧ c ≤ xs.length ∧ xs.length + ys.length ≤ sizeLine ∧ Q σ (upd H3 p (.lst (xs.take a.toNat ++ ys ++ xs.drop c.toNat)))
theorem pg_slice {X : Cx} {o : Expr} {lo hi : Option Expr} {to : TE} {tl th : TO} {p2 pos : Pos} (ho : PE X o to) (hl : PO X lo tl) (hu : PO X hi th)
    (ha : ∀ v, assign (.Subscript o (.Slice lo hi none p2) pos) X.env v = (do
      let ov ← holding [v] (eval o X.env)
      let iv ← holding [v, ov] (eval (.Slice lo hi none p2) X.env)
      standAt pos
      holding [v, ov, iv] (setItem ov iv v)
      release [iv, v, ov] []) := by intro _; rfl) : PG X (.Subscript o (.Slice lo hi none p2) pos) (gSlice to tl th) := by
  refine ⟨fun pins s σ H v u Q I r h => ?_⟩
  rw [ha]
  refine wpAny_bind (wpAny_holding (thn (ho.run pins s σ H _ I h) fun ov s1 ⟨x, H1, I1, r1, q1⟩ => ?_))
  refine wpAny_bind (wpAny_holding (wpAny_Slice (thn (hl.run pins s1 σ H1 _ I1 q1) fun vl s2 ⟨l, H2, I2, pl, q2⟩ => thn (hu.run pins s2 σ H2 _ I2 q2) fun vu s3 ⟨m, H3, I3, pu, q3⟩ => ?_)))
  rw [evalPart_none]
  refine wpAny_pure ?_
  have I4 : Inv X pins σ H3 { s3 with heap := s3.heap.push { cls := .type "slice", data := .fields #[vl, vu, .none] } } := I3.kept (t' := s3.toks) fun b ob q => Heap.get?_push_of_some _ q
  obtain ⟨p, q, xs, ys, a, c, rfl, rfl, rfl, rfl, hp, hq, hne, h0, hac, hc, hz, k⟩ := q3
  cases (show ov = Value.ref p from r1)
  cases (show u = Value.ref q from r)
  refine wpAny_bind (wpAny_standAt (wpAny_bind (wpAny_holding ?_)))
  have ra : RelV (.int a) vl := by cases pl; exact ⟨_, rfl⟩
  have rc : RelV (.int c) vu := by cases pu; exact ⟨_, rfl⟩
  exact set_slice I4 hp hq hne (Heap.IsSliceOf.new ..) ra rc h0 hac hc hz fun s' I5 => wpAny_release ⟨σ, _, I5, k⟩

/-! ### enumerate(text) -/
def Itse (x : Str) : It := ⟨fun i _ => i < x.cps.size, fun i H v H' => ∃ T c, v = .ref T ∧ H T = none ∧ H' = upd H T (.tup [.int (i : Nat), .str ⟨#[c]⟩]) ∧ x.cps[i]? = some c, fun i _ => i = x.cps.size⟩
theorem draws_str {prog : Program} {w : World} {A : Around} (hh : A.handled = none) (it : Addr) (x : Str) (t : Tok) :
    Draws prog w A it [it] x.cps.size (fun i v => ∃ c u, x.cps[i]? = some c ∧ v = .str ⟨#[c]⟩ u) (fun i h => h.IsStrIter it (strIterType x) x t i) := by
  unfold strIterType
  split
  · exact Draws.strAscii hh it x t
  · exact Draws.strWide hh it x t
theorem turn_enumS {P : Program} {w : World} {K : PySem.W.Frag} {elts : List Expr} {kk : Nat} {tpos : Pos} (x : Str) (t : Tok) (e it : Addr) :
    Turn P w K (.Tuple elts kk tpos) (Itse x) [e, it] e (fun i h => (∃ old, IsEnum h e it ((i : Nat) : Int) old) ∧ h.IsStrIter it (strIterType x) x t i ∧ e ≠ it) where
  mem := by simp
  obj := fun i h st b hb => by
    obtain ⟨⟨old, he⟩, ⟨o, ho, hc, hd⟩, _⟩ := st
    have e' : b = e ∨ b = it := by simpa using hb
    rcases e' with z | z
    · rw [z]; exact ⟨_, he, fun v q => nomatch q⟩
    · rw [z]; exact ⟨o, ho, fun v q => by rw [hd] at q; cases q⟩
  keep := fun i h h' st k => let ⟨⟨old, he⟩, ⟨o, ho, r⟩, hne⟩ := st; ⟨⟨old, k e (by simp) _ he⟩, ⟨o, k it (by simp) o ho, r⟩, hne⟩
  item := by
    intro X hP hw hK hc i pins s σ H E I hf st hg
    subst hP hw hK
    obtain ⟨⟨old, he⟩, hit, hne⟩ := st
    have hel : e < s.heap.objs.size := Heap.lt_size he
    have hil : it < s.heap.objs.size := by obtain ⟨_, q, _⟩ := hit; exact Heap.lt_size q
    refine wpAny_pyNext_enum_itemD (draws_str (A := X.A.in1) (show X.A.in1.handled = none from I.ok.hd hc) it x t) he hit hg hne (by simpa using hne) fun u h' tk hPx ho hit' hT hsz hk => ?_
    obtain ⟨c, tu, hcx, rfl⟩ := hPx
    refine ⟨_, rfl, wpAny_letOwnedTupleGo_enum (s := { s with heap := h', toks := tk + 1 }) ho fun h'' he' sb => ?_⟩
    have hT2 : h''.get? s.heap.objs.size = some { cls := .type "tuple", data := .seq #[.int i tk, .str ⟨#[c]⟩ tu] } := (sb.2 _ (Nat.ne_of_gt hel)).trans hT
    have new : ObjOk X.prog X.w (upd H s.heap.objs.size (.tup [.int (i : Nat), .str ⟨#[c]⟩])) h'' s.heap.objs.size (.tup [.int (i : Nat), .str ⟨#[c]⟩]) :=
      ⟨by show 2 ≤ sizeLine; decide, [.int i tk, .str ⟨#[c]⟩ tu], .cons ⟨_, rfl⟩ (.cons ⟨_, rfl⟩ .nil), ⟨_, hT2, rfl, _, rfl⟩⟩
    have I1 : Inv X pins σ (upd H s.heap.objs.size (.tup [.int (i : Nat), .str ⟨#[c]⟩])) { s with heap := h'', toks := tk + 1 } :=
      I.turnedNew (ch := [e, it]) (fun b ob hb q => (sb.2 b (fun z => hb (by simp [z]))).trans (hk b ob (fun z => hb (by simp [z])) (fun z => hb (by simp [z])) q)) hf (Nat.le_refl _) new
    refine ⟨.ref s.heap.objs.size, _, I1, rfl, ⟨_, c, rfl, I.hok.fresh (Nat.le_refl _), rfl, hcx⟩, ⟨⟨.str ⟨#[c]⟩ tu, ?_⟩, ?_, hne⟩, fun b hb => ?_⟩
    · have e1 : ((i + 1 : Nat) : Int) = (i : Int) + 1 := by omega
      rw [e1]; exact he'
    · obtain ⟨o, q, r⟩ := hit'
      exact ⟨o, (sb.2 it (Ne.symm hne)).trans q, r⟩
    · have hb' : b < s.heap.objs.size := by
        have e' : b = e ∨ b = it := by simpa using hb
        rcases e' with z | z
        · rw [z]; exact hel
        · rw [z]; exact hil
      rw [upd_ne (Nat.ne_of_lt hb')]
      exact (hf b hb).1
  done := by
    intro X hP hw hK hc i pins s σ H E I hf st hg
    subst hP hw hK
    obtain ⟨⟨old, he⟩, hit, hne⟩ := st
    obtain ⟨f0, f1, f2, f3, f4, f5⟩ := hf it (by simp)
    have hin : i = x.cps.size := hg
    subst hin
    exact wpAny_pyNext_enum_endD (draws_str (A := X.A.in1) (show X.A.in1.handled = none from I.ok.hd hc) it x t) he hit fun h' eb => ⟨rfl, I.turned (t' := s.toks) (fun b o hb q => eb b o hb q) f0 f1 f3 f4 f5⟩
  self := fun A i s Q E st h => let ⟨⟨_, he⟩, _⟩ := st; wpAny_pyIter_enum he h
def iEnumS (ta : TA) : TI := fun σ H R => ta σ H fun vs H1 => ∃ x, vs = [.str x] ∧ R (Itse x) H1
theorem pi_enumS {X : Cx} {e : Expr} {ta : TA} {p pos tpos : Pos} {elts : List Expr} {kk : Nat} (hg : Gl X "enumerate") (hm : X.mg "enumerate" = none) (ha : PA X [e] ta) (hs : starEach [e] X.env = [(false, eval e X.env)] := by rfl) :
    PI X (.Tuple elts kk tpos) (.Call (.Name "enumerate" p) [e] [] pos) (iEnumS ta) := by
  refine ⟨fun pins s σ H R I h => ?_⟩
  refine Call_ (ld_blt I hg hm boot_enumerate (PyProof.Rows.callWith_type1 (thn (ha.run pos pins s σ H _ I h) fun us s1 ⟨vs, H1, I1, r1, q1⟩ => ?_) hs rfl))
  obtain ⟨x, ex, q⟩ := q1
  subst ex
  obtain ⟨u, rfl, ru⟩ := vals1 r1
  obtain ⟨t, rfl⟩ := ru
  refine call_enumerate_str fun h' he hit hsz hk => wpAny_pyIter_enum he ?_
  have I2 : Inv X pins σ H1 { s1 with heap := h' } := I1.kept (t' := s1.toks) hk
  refine ⟨s1.heap.objs.size + 1, [s1.heap.objs.size + 1, s1.heap.objs.size], _, _, H1, rfl, I2, turn_enumS x t (s1.heap.objs.size + 1) s1.heap.objs.size, ⟨⟨.none, he⟩, hit, Nat.succ_ne_self _⟩, fun b hb => ?_, q⟩
  have e' : b = s1.heap.objs.size + 1 ∨ b = s1.heap.objs.size := by simpa using hb
  have hle : s1.heap.objs.size ≤ b := by
    rcases e' with z | z
    · rw [z]; exact Nat.le_add_right _ _
    · rw [z]; exact Nat.le_refl _
  exact I1.fpOk hle (I1.hok.fresh hle)
theorem walk_enumS {z : Str} : Walk (Itse z) z.cps.size (fun _ => True) (fun i H v H' => ∃ T c, v = .ref T ∧ H T = none ∧ H' = upd H T (.tup [.int (i : Nat), .str ⟨#[c]⟩]) ∧ z.cps[i]? = some c) :=
  ⟨fun _ _ h _ => h, fun _ _ => rfl, fun _ _ _ _ _ _ y => y⟩
end L2

set_option Elab.async false
set_option linter.all false
set_option maxRecDepth 100000
set_option maxHeartbeats 2000000
namespace L2
open PySem PySem.Spec PyProof.Rows
/-! ### len(range(n)) -/
theorem call_len_range {prog : Program} {w : World} {A : Around} {E : Value → Shared → Prop} {s : Shared} {r : Addr} {a b : Int} {t u v : Tok} {Q : Value → Shared → Prop} (hr : IsRange s.heap r a b 1 t u v) (h : (b - a).toNat < 2 ^ 62)
    (hq : Q (.int ((b - a).toNat : Nat) (s.toks + 1)) { s with toks := s.toks + 1 + 1 }) : wpAny (model prog w) A (call (.builtin "len") [.ref r]) Q E s := by
  have hT : s.TypeIs (.ref r) "range" := ⟨_, hr, rfl⟩
  have hn : Builtin.Range.rangeSize a b 1 = ((b - a).toNat : Nat) := rangeSize_nat a b
  refine call_len_slot (n := ((b - a).toNat : Nat)) hT F.slot_range_len (fun Q' hq' => wpAny_call_entry F.slot_range_len hT F.entry_range_len ?_ (F.args_range_len_1 _)) (by omega) (by omega) hq
  obtain ⟨hp, g, d, tk, os⟩ := s
  unfold Builtin.«range.__len__»
  have h2 : ¬ ((((b - a).toNat : Nat) : Int) ≥ 2 ^ 63) := by omega
  refine wpAny_bind (wpAny_pure ?_)
  show wpAny _ _ (Builtin.Range.rangeFields (.ref r) >>= _) _ _ _
  unfold Builtin.Range.rangeFields
  repeat (first
    | (with_reducible refine wpAny_bind ?_)
    | (with_reducible refine wpAny_field hr rfl rfl ?_)
    | (with_reducible refine wpAny_pure ?_)
    | (simp only [hn, if_neg h2])
    | wp_step)
  all_goals first | exact ⟨_, rfl, hq'⟩ | exact hq' | skip
def tLenRg (te : St → Hp → (Int → Int → Hp → Prop) → Prop) : TE := fun σ H Q => te σ H fun a b H1 => (b - a).toNat < 2 ^ 62 ∧ Q (.int ((b - a).toNat : Nat)) H1
theorem pe_lenRg {X : Cx} {e : Expr} {te : St → Hp → (Int → Int → Hp → Prop) → Prop} {p pos : Pos} (hg : Gl X "len") (hm : X.mg "len" = none) (he : PRg X e te) (na : starEach [e] X.env = (false, eval e X.env) :: starEach [] X.env := by rfl) :
    PE X (.Call (.Name "len" p) [e] [] pos) (tLenRg te) := by
  refine ⟨fun pins s σ H Q I h => ?_⟩
  refine Call_ (ld_blt I hg hm PySem.boot_len (PyProof.Rows.callWith_builtin1 (args_cons (thn (he pins s σ H _ I h) fun x s1 ⟨r, a, b, t, u, v, H1, ex, hr, I1, ok, q⟩ => args_nil ?_) na) na rfl))
  subst ex
  exact call_len_range hr ok ⟨.int _, H1, I1.tok _, ⟨_, rfl⟩, q⟩
end L2

set_option Elab.async false
set_option linter.all false
set_option maxRecDepth 100000
set_option maxHeartbeats 2000000
/-! trees: what a thing is; their texts; how they stand in the heap -/
namespace Js
open PySem L2
inductive Tr where
  | nil
  | pr (l r : Tr)
  deriving DecidableEq
namespace Tr
def size : Tr → Nat
  | nil => 0
  | pr l r => 1 + l.size + r.size
def codes : Tr → List Nat
  | nil => [46]
  | pr l r => 40 :: (l.codes ++ (r.codes ++ [41]))
def text (t : Tr) : Str := ⟨t.codes.toArray⟩
theorem text_list (t : Tr) : t.text.cps.toList = t.codes := rfl
theorem codes_len : ∀ t : Tr, t.codes.length = 3 * t.size + 1
  | nil => rfl
  | pr l r => by
    have h1 := codes_len l
    have h2 := codes_len r
    simp only [codes, size, List.length_cons, List.length_append, List.length_nil]
    omega
theorem text_len (t : Tr) : t.text.length = 3 * t.size + 1 := by
  have h : t.text.length = t.codes.length := by
    show t.codes.toArray.size = _
    rw [List.size_toArray]
  rw [h, codes_len]
/-- codes are read in one way -/
theorem codes_pre : ∀ (t u : Tr) (p q : List Nat), t.codes ++ p = u.codes ++ q → t = u ∧ p = q
  | nil, nil, p, q, h => ⟨rfl, by simpa [codes] using h⟩
  | nil, pr l r, p, q, h => by simp [codes] at h
  | pr l r, nil, p, q, h => by simp [codes] at h
  | pr l r, pr l' r', p, q, h => by
    simp only [codes, List.cons_append, List.append_assoc, List.cons.injEq, true_and] at h
    obtain ⟨e1, h1⟩ := codes_pre l l' _ _ h
    obtain ⟨e2, h2⟩ := codes_pre r r' _ _ h1
    subst e1 e2
    simp only [List.nil_append, List.cons.injEq, true_and] at h2
    exact ⟨rfl, h2⟩
theorem codes_inj {t u : Tr} (h : t.codes = u.codes) : t = u := (codes_pre t u [] [] (by simpa using h)).1
theorem text_inj {t u : Tr} (h : t.text = u.text) : t = u := codes_inj (by rw [← text_list, ← text_list, h])
theorem size_nil {t : Tr} (h : t.size = 0) : t = nil := by
  cases t with
  | nil => rfl
  | pr l r => simp [size] at h
theorem small_eq {t u : Tr} (h : t.size = u.size) (h1 : t.size ≤ 1) : t = u := by
  cases t with
  | nil => exact (size_nil h.symm).symm
  | pr l r =>
    cases u with
    | nil => simp [size] at h
    | pr l' r' =>
      simp only [size] at h h1
      have e1 := size_nil (t := l) (by omega)
      have e2 := size_nil (t := r) (by omega)
      have e3 := size_nil (t := l') (by omega)
      have e4 := size_nil (t := r') (by omega)
      rw [e1, e2, e3, e4]
def head : Tr → Tr
  | nil => nil
  | pr l _ => l
def tail : Tr → Tr
  | nil => nil
  | pr _ r => r
end Tr
open Tr (small_eq)
/-! ### the attributes -/
theorem n_fs : ¬ (("first" : Str) = "second") := by decide +kernel
theorem n_fz : ¬ (("first" : Str) = "size") := by decide +kernel
theorem n_sf : ¬ (("second" : Str) = "first") := by decide +kernel
theorem n_sz : ¬ (("second" : Str) = "size") := by decide +kernel
def tf (f s : V) (n : Int) : List (Str × V) := putF "size" (.int n) (putF "second" s (putF "first" f []))
theorem tf_len (f s : V) (n : Int) : (tf f s n).length ≤ 3 := by
  unfold tf
  have h1 := length_putF "first" f []
  have h2 := length_putF "second" s (putF "first" f [])
  have h3 := length_putF "size" (.int n) (putF "second" s (putF "first" f []))
  simp only [List.length_nil] at h1
  omega
theorem tf_first (f s : V) (n : Int) : (tf f s n).lookup ("first" : Str) = some f := by
  unfold tf
  rw [lookup_putF, if_neg n_fz, lookup_putF, if_neg n_fs, lookup_putF, if_pos rfl]
theorem tf_second (f s : V) (n : Int) : (tf f s n).lookup ("second" : Str) = some s := by
  unfold tf
  rw [lookup_putF, if_neg n_sz, lookup_putF, if_pos rfl]
theorem tf_size (f s : V) (n : Int) : (tf f s n).lookup ("size" : Str) = some (.int n) := by
  unfold tf
  rw [lookup_putF, if_pos rfl]
theorem tf_no (f s : V) (n : Int) {m : Str} (h1 : ¬ m = "size") (h2 : ¬ m = "second") (h3 : ¬ m = "first") : (tf f s n).lookup m = none := by
  unfold tf
  rw [lookup_putF, if_neg h1, lookup_putF, if_neg h2, lookup_putF, if_neg h3]
  all_goals rfl
/-- a thing stands at a -/
inductive Th (C : Addr) (H : Hp) : Addr → Tr → Prop where
  | nil {a dx : Addr} (h : H a = some (.ins C dx (tf .non .non 0))) : Th C H a .nil
  | pr {a dx b c : Addr} {l r : Tr} (h : H a = some (.ins C dx (tf (.ref b) (.ref c) ((Tr.pr l r).size : Nat)))) (hl : Th C H b l) (hr : Th C H c r) : Th C H a (.pr l r)
/-- all that is no list stays -/
def KT (H H' : Hp) : Prop := ∀ a o, H a = some o → (∀ xs, o ≠ HO.lst xs) → H' a = some o
theorem KT.of {H H' : Hp} (s : Same H H') : KT H H' := fun _ _ h _ => s _ _ h
theorem KT.refl (H : Hp) : KT H H := fun _ _ h _ => h
theorem KT.trans {H H1 H2 : Hp} (a : KT H H1) (b : KT H1 H2) : KT H H2 := fun x o h n => b x o (a x o h n) n
theorem KT.lst {H : Hp} {p : Addr} {o : HO} {xs : List V} (hp : H p = some (.lst xs)) : KT H (upd H p o) := fun a u h n => by
  rw [upd_ne]
  · exact h
  · intro e
    subst e
    exact n _ (Option.some.inj (h.symm.trans hp))
theorem KT.new {H : Hp} {p : Addr} {o : HO} (hp : H p = none) : KT H (upd H p o) := fun a u h n => by
  rw [upd_ne (ne_of_none h hp)]
  exact h
theorem _root_.L2.Same.new {H : Hp} {p : Addr} {o : HO} (hp : H p = none) : Same H (upd H p o) := fun a u h => by
  rw [upd_ne (ne_of_none h hp)]
  exact h
/-- a list that is new since H0 changes -/
theorem _root_.L2.Same.set {H0 H : Hp} {p : Addr} {o : HO} (s : Same H0 H) (hp : H0 p = none) : Same H0 (upd H p o) := fun a u h => by
  rw [upd_ne (ne_of_none h hp)]
  exact s _ _ h
theorem Th.kt {C : Addr} {H H' : Hp} (k : KT H H') {a : Addr} {t : Tr} (h : Th C H a t) : Th C H' a t := by
  induction h with
  | nil h => exact .nil (k _ _ h (fun _ e => nomatch e))
  | pr h _ _ ih1 ih2 => exact .pr (k _ _ h (fun _ e => nomatch e)) ih1 ih2
theorem Th.same {C : Addr} {H H' : Hp} (s : Same H H') {a : Addr} {t : Tr} (h : Th C H a t) : Th C H' a t := h.kt (KT.of s)
theorem Th.obj {C : Addr} {H : Hp} {a : Addr} {t : Tr} (h : Th C H a t) : ∃ dx f s, H a = some (.ins C dx (tf f s (t.size : Nat))) := by
  cases h with
  | nil h => exact ⟨_, _, _, h⟩
  | pr h _ _ => exact ⟨_, _, _, h⟩
theorem tf_ref_inj {C dx dx' : Addr} {f s f' s' : V} {n n' : Int} (h : HO.ins C dx (tf f s n) = HO.ins C dx' (tf f' s' n')) : f = f' ∧ s = s' ∧ n = n' := by
  injection h with _ _ h3
  have e1 := congrArg (List.lookup ("first" : Str)) h3
  have e2 := congrArg (List.lookup ("second" : Str)) h3
  have e3 := congrArg (List.lookup ("size" : Str)) h3
  rw [tf_first, tf_first] at e1
  rw [tf_second, tf_second] at e2
  rw [tf_size, tf_size] at e3
  exact ⟨Option.some.inj e1, Option.some.inj e2, V.int.inj (Option.some.inj e3)⟩
theorem Th.inj {C : Addr} {H : Hp} {a : Addr} {t u : Tr} (h : Th C H a t) (h' : Th C H a u) : t = u := by
  induction h generalizing u with
  | nil h =>
    cases h' with
    | nil _ => rfl
    | pr h' _ _ =>
      have e := Option.some.inj (h.symm.trans h')
      exact V.noConfusion (tf_ref_inj e).1
  | pr h _ _ ih1 ih2 =>
    cases h' with
    | nil h' =>
      have e := Option.some.inj (h.symm.trans h')
      exact V.noConfusion (tf_ref_inj e).1
    | pr h' h1 h2 =>
      have e := tf_ref_inj (Option.some.inj (h.symm.trans h'))
      have e1 := V.ref.inj e.1
      have e2 := V.ref.inj e.2.1
      subst e1 e2
      rw [ih1 h1, ih2 h2]
/-- a pair: what its attributes hold -/
theorem Th.pair {C : Addr} {H : Hp} {a : Addr} {l r : Tr} (h : Th C H a (.pr l r)) : ∃ dx b c, H a = some (.ins C dx (tf (.ref b) (.ref c) ((Tr.pr l r).size : Nat))) ∧ Th C H b l ∧ Th C H c r := by
  cases h with
  | pr h hl hr => exact ⟨_, _, _, h, hl, hr⟩
theorem pr_tru (l r : Tr) : true = ((((Tr.pr l r).size : Nat) : Int) != 0) := by
  have : (((Tr.pr l r).size : Nat) : Int) ≠ 0 := by simp only [Tr.size]; omega
  exact (bne_iff_ne.mpr this).symm
/-! ### stacks: the top comes first -/
theorem last_rev {α : Type} (v : α) (r : List α) : (v :: r).reverse[(v :: r).reverse.length - 1]? = some v := by
  rw [List.reverse_cons, List.length_append, List.length_reverse]
  show (r.reverse ++ [v])[r.length + 1 - 1]? = some v
  rw [Nat.add_sub_cancel, List.getElem?_append_right (by rw [List.length_reverse]; exact Nat.le_refl _), List.length_reverse, Nat.sub_self]
  rfl
theorem drop_rev {α : Type} (v : α) (r : List α) : (v :: r).reverse.dropLast = r.reverse := by
  rw [List.reverse_cons, List.dropLast_concat]
theorem push_rev {α : Type} (v : α) (r : List α) : r.reverse ++ [v] = (v :: r).reverse := by
  rw [List.reverse_cons]
/-! ### two stacks of things -/
/-- a pair of things, in a tuple -/
def PrAt (C : Addr) (H : Hp) (v : V) (p : Tr × Tr) : Prop := ∃ q a b, v = .ref q ∧ H q = some (.tup [.ref a, .ref b]) ∧ Th C H a p.1 ∧ Th C H b p.2
theorem PrAt.kt {C : Addr} {H H' : Hp} (k : KT H H') {v : V} {p : Tr × Tr} (h : PrAt C H v p) : PrAt C H' v p := by
  obtain ⟨q, a, b, e, hq, h1, h2⟩ := h
  exact ⟨q, a, b, e, k _ _ hq (fun _ e => nomatch e), h1.kt k, h2.kt k⟩
theorem prs_kt {C : Addr} {H H' : Hp} (k : KT H H') : ∀ {rs : List V} {ps : List (Tr × Tr)}, Paired (PrAt C H) rs ps → Paired (PrAt C H') rs ps
  | _, _, .nil => .nil
  | _, _, .cons h t => .cons (h.kt k) (prs_kt k t)
def pm (ps : List (Tr × Tr)) : Nat := (ps.map fun p => 2 * p.1.size + 1).sum
theorem pm_cons (p : Tr × Tr) (ps : List (Tr × Tr)) : pm (p :: ps) = 2 * p.1.size + 1 + pm ps := by simp [pm]
theorem pm_len : ∀ ps : List (Tr × Tr), ps.length ≤ pm ps
  | [] => Nat.zero_le _
  | p :: ps => by
    have := pm_len ps
    rw [pm_cons, List.length_cons]
    omega
/-- a thing that waits, or a bracket to shut -/
def WtAt (C : Addr) (H : Hp) (v : V) (o : Option Tr) : Prop := (v = .non ∧ o = none) ∨ ∃ a t, v = .ref a ∧ o = some t ∧ Th C H a t
theorem WtAt.kt {C : Addr} {H H' : Hp} (k : KT H H') {v : V} {o : Option Tr} (h : WtAt C H v o) : WtAt C H' v o := by
  rcases h with h | ⟨a, t, e1, e2, h⟩
  · exact .inl h
  · exact .inr ⟨a, t, e1, e2, h.kt k⟩
theorem wts_kt {C : Addr} {H H' : Hp} (k : KT H H') : ∀ {rs : List V} {ps : List (Option Tr)}, Paired (WtAt C H) rs ps → Paired (WtAt C H') rs ps
  | _, _, .nil => .nil
  | _, _, .cons h t => .cons (h.kt k) (wts_kt k t)
def wout : Option Tr → List Nat
  | none => [41]
  | some t => t.codes
def wouts (ps : List (Option Tr)) : List Nat := (ps.map wout).flatten
theorem wouts_cons (p : Option Tr) (ps : List (Option Tr)) : wouts (p :: ps) = wout p ++ wouts ps := by simp [wouts]
def wm1 : Option Tr → Nat
  | none => 1
  | some t => 3 * t.size + 1
def wm (ps : List (Option Tr)) : Nat := (ps.map wm1).sum
theorem wm_cons (p : Option Tr) (ps : List (Option Tr)) : wm (p :: ps) = wm1 p + wm ps := by simp [wm]
theorem wm_len : ∀ ps : List (Option Tr), ps.length ≤ wm ps
  | [] => Nat.zero_le _
  | p :: ps => by
    have := wm_len ps
    rw [wm_cons, List.length_cons]
    cases p with
    | none => simp only [wm1]; omega
    | some t => simp only [wm1]; omega
theorem line4 : 100000 < sizeLine := by rw [sizeLine_eq]; decide
end Js

set_option Elab.async false
set_option linter.all false
set_option maxRecDepth 100000
set_option maxHeartbeats 2000000
namespace Js
open PySem L2
def top (i : Nat) : Stmt := PySem.Challenge.pw_judgeslip_k01_things.main.body.getD i (.Pass ⟨0, 0, 0, 0⟩)
abbrev sInit : Stmt := inClass (top 10) 0
abbrev sHead : Stmt := inClass (top 10) 1
abbrev sTail : Stmt := inClass (top 10) 2
abbrev sLen : Stmt := inClass (top 10) 3
abbrev sEq : Stmt := inClass (top 10) 4
abbrev sStr : Stmt := inClass (top 10) 5
abbrev sRepr : Stmt := inClass (top 10) 6
abbrev sPairs : Stmt := top 11
abbrev sAlike : Stmt := top 12
abbrev sSigns : Stmt := top 13
/-- what the text says of Thing, and which built-ins are as they were -/
structure Txt (K : PySem.W.Frag) (mg : Str → Option Value) (C : Addr) : Prop where
  cl : Cls K C
  nF : NoAttr K C "first"
  nS : NoAttr K C "second"
  nZ : NoAttr K C "size"
  mgC : mg "Thing" = some (.ref C)
  mgM : ∃ t, mg "MOST_PAIRS" = some (.int 4000 t)
  len : mg "len" = none
  range : mg "range" = none
  isi : mg "isinstance" = none
  ca : PySem.W.findIn K (.ref C) "__class__" = some (some (.builtin "object.__class__"))
  cn : PySem.W.specialIn K (.builtin "object.__class__") "__get__" = some (some (.builtin "getset_descriptor.__get__"))
  ct : PySem.W.takesIn K (.builtin "object.__class__") = some true
  cm : PySem.W.mroIn K C (.type "object") = some true
  ne : PySem.W.findIn K (.ref C) "__ne__" = some (some (.builtin "object.__ne__"))
/-- a def of the top: where it stands -/
structure At (K : PySem.W.Frag) (mg : Str → Option Value) (x : Str) (st : Stmt) (ps : List Str) (f : Addr) (fd : FuncData) : Prop where
  F : Fun K x x st f fd
  mgf : mg x = some (.ref f)
  b : Binds K fd ps []
/-! ### promises -/
def PairsOf (C : Addr) (H : Hp) (x y : V) (n : Nat) : Prop := (x = .non ∧ y = .non ∧ n = 0) ∨ ∃ a b t u, x = .ref a ∧ y = .ref b ∧ Th C H a t ∧ Th C H b u ∧ n = 1 + t.size + u.size
def spPairs (C : Addr) : Sp := fun vs H Q _ => ∃ x y n, vs = [x, y] ∧ PairsOf C H x y n ∧ Q (.int (n : Nat)) H
def spInit (C : Addr) : Sp := fun vs H Q _ => ∃ (p dx : Addr) (x y : V) (n : Nat), vs = [.ref p, x, y] ∧ H p = some (.ins C dx []) ∧ PairsOf C H x y n ∧ n ≤ 4000 ∧ Q .non (upd H p (.ins C dx (tf x y (n : Nat))))
def spHead (C : Addr) : Sp := fun vs H Q _ => ∃ a t, vs = [.ref a] ∧ Th C H a t ∧ ∀ b, Th C H b t.head → Q (.ref b) H
def spTail (C : Addr) : Sp := fun vs H Q _ => ∃ a t, vs = [.ref a] ∧ Th C H a t ∧ ∀ b, Th C H b t.tail → Q (.ref b) H
def spLen (C : Addr) : Sp := fun vs H Q _ => ∃ a t, vs = [.ref a] ∧ Th C H a t ∧ t.size ≤ 4000 ∧ Q (.int (t.size : Nat)) H
def spEqT (C : Addr) : Sp := fun vs H Q _ => ∃ a b t u, vs = [.ref a, .ref b] ∧ Th C H a t ∧ Th C H b u ∧ t.size ≤ 4000 ∧ ∀ H', Same H H' → Q (.bl (decide (t = u))) H'
def sgn (c : Nat) : V := .str ⟨#[c]⟩
def spSigns (C : Addr) : Sp := fun vs H Q _ => ∃ a t, vs = [.ref a] ∧ Th C H a t ∧ t.size ≤ 4000 ∧ ∀ p H', Same H H' → H p = none → H' p = some (.lst (t.codes.map sgn)) → Q (.ref p) H'
def spStr (C : Addr) : Sp := fun vs H Q _ => ∃ a t, vs = [.ref a] ∧ Th C H a t ∧ t.size ≤ 4000 ∧ ∀ H', Same H H' → Q (.str t.text) H'
theorem mk_pr {C a b : Addr} {H : Hp} {t u : Tr} {Q : VK} {E : XK} (ha : Th C H a t) (hb : Th C H b u) (hz : 1 + t.size + u.size ≤ 4000) (k : ∀ x H', Same H H' → H x = none → Th C H' x (.pr t u) → Q (.ref x) H') :
    ∀ x dx, H x = none → H dx = none → dx ≠ x → spInit C (.ref x :: ([.ref a, .ref b] ++ [])) (upd (upd H dx (.own x)) x (.ins C dx [])) (fun v H3 => v = .non ∧ Q (.ref x) H3) E := by
  intro x dx nx ndx ne
  have s0 : Same H (upd (upd H dx (.own x)) x (.ins C dx [])) := fun b o e => by
    rw [upd_ne (ne_of_none e nx), upd_ne (ne_of_none e ndx)]
    exact e
  refine ⟨x, dx, _, _, 1 + t.size + u.size, rfl, upd_same, .inr ⟨a, b, t, u, rfl, rfl, ha.same s0, hb.same s0, rfl⟩, hz, rfl, ?_⟩
  rw [upd_upd]
  have s1 : Same H (upd (upd H dx (.own x)) x (.ins C dx (tf (.ref a) (.ref b) ((1 + t.size + u.size : Nat) : Int)))) := fun b o e => by
    rw [upd_ne (ne_of_none e nx), upd_ne (ne_of_none e ndx)]
    exact e
  exact k x _ s1 nx (.pr upd_same (ha.same s1) (hb.same s1))
theorem mk_nil {C : Addr} {H : Hp} {Q : VK} {E : XK} (k : ∀ x H', Same H H' → H x = none → Th C H' x .nil → Q (.ref x) H') :
    ∀ x dx, H x = none → H dx = none → dx ≠ x → spInit C (.ref x :: ([] ++ [.non, .non])) (upd (upd H dx (.own x)) x (.ins C dx [])) (fun v H3 => v = .non ∧ Q (.ref x) H3) E := by
  intro x dx nx ndx ne
  refine ⟨x, dx, _, _, 0, rfl, upd_same, .inl ⟨rfl, rfl, rfl⟩, by decide, rfl, ?_⟩
  rw [upd_upd]
  have s1 : Same H (upd (upd H dx (.own x)) x (.ins C dx (tf .non .non ((0 : Nat) : Int)))) := fun b o e => by
    rw [upd_ne (ne_of_none e nx), upd_ne (ne_of_none e ndx)]
    exact e
  exact k x _ s1 nx (.nil upd_same)
section
variable {P : Program} {w : World} {K : PySem.W.Frag} {mg : Str → Option Value} {base : Heap} {C : Addr}
theorem scP : FnScope ["first", "second"] ["first", "second"] (defScope sPairs) := ⟨rfl, rfl, rfl, by decide +kernel, rfl, by decide +kernel, by decide +kernel⟩
theorem ok_pairs {f : Addr} {fd : FuncData} (F : Fun K "pairs_in" "pairs_in" sPairs f fd) (T : Txt K mg C) : FnOk P w K mg base CX0 1 f fd ["first", "second"] (spPairs C) := by
  refine F.ok scP (fun vs H Q E h => ?_) (fun cdv A outer s H vs Q E hr h => ?_)
  · obtain ⟨x, y, n, rfl, _⟩ := h
    rfl
  · obtain ⟨x, y, n, rfl, hp, k⟩ := h
    refine ⟨_, pss_cons (ps_if (PW.pt (pw_and (pt_cmp (pc_isN (pv 0))) (pw_and1 (pt_cmp (pc_isN (pv 1)))))) (pss_one (ps_ret pe_int)) pss_nil)
      (pss_one (ps_ret (pe_op op_add (pe_op op_add pe_int (pe_fld (pv 0) rfl)) (pe_fld (pv 1) rfl)))), ?_⟩
    rcases hp with ⟨rfl, rfl, rfl⟩ | ⟨a, b, t, u, rfl, rfl, ha, hb, rfl⟩
    · refine ⟨_, rfl, _, rfl, ?_⟩
      refine iteT ⟨_, rfl, _, rfl, ?_⟩
      exact iteT k
    · refine ⟨_, rfl, _, rfl, ?_⟩
      refine iteF ?_
      refine iteF ?_
      obtain ⟨dx, f1, s1, h1⟩ := ha.obj
      obtain ⟨dy, f2, s2, h2⟩ := hb.obj
      refine ⟨_, rfl, _, _, _, _, _, rfl, h1, T.cl, T.nZ, tf_size _ _ _, _, _, rfl, rfl, _, rfl, _, _, _, _, _, rfl, h2, T.cl, T.nZ, tf_size _ _ _, _, _, rfl, rfl, ?_⟩
      have e : ((1 : Int) + (t.size : Nat) + (u.size : Nat)) = ((1 + t.size + u.size : Nat) : Int) := by omega
      show Q (V.int ((1 : Int) + (t.size : Nat) + (u.size : Nat))) H
      rw [e]
      exact k
theorem scI : FnScope ["self", "first", "second", "size"] ["self", "first", "second"] (defScope sInit) := ⟨rfl, rfl, rfl, by decide +kernel, rfl, by decide +kernel, by decide +kernel⟩
theorem ok_init {f fP : Addr} {fd fdP : FuncData} (F : FunD K "__init__" "Thing.__init__" (defArgs sInit) (defBody sInit) (defScope sInit) [.non, .non] [] f fd) (T : Txt K mg C) (AP : At K mg "pairs_in" sPairs ["first", "second"] fP fdP) : FnOk P w K mg base CX0 2 f fd ["self", "first", "second"] (spInit C) := by
  have GP : FnOk P w K mg base CX0 1 fP fdP ["first", "second"] (spPairs C) := ok_pairs AP.F T
  obtain ⟨tm, mgM⟩ := T.mgM
  refine F.ok scI (fun vs H Q E h => ?_) (fun cdv A outer s H vs Q E hr h => ?_)
  · obtain ⟨p, dx, x, y, n, rfl, _⟩ := h
    rfl
  · obtain ⟨p, dx, x, y, n, rfl, hp, hxy, hn, k⟩ := h
    refine ⟨_, PSs.nox (pss_cons (ps_set (i := 3) scI.nd rfl (Or.inl rfl) (pe_call GP hr rfl AP.mgf AP.F.kp AP.b .nil pass0 (pa_cons (pv 1) (pa_cons (pv 2) pa_nil))))
      (pss_cons (ps_if (pt_cmpR op_gt (pv 3) (pe_glob (v := .int 4000) rfl mgM ⟨_, rfl⟩) (nomark _)) (pss_one ps_never) pss_nil)
      (pss_cons (ps_fld (pv 0) (pv 1) rfl) (pss_cons (ps_fld (pv 0) (pv 2) rfl) (pss_one (ps_fld (pv 0) (pv 3) rfl)))))), ?_⟩
    refine ⟨_, rfl, _, rfl, x, y, n, rfl, hxy, ?_⟩
    refine ⟨_, rfl, _, _, rfl, rfl, _, rfl, ?_⟩
    have ed : decide ((4000 : Int) < (n : Nat)) = false := decide_eq_false (by omega)
    rw [ed]
    refine iteF ?_
    refine ⟨_, rfl, _, rfl, p, C, dx, [], rfl, hp, T.cl, T.nF, (by show 0 < 1000; decide), ?_⟩
    refine ⟨_, rfl, _, rfl, p, C, dx, _, rfl, upd_same, T.cl, T.nS, Nat.lt_of_le_of_lt (length_putF _ _ _) (by show 0 + 1 < 1000; decide), ?_⟩
    refine ⟨_, rfl, _, rfl, p, C, dx, _, rfl, upd_same, T.cl, T.nZ, ?_, ?_⟩
    · have h1 := length_putF "first" x []
      have h2 := length_putF "second" y (putF "first" x [])
      simp only [List.length_nil] at h1
      omega
    · show Q .non (upd (upd (upd H p _) p _) p (.ins C dx (tf x y (n : Nat))))
      rw [upd_upd, upd_upd]
      exact k
theorem scH : FnScope ["self"] ["self"] (defScope sHead) := ⟨rfl, rfl, rfl, by decide +kernel, rfl, by decide +kernel, by decide +kernel⟩
theorem ok_head {f : Addr} {fd : FuncData} (F : Fun K "head" "Thing.head" sHead f fd) (T : Txt K mg C) : FnOk P w K mg base CX0 1 f fd ["self"] (spHead C) := by
  refine F.ok scH (fun vs H Q E h => ?_) (fun cdv A outer s H vs Q E hr h => ?_)
  · obtain ⟨a, t, rfl, _⟩ := h
    rfl
  · obtain ⟨a, t, rfl, ha, k⟩ := h
    refine ⟨_, pss_one (ps_ret (pe_ifExp (pt_truth (pe_fld (pv 0) rfl) (by intro _; rfl)) (pe_fld (pv 0) rfl) (pv 0))), ?_⟩
    have ha' := ha
    cases ha with
    | nil h =>
      refine ⟨_, rfl, _, _, _, _, _, rfl, h, T.cl, T.nZ, tf_size _ _ _, _, rfl, ?_⟩
      exact iteF ⟨_, rfl, k _ ha'⟩
    | @pr _ dx b c l r h hl hr' =>
      refine ⟨_, rfl, _, _, _, _, _, rfl, h, T.cl, T.nZ, tf_size _ _ _, true, ?_, ?_⟩
      · show true = ((((Tr.pr l r).size : Nat) : Int) != 0)
        exact pr_tru l r
      · exact iteT ⟨_, rfl, _, _, _, _, _, rfl, h, T.cl, T.nF, tf_first _ _ _, k _ hl⟩
theorem scTl : FnScope ["self"] ["self"] (defScope sTail) := ⟨rfl, rfl, rfl, by decide +kernel, rfl, by decide +kernel, by decide +kernel⟩
theorem ok_tail {f : Addr} {fd : FuncData} (F : Fun K "tail" "Thing.tail" sTail f fd) (T : Txt K mg C) : FnOk P w K mg base CX0 1 f fd ["self"] (spTail C) := by
  refine F.ok scTl (fun vs H Q E h => ?_) (fun cdv A outer s H vs Q E hr h => ?_)
  · obtain ⟨a, t, rfl, _⟩ := h
    rfl
  · obtain ⟨a, t, rfl, ha, k⟩ := h
    refine ⟨_, pss_one (ps_ret (pe_ifExp (pt_truth (pe_fld (pv 0) rfl) (by intro _; rfl)) (pe_fld (pv 0) rfl) (pv 0))), ?_⟩
    have ha' := ha
    cases ha with
    | nil h =>
      refine ⟨_, rfl, _, _, _, _, _, rfl, h, T.cl, T.nZ, tf_size _ _ _, _, rfl, ?_⟩
      exact iteF ⟨_, rfl, k _ ha'⟩
    | @pr _ dx b c l r h hl hr' =>
      refine ⟨_, rfl, _, _, _, _, _, rfl, h, T.cl, T.nZ, tf_size _ _ _, true, ?_, ?_⟩
      · show true = ((((Tr.pr l r).size : Nat) : Int) != 0)
        exact pr_tru l r
      · exact iteT ⟨_, rfl, _, _, _, _, _, rfl, h, T.cl, T.nS, tf_second _ _ _, k _ hr'⟩
theorem scLn : FnScope ["self"] ["self"] (defScope sLen) := ⟨rfl, rfl, rfl, by decide +kernel, rfl, by decide +kernel, by decide +kernel⟩
theorem ok_len {f : Addr} {fd : FuncData} (F : Fun K "__len__" "Thing.__len__" sLen f fd) (T : Txt K mg C) : FnOk P w K mg base CX0 1 f fd ["self"] (spLen C) := by
  refine F.ok scLn (fun vs H Q E h => ?_) (fun cdv A outer s H vs Q E hr h => ?_)
  · obtain ⟨a, t, rfl, _⟩ := h
    rfl
  · obtain ⟨a, t, rfl, ha, hz, k⟩ := h
    refine ⟨_, pss_one (ps_ret (pe_lenRg rfl T.len (prg_1 rfl T.range (pe_fld (pv 0) rfl)))), ?_⟩
    obtain ⟨dx, f1, s1, h⟩ := ha.obj
    refine ⟨_, rfl, _, _, _, _, _, rfl, h, T.cl, T.nZ, tf_size _ _ _, _, rfl, ?_, ?_⟩
    · omega
    · have e : (((((t.size : Nat) : Int) - 0).toNat : Nat) : Int) = (t.size : Nat) := by omega
      show Q (.int (((((t.size : Nat) : Int) - 0).toNat : Nat) : Int)) H
      rw [e]
      exact k
end
end Js

set_option Elab.async false
set_option linter.all false
set_option maxRecDepth 100000
set_option maxHeartbeats 2000000
namespace Js
open PySem L2
def spAlike (C : Addr) : Sp := spEqT C
section
variable {P : Program} {w : World} {K : PySem.W.Frag} {mg : Str → Option Value} {base : Heap} {C : Addr}
theorem scA : FnScope ["one", "other", "waiting", "left", "right"] ["one", "other"] (defScope sAlike) := ⟨rfl, rfl, rfl, by decide +kernel, rfl, by decide +kernel, by decide +kernel⟩
theorem ok_alike {f : Addr} {fd : FuncData} (F : Fun K "alike" "alike" sAlike f fd) (T : Txt K mg C) : FnOk P w K mg base CX0 1 f fd ["one", "other"] (spAlike C) := by
  refine F.ok scA (fun vs H Q E h => ?_) (fun cdv A outer s H vs Q E hr h => ?_)
  · obtain ⟨a, b, t, u, rfl, _⟩ := h
    rfl
  · obtain ⟨a, b, t, u, rfl, ha, hb, hz, k⟩ := h
    refine ⟨_, pss_cons (ps_set (i := 2) scA.nd rfl (Or.inl rfl) (pe_lst (pa_cons (pe_tup (pa_cons (pv 0) (pa_cons (pv 1) pa_nil))) pa_nil)))
      (pss_cons (ps_while PassesOwn.never (pt_truth (pv 2) (by intro _; rfl))
        (pss_cons (ps_asg (pe_bm0 PySem.F.plainAttrs_list PySem.F.slot_list_pop PySem.F.type_list_pop mt_pop (pv 2)) (pg_tup rfl (pgs_cons (pg_name (i := 3) scA.nd rfl (Or.inl rfl)) (pgs_cons (pg_name (i := 4) scA.nd rfl (Or.inl rfl)) pgs_nil))))
        (pss_cons (ps_if (pt_cmpR op_ne (pe_fld (pv 3) rfl) (pe_fld (pv 4) rfl) (nomark _)) (pss_one (ps_ret pe_bl)) pss_nil)
        (pss_one (ps_if (pt_cmpR op_gt (pe_fld (pv 3) rfl) pe_int (nomark _))
          (pss_cons (ps_expr (pe_bm PySem.F.plainAttrs_list PySem.F.slot_list_append PySem.F.type_list_append mt_append (pv 2) (pa_cons (pe_tup (pa_cons (pe_fld (pv 3) rfl) (pa_cons (pe_fld (pv 4) rfl) pa_nil))) pa_nil)))
          (pss_one (ps_expr (pe_bm PySem.F.plainAttrs_list PySem.F.slot_list_append PySem.F.type_list_append mt_append (pv 2) (pa_cons (pe_tup (pa_cons (pe_fld (pv 3) rfl) (pa_cons (pe_fld (pv 4) rfl) pa_nil))) pa_nil))))) pss_nil)))))
      (pss_one (ps_ret pe_bl))), ?_⟩
    refine ⟨_, rfl, _, rfl, (by show 2 ≤ sizeLine; decide), fun q0 nq0 => ?_⟩
    refine ⟨(by show 1 ≤ sizeLine; decide), fun wl nwl => ?_⟩
    have hwl : H wl = none := by
      have := nwl
      unfold upd at this
      split at this
      · cases this
      · exact this
    have nqw : q0 ≠ wl := ne_of_none (o := .tup [.ref a, .ref b]) upd_same nwl
    -- the loop
    refine ⟨fun m σ H' => ∃ (rs : List V) (ps : List (Tr × Tr)) (x3 x4 : Option V), σ = [some (.ref a), some (.ref b), some (.ref wl), x3, x4] ∧ Same H H' ∧ H' wl = some (.lst rs.reverse) ∧ Paired (PrAt C H') rs ps ∧
      ((∀ p ∈ ps, p.1 = p.2) ↔ t = u) ∧ m = pm ps ∧ m ≤ 2 * t.size + 1, ?_, ?_⟩
    · have s1 : Same H (upd (upd H q0 (.tup [.ref a, .ref b])) wl (.lst [.ref q0])) := (Same.new nq0).set hwl
      refine ⟨_, [.ref q0], [(t, u)], none, none, rfl, s1, upd_same, .cons ⟨q0, a, b, rfl, ?_, ha.same s1, hb.same s1⟩ .nil, ?_, rfl, ?_⟩
      · exact (upd_ne nqw).trans upd_same
      · simp
      · simp [pm]
    · rintro m σ H' ⟨rs, ps, x3, x4, rfl, s1, hw, hps, hiff, rfl, hm⟩
      refine ⟨_, rfl, !rs.reverse.isEmpty, .inl ⟨_, SqL.of hw, rfl⟩, ?_⟩
      cases hps with
      | nil =>
        refine iteF ?_
        have : t = u := hiff.mp (fun p hp => by cases hp)
        have z := k H' s1
        rw [decide_eq_true this] at z
        exact z
      | @cons v p rs ps hv hps =>
        have e1 : (!(v :: rs).reverse.isEmpty) = true := by simp
        rw [e1]
        refine iteT ⟨fun σ' H2 => ∃ m', m' < pm (p :: ps) ∧ _, fun σ' H2 z => z, ?_⟩
        obtain ⟨q, x, y, rfl, hq, hx, hy⟩ := hv
        have hlen : rs.length ≤ pm ps := by rw [Paired.length hps]; exact pm_len ps
        rw [pm_cons] at hm
        refine ⟨_, rfl, .inl ⟨rfl, _, SqL.of hw⟩, wl, _, _, rfl, rfl, hw, last_rev _ _, ?_⟩
        rw [drop_rev]
        have nqwl : q ≠ wl := ne_of hq hw (by intro z; cases z)
        have k1 : KT H' (upd H' wl (.lst rs.reverse)) := KT.lst hw
        have s2 : Same H (upd H' wl (.lst rs.reverse)) := s1.set hwl
        have hx2 := hx.kt k1
        have hy2 := hy.kt k1
        have hps2 := prs_kt k1 hps
        obtain ⟨dx, f1, g1, h1⟩ := hx2.obj
        obtain ⟨dy, f2, g2, h2⟩ := hy2.obj
        refine ⟨q, _, rfl, SqT.of ((upd_ne nqwl).trans hq), rfl, _, _, rfl, _, _, rfl, rfl, ?_⟩
        refine ⟨_, rfl, _, _, _, _, _, rfl, h1, T.cl, T.nZ, tf_size _ _ _, _, rfl, _, _, _, _, _, rfl, h2, T.cl, T.nZ, tf_size _ _ _, rfl, _, rfl, ?_⟩
        by_cases hsz : p.1.size = p.2.size
        · have ed : (!decide (V.int (p.1.size : Nat) = V.int (p.2.size : Nat))) = false := by rw [hsz]; simp
          rw [ed]
          refine iteF ?_
          refine ⟨_, rfl, _, _, _, _, _, rfl, h1, T.cl, T.nZ, tf_size _ _ _, _, _, rfl, rfl, _, rfl, ?_⟩
          by_cases h1z : 1 < p.1.size
          · have ed2 : decide ((1 : Int) < (p.1.size : Nat)) = true := decide_eq_true (by omega)
            rw [ed2]
            refine iteT ?_
            obtain ⟨t1, u1⟩ := p
            cases t1 with
            | nil => simp [Tr.size] at h1z
            | pr l1 r1 =>
            cases u1 with
            | nil => simp [Tr.size] at hsz
            | pr l2 r2 =>
            obtain ⟨dx', b1, c1, hX, hb1, hc1⟩ := hx2.pair
            obtain ⟨dy', b2, c2, hY, hb2, hc2⟩ := hy2.pair
            -- waiting.append((left.second, right.second))
            refine ⟨_, rfl, .inl ⟨rfl, _, SqL.of upd_same⟩, _, rfl, _, _, _, _, _, rfl, hX, T.cl, T.nS, tf_second _ _ _, _, rfl, _, _, _, _, _, rfl, hY, T.cl, T.nS, tf_second _ _ _, (by show 2 ≤ sizeLine; decide), fun q1 nq1 => ?_⟩
            have nq1w : wl ≠ q1 := ne_of_none (o := .lst rs.reverse) upd_same nq1
            have hsl := line4
            simp only [Tr.size] at hm
            refine ⟨wl, _, _, rfl, rfl, (upd_ne nq1w).trans upd_same, (by rw [List.length_reverse]; omega), ?_⟩
            have k2 : KT (upd H' wl (.lst rs.reverse)) (upd (upd (upd H' wl (.lst rs.reverse)) q1 (.tup [.ref c1, .ref c2])) wl (.lst (rs.reverse ++ [.ref q1]))) := (KT.new nq1).trans (KT.lst ((upd_ne nq1w).trans upd_same))
            have s3 : Same H (upd (upd (upd H' wl (.lst rs.reverse)) q1 (.tup [.ref c1, .ref c2])) wl (.lst (rs.reverse ++ [.ref q1]))) := (s2.trans (Same.new nq1)).set hwl
            have hq1 : (upd (upd (upd H' wl (.lst rs.reverse)) q1 (.tup [.ref c1, .ref c2])) wl (.lst (rs.reverse ++ [.ref q1]))) q1 = some (.tup [.ref c1, .ref c2]) := (upd_ne (Ne.symm nq1w)).trans upd_same
            have hw3 : (upd (upd (upd H' wl (.lst rs.reverse)) q1 (.tup [.ref c1, .ref c2])) wl (.lst (rs.reverse ++ [.ref q1]))) wl = some (.lst (rs.reverse ++ [.ref q1])) := upd_same
            have hX3 := k2 _ _ hX (fun _ e => nomatch e)
            have hY3 := k2 _ _ hY (fun _ e => nomatch e)
            have hps3 := prs_kt k2 hps2
            have hb1' := hb1.kt k2
            have hc1' := hc1.kt k2
            have hb2' := hb2.kt k2
            have hc2' := hc2.kt k2
            revert s3 hq1 hw3 hX3 hY3 hps3 hb1' hc1' hb2' hc2'
            generalize (upd (upd (upd H' wl (.lst rs.reverse)) q1 (.tup [.ref c1, .ref c2])) wl (.lst (rs.reverse ++ [.ref q1]))) = H3
            intro s3 hq1 hw3 hX3 hY3 hps3 hb1' hc1' hb2' hc2'
            -- waiting.append((left.first, right.first))
            refine ⟨_, rfl, .inl ⟨rfl, _, SqL.of hw3⟩, _, rfl, _, _, _, _, _, rfl, hX3, T.cl, T.nF, tf_first _ _ _, _, rfl, _, _, _, _, _, rfl, hY3, T.cl, T.nF, tf_first _ _ _, (by show 2 ≤ sizeLine; decide), fun q2 nq2 => ?_⟩
            have nq2w : wl ≠ q2 := ne_of_none hw3 nq2
            refine ⟨wl, _, _, rfl, rfl, (upd_ne nq2w).trans hw3, (by rw [List.length_append, List.length_reverse, List.length_singleton]; omega), ?_⟩
            have k4 : KT H3 (upd (upd H3 q2 (.tup [.ref b1, .ref b2])) wl (.lst (rs.reverse ++ [.ref q1] ++ [.ref q2]))) := (KT.new nq2).trans (KT.lst ((upd_ne nq2w).trans hw3))
            refine ⟨pm ((l1, l2) :: (r1, r2) :: ps), ?_, .ref q2 :: .ref q1 :: rs, (l1, l2) :: (r1, r2) :: ps, _, _, rfl, (s3.trans (Same.new nq2)).set hwl, ?_, .cons ⟨q2, b1, b2, rfl, (upd_ne (Ne.symm nq2w)).trans upd_same, hb1'.kt k4, hb2'.kt k4⟩ (.cons ⟨q1, c1, c2, rfl, k4 _ _ hq1 (fun _ e => nomatch e), hc1'.kt k4, hc2'.kt k4⟩ (prs_kt k4 hps3)), ?_, rfl, ?_⟩
            · rw [pm_cons, pm_cons, pm_cons]
              simp only [Tr.size]
              omega
            · rw [upd_same, push_rev, push_rev]
            · rw [← hiff]
              simp only [List.mem_cons, forall_eq_or_imp, Tr.pr.injEq]
              constructor
              · rintro ⟨h1, h2, h3⟩
                exact ⟨⟨h1, h2⟩, h3⟩
              · rintro ⟨⟨h1, h2⟩, h3⟩
                exact ⟨h1, h2, h3⟩
            · rw [pm_cons, pm_cons]
              show 2 * l1.size + 1 + (2 * r1.size + 1 + pm ps) ≤ _
              omega
          · have ed2 : decide ((1 : Int) < (p.1.size : Nat)) = false := decide_eq_false (by omega)
            rw [ed2]
            refine iteF ?_
            have ep : p.1 = p.2 := Tr.small_eq hsz (by omega)
            refine ⟨pm ps, by rw [pm_cons]; omega, rs, ps, _, _, rfl, s2, upd_same, hps2, ?_, rfl, by omega⟩
            rw [← hiff]
            simp [ep]
        · have ed : (!decide (V.int (p.1.size : Nat) = V.int (p.2.size : Nat))) = true := by
            simp
            omega
          rw [ed]
          refine iteT ?_
          have : ¬ t = u := fun z => hsz (by rw [hiff.mpr z p (by simp)])
          have z := k _ s2
          rw [decide_eq_false this] at z
          exact z
theorem scE : FnScope ["self", "other"] ["self", "other"] (defScope sEq) := ⟨rfl, rfl, rfl, by decide +kernel, rfl, by decide +kernel, by decide +kernel⟩
theorem kit_self (K : PySem.W.Frag) (C : Addr) : PySem.W.kitOne K (.ref C) (.ref C) = some true := by
  unfold PySem.W.kitOne
  rw [if_pos (by simp)]
theorem ok_eq {f fA : Addr} {fd fdA : FuncData} (F : Fun K "__eq__" "Thing.__eq__" sEq f fd) (T : Txt K mg C) (AA : At K mg "alike" sAlike ["one", "other"] fA fdA) : FnOk P w K mg base CX0 2 f fd ["self", "other"] (spEqT C) := by
  have GA : FnOk P w K mg base CX0 1 fA fdA ["one", "other"] (spAlike C) := ok_alike AA.F T
  refine F.ok scE (fun vs H Q E h => ?_) (fun cdv A outer s H vs Q E hr h => ?_)
  · obtain ⟨a, b, t, u, rfl, _⟩ := h
    rfl
  · obtain ⟨a, b, t, u, rfl, ha, hb, hz, k⟩ := h
    refine ⟨_, pss_one (ps_ret (pe_and (pe_callB call_isi (by rfl) T.isi PyProof.Rows.boot_isinstance (pa_cons (pv 1) (pa_cons (pe_glob (v := .ref C) rfl T.mgC rfl) pa_nil)))
      (pe_one (pe_call GA hr rfl AA.mgf AA.F.kp AA.b .nil pass0 (pa_cons (pv 0) (pa_cons (pv 1) pa_nil)))))), ?_⟩
    obtain ⟨dy, f2, g2, h2⟩ := hb.obj
    refine ⟨_, rfl, _, _, _, _, true, rfl, ClsV.own C, .base (.ins h2 T.cl T.ca T.cn T.ct T.cm), kit_self _ _, true, rfl, ?_⟩
    refine iteT ?_
    exact ⟨_, rfl, _, rfl, a, b, t, u, rfl, ha, hb, hz, k⟩
theorem e41 : ((")" : Str)) = ⟨#[41]⟩ := by decide +kernel
theorem e40 : (("(" : Str)) = ⟨#[40]⟩ := by decide +kernel
theorem e46 : (("." : Str)) = ⟨#[46]⟩ := by decide +kernel
theorem scS : FnScope ["thing", "found", "waiting", "part"] ["thing"] (defScope sSigns) := ⟨rfl, rfl, rfl, by decide +kernel, rfl, by decide +kernel, by decide +kernel⟩
theorem ok_signs {f : Addr} {fd : FuncData} (F : Fun K "signs" "signs" sSigns f fd) (T : Txt K mg C) : FnOk P w K mg base CX0 1 f fd ["thing"] (spSigns C) := by
  refine F.ok scS (fun vs H Q E h => ?_) (fun cdv A outer s H vs Q E hr h => ?_)
  · obtain ⟨a, t, rfl, _⟩ := h
    rfl
  · obtain ⟨a, t, rfl, ha, hz, k⟩ := h
    refine ⟨_, pss_cons (ps_set (i := 1) scS.nd rfl (Or.inl rfl) (pe_lst pa_nil)) (pss_cons (ps_set (i := 2) scS.nd rfl (Or.inl rfl) (pe_lst (pa_cons (pv 0) pa_nil)))
      (pss_cons (ps_while PassesOwn.never (pt_truth (pv 2) (by intro _; rfl))
        (pss_cons (ps_set (i := 3) scS.nd rfl (Or.inl rfl) (pe_bm0 PySem.F.plainAttrs_list PySem.F.slot_list_pop PySem.F.type_list_pop mt_pop (pv 2)))
        (pss_one (ps_if (pt_cmp (pc_isN (pv 3)))
          (pss_one (ps_expr (pe_bm PySem.F.plainAttrs_list PySem.F.slot_list_append PySem.F.type_list_append mt_append (pv 1) (pa_cons pe_str pa_nil))))
          (pss_one (ps_if (pt_cmpR op_eq (pe_fld (pv 3) rfl) pe_int (nomark _))
            (pss_one (ps_expr (pe_bm PySem.F.plainAttrs_list PySem.F.slot_list_append PySem.F.type_list_append mt_append (pv 1) (pa_cons pe_str pa_nil))))
            (pss_cons (ps_expr (pe_bm PySem.F.plainAttrs_list PySem.F.slot_list_append PySem.F.type_list_append mt_append (pv 1) (pa_cons pe_str pa_nil)))
              (pss_one (ps_expr (pe_bm PySem.F.plainAttrs_list PySem.F.slot_list_extend PySem.F.type_list_extend mt_extend (pv 2) (pa_cons (pe_lst (pa_cons pe_non (pa_cons (pe_fld (pv 3) rfl) (pa_cons (pe_fld (pv 3) rfl) pa_nil)))) pa_nil)))))))))))
      (pss_one (ps_ret (pv 1))))), ?_⟩
    refine ⟨Nat.zero_le _, fun fl nfl => ?_⟩
    refine ⟨_, rfl, (by show 1 ≤ sizeLine; decide), fun wl nwl => ?_⟩
    have nfw : fl ≠ wl := ne_of_none (o := .lst []) upd_same nwl
    have hwl : H wl = none := by
      have := nwl
      rw [upd_ne (Ne.symm nfw)] at this
      exact this
    have hsl := line4
    refine ⟨fun m σ H' => ∃ (rs : List V) (ps : List (Option Tr)) (dn : List Nat) (x3 : Option V), σ = [some (.ref a), some (.ref fl), some (.ref wl), x3] ∧ Same H H' ∧ H' fl = some (.lst (dn.map sgn)) ∧ H' wl = some (.lst rs.reverse) ∧ Paired (WtAt C H') rs ps ∧
      dn ++ wouts ps = t.codes ∧ m = wm ps ∧ m ≤ 3 * t.size + 1, ?_, ?_⟩
    · have s1 : Same H (upd (upd H fl (.lst [])) wl (.lst [.ref a])) := (Same.new nfl).set hwl
      refine ⟨_, [.ref a], [some t], [], none, rfl, s1, (upd_ne nfw).trans upd_same, upd_same, .cons (.inr ⟨a, t, rfl, rfl, ha.same s1⟩) .nil, ?_, rfl, ?_⟩
      · simp [wouts, wout]
      · simp [wm, wm1]
    · rintro m σ H' ⟨rs, ps, dn, x3, rfl, s1, hf, hw, hps, hc, rfl, hm⟩
      have hcl := congrArg List.length hc
      rw [List.length_append, Tr.codes_len] at hcl
      refine ⟨_, rfl, !rs.reverse.isEmpty, .inl ⟨_, SqL.of hw, rfl⟩, ?_⟩
      cases hps with
      | nil =>
        refine iteF ?_
        have e : dn = t.codes := by simpa [wouts] using hc
        subst e
        exact ⟨_, rfl, k fl H' s1 nfl hf⟩
      | @cons v p rs ps hv hps =>
        have e1 : (!(v :: rs).reverse.isEmpty) = true := by simp
        rw [e1]
        refine iteT ⟨fun σ' H2 => ∃ m', m' < wm (p :: ps) ∧ _, fun σ' H2 z => z, ?_⟩
        have hlen : rs.length ≤ wm ps := by rw [Paired.length hps]; exact wm_len ps
        rw [wm_cons] at hm
        rw [wouts_cons] at hc
        refine ⟨_, rfl, .inl ⟨rfl, _, SqL.of hw⟩, wl, _, _, rfl, rfl, hw, last_rev _ _, ?_⟩
        rw [drop_rev]
        have k1 : KT H' (upd H' wl (.lst rs.reverse)) := KT.lst hw
        have s2 : Same H (upd H' wl (.lst rs.reverse)) := s1.set hwl
        have hf2 : (upd H' wl (.lst rs.reverse)) fl = some (.lst (dn.map sgn)) := (upd_ne nfw).trans hf
        have hw2 : (upd H' wl (.lst rs.reverse)) wl = some (.lst rs.reverse) := upd_same
        have hv2 := hv.kt k1
        have hps2 := wts_kt k1 hps
        revert s2 hf2 hw2 hv2 hps2
        generalize (upd H' wl (.lst rs.reverse)) = H2
        intro s2 hf2 hw2 hv2 hps2
        have hd : (dn.map sgn).length < sizeLine := by rw [List.length_map]; omega
        rcases hv2 with ⟨rfl, rfl⟩ | ⟨x, t1, rfl, rfl, hx⟩
        · refine ⟨_, rfl, _, rfl, ?_⟩
          refine iteT ?_
          refine ⟨_, rfl, .inl ⟨rfl, _, SqL.of hf2⟩, fl, _, _, rfl, rfl, hf2, hd, ?_⟩
          refine ⟨wm ps, by rw [wm_cons]; simp only [wm1]; omega, rs, ps, dn ++ [41], _, rfl, s2.set nfl, ?_, (upd_ne (Ne.symm nfw)).trans hw2, wts_kt (KT.lst hf2) hps2, ?_, rfl, by omega⟩
          · rw [upd_same, List.map_append, e41]
            rfl
          · rw [← hc]
            simp [wout]
        · refine ⟨_, rfl, _, rfl, ?_⟩
          refine iteF ?_
          obtain ⟨dx, f1, g1, h1⟩ := hx.obj
          refine ⟨_, rfl, _, _, _, _, _, rfl, h1, T.cl, T.nZ, tf_size _ _ _, rfl, _, rfl, ?_⟩
          have hx' := hx
          cases hx with
          | nil h =>
            refine iteT ?_
            refine ⟨_, rfl, .inl ⟨rfl, _, SqL.of hf2⟩, fl, _, _, rfl, rfl, hf2, hd, ?_⟩
            refine ⟨wm ps, by rw [wm_cons]; simp only [wm1]; omega, rs, ps, dn ++ [46], _, rfl, s2.set nfl, ?_, (upd_ne (Ne.symm nfw)).trans hw2, wts_kt (KT.lst hf2) hps2, ?_, rfl, by omega⟩
            · rw [upd_same, List.map_append, e46]
              rfl
            · rw [← hc]
              simp [wout, Tr.codes]
          | @pr _ dx' b c l r h hl hr' =>
            have ed : decide (V.int ((Tr.pr l r).size : Nat) = V.int 0) = false := by
              simp only [Tr.size, decide_eq_false_iff_not, V.int.injEq]
              omega
            rw [ed]
            refine iteF ?_
            refine ⟨_, rfl, .inl ⟨rfl, _, SqL.of hf2⟩, fl, _, _, rfl, rfl, hf2, hd, ?_⟩
            have k3 : KT H2 (upd H2 fl (.lst (dn.map sgn ++ [.str "("]))) := KT.lst hf2
            have s3 : Same H (upd H2 fl (.lst (dn.map sgn ++ [.str "("]))) := s2.set nfl
            have hf3 : (upd H2 fl (.lst (dn.map sgn ++ [.str "("]))) fl = some (.lst ((dn ++ [40]).map sgn)) := by
              rw [upd_same, List.map_append, e40]
              rfl
            have hw3 : (upd H2 fl (.lst (dn.map sgn ++ [.str "("]))) wl = some (.lst rs.reverse) := (upd_ne (Ne.symm nfw)).trans hw2
            have h3 := k3 _ _ h (fun _ e => nomatch e)
            have hl3 := hl.kt k3
            have hr3 := hr'.kt k3
            have hps3 := wts_kt k3 hps2
            revert s3 hf3 hw3 h3 hl3 hr3 hps3
            generalize (upd H2 fl (.lst (dn.map sgn ++ [.str "("]))) = H3
            intro s3 hf3 hw3 h3 hl3 hr3 hps3
            refine ⟨_, rfl, .inl ⟨rfl, _, SqL.of hw3⟩, _, rfl, _, _, _, _, _, rfl, h3, T.cl, T.nS, tf_second _ _ _, _, rfl, _, _, _, _, _, rfl, h3, T.cl, T.nF, tf_first _ _ _, (by show 3 ≤ sizeLine; decide), fun q nq => ?_⟩
            have nqw : wl ≠ q := ne_of_none hw3 nq
            have nqf : fl ≠ q := ne_of_none hf3 nq
            simp only [wm1, Tr.size] at hm
            refine ⟨wl, q, _, _, rfl, rfl, (upd_ne nqw).trans hw3, upd_same, (by rw [List.length_reverse]; show rs.length + 3 ≤ sizeLine; omega), ?_⟩
            have k4 : KT H3 (upd (upd H3 q (.lst [.non, .ref c, .ref b])) wl (.lst (rs.reverse ++ [.non, .ref c, .ref b]))) := (KT.new nq).trans (KT.lst ((upd_ne nqw).trans hw3))
            refine ⟨wm (some l :: some r :: none :: ps), ?_, .ref b :: .ref c :: .non :: rs, some l :: some r :: none :: ps, dn ++ [40], _, rfl, (s3.trans (Same.new nq)).set hwl, (upd_ne nfw).trans ((upd_ne nqf).trans hf3), ?_,
              .cons (.inr ⟨b, l, rfl, rfl, hl3.kt k4⟩) (.cons (.inr ⟨c, r, rfl, rfl, hr3.kt k4⟩) (.cons (.inl ⟨rfl, rfl⟩) (wts_kt k4 hps3))), ?_, rfl, ?_⟩
            · rw [wm_cons, wm_cons, wm_cons, wm_cons]
              simp only [wm1, Tr.size]
              omega
            · rw [upd_same]
              simp
            · rw [← hc, wouts_cons, wouts_cons, wouts_cons]
              simp [wout, Tr.codes]
            · rw [wm_cons, wm_cons, wm_cons]
              simp only [wm1]
              omega
theorem joinL_signs : ∀ cs : List Nat, TL.joinL [] ((cs.map fun c => (⟨#[c]⟩ : Str)).map TL.tl) = cs
  | [] => rfl
  | [c] => rfl
  | c :: d :: r => by
    have ih := joinL_signs (d :: r)
    show [c] ++ ([] ++ TL.joinL [] (((d :: r).map fun c => (⟨#[c]⟩ : Str)).map TL.tl)) = c :: d :: r
    rw [ih]
    rfl
theorem join_signs (cs : List Nat) : (PySem.Txt.join ("" : Str) (cs.map fun c => (⟨#[c]⟩ : Str))) = ⟨cs.toArray⟩ := by
  rw [TL.join_eq]
  apply PyProof.Rows.ext_toList
  exact (TL.tl_join _ _).trans (joinL_signs cs)
theorem sum_signs : ∀ cs : List Nat, ((cs.map fun c => (⟨#[c]⟩ : Str)).map (·.length)).sum = cs.length
  | [] => rfl
  | c :: r => by
    have ih := sum_signs r
    rw [List.map_cons, List.map_cons, List.sum_cons, ih, List.length_cons]
    show 1 + _ = _
    omega
theorem scSt : FnScope ["self"] ["self"] (defScope sStr) := ⟨rfl, rfl, rfl, by decide +kernel, rfl, by decide +kernel, by decide +kernel⟩
theorem ok_str {f fS : Addr} {fd fdS : FuncData} (F : Fun K "__str__" "Thing.__str__" sStr f fd) (T : Txt K mg C) (AS : At K mg "signs" sSigns ["thing"] fS fdS) : FnOk P w K mg base CX0 2 f fd ["self"] (spStr C) := by
  have GS : FnOk P w K mg base CX0 1 fS fdS ["thing"] (spSigns C) := ok_signs AS.F T
  refine F.ok scSt (fun vs H Q E h => ?_) (fun cdv A outer s H vs Q E hr h => ?_)
  · obtain ⟨a, t, rfl, _⟩ := h
    rfl
  · obtain ⟨a, t, rfl, ha, hz, k⟩ := h
    refine ⟨_, pss_one (ps_ret (pe_join pe_str (pe_call GS hr rfl AS.mgf AS.F.kp AS.b .nil pass0 (pa_cons (pv 0) pa_nil)))), ?_⟩
    refine ⟨⟨_, rfl⟩, _, rfl, a, t, rfl, ha, hz, fun p H' s1 np hp => ?_⟩
    refine ⟨_, p, t.codes.map (fun c => (⟨#[c]⟩ : Str)), rfl, rfl, .inl (SqL.of (by rw [hp, List.map_map]; rfl)), ?_, ?_⟩
    · rw [sum_signs, Tr.codes_len, List.length_map, Tr.codes_len]
      show 3 * t.size + 1 + (3 * t.size + 1) * 0 ≤ 16777216
      omega
    · show Q (.str (PySem.Txt.join ("" : Str) (t.codes.map fun c => (⟨#[c]⟩ : Str)))) H'
      rw [join_signs]
      exact k H' s1
end
end Js

set_option Elab.async false
set_option linter.all false
set_option maxRecDepth 100000
set_option maxHeartbeats 2000000
namespace Js
open PySem L2
/-- how a Thing is made -/
structure Maker (P : Program) (w : World) (K : PySem.W.Frag) (mg : Str → Option Value) (base : Heap) (C fI : Addr) (fdI : FuncData) : Prop where
  M : Mk K C fI
  G : FnOk P w K mg base CX0 2 fI fdI ["self", "first", "second"] (spInit C)
  mgC : mg "Thing" = some (.ref C)
  b2 : Binds K fdI ["self", "first", "second"] []
  b0 : ∃ ds, Vals [V.non, V.non] ds ∧ Binds K fdI ["self", "first", "second"] ds
/-- Thing(x, y) -/
def tT (C : Addr) (t : TA) : TE := fun σ H Q => t σ H fun vs H1 => ∃ a b t u, vs = [.ref a, .ref b] ∧ Th C H1 a t ∧ Th C H1 b u ∧ 1 + t.size + u.size ≤ 4000 ∧ ∀ z H', Same H1 H' → H1 z = none → Th C H' z (.pr t u) → Q (.ref z) H'
/-- Thing() -/
def tT0 (C : Addr) : TE := fun _ H Q => ∀ z H', Same H H' → H z = none → Th C H' z .nil → Q (.ref z) H'
section
open PyProof.Rows
variable {X : Cx} {C fI : Addr} {fdI : FuncData} {p pos : Pos} {e : Expr} {es : List Expr} {t : TA}
theorem pe_T2 (mk : Maker X.prog X.w X.K X.mg X.base C fI fdI) (hr : Room 3 X.A) (hg : Gl X "Thing") (ha : PA X (e :: es) t)
    (he : starEach (e :: es) X.env = (false, eval e X.env) :: starEach es X.env := by rfl) (hpl : (backTo pos (starEach es X.env)).any (·.1) = false := by rfl) : PE X (.Call (.Name "Thing" p) (e :: es) [] pos) (tT C t) := by
  refine ⟨fun pins s σ H Q I h => ?_⟩
  refine wpAny_Call_Name_kw (ld_glob I hg mk.mgC ?_ (by decide))
  refine PySem.W.callWith_K (h₀ := X.base) I.ok.mod.kin mk.M.kp (thn (ha.run pos pins s σ H _ I h) fun us s1 ⟨vs, H1, I1, r, q⟩ => ⟨I1.kIn, ?_⟩) he hpl
  obtain ⟨a, b, t, u, rfl, h1, h2, hz, k⟩ := q
  exact run_make mk.M mk.G hr mk.b2 .nil pass0 I1 r (mk_pr h1 h2 hz k)
theorem pe_T0 (mk : Maker X.prog X.w X.K X.mg X.base C fI fdI) (hr : Room 3 X.A) (hg : Gl X "Thing") : PE X (.Call (.Name "Thing" p) [] [] pos) (tT0 C) := by
  obtain ⟨ds, hv, hb⟩ := mk.b0
  refine ⟨fun pins s σ H Q I h => ?_⟩
  refine wpAny_Call_Name_kw (ld_glob I hg mk.mgC ?_ (by decide))
  exact PySem.W.callWith_K0 I.kIn mk.M.kp (run_make (us := []) mk.M mk.G hr hb hv pass0 I .nil (mk_nil h))
end
def ThV (C : Addr) (H : Hp) (v : V) (t : Tr) : Prop := ∃ a, v = .ref a ∧ Th C H a t
theorem ThV.kt {C : Addr} {H H' : Hp} (k : KT H H') {v : V} {t : Tr} (h : ThV C H v t) : ThV C H' v t := by
  obtain ⟨a, e, h⟩ := h
  exact ⟨a, e, h.kt k⟩
theorem ths_kt {C : Addr} {H H' : Hp} (k : KT H H') : ∀ {vs : List V} {ts : List Tr}, Paired (ThV C H) vs ts → Paired (ThV C H') vs ts
  | _, _, .nil => .nil
  | _, _, .cons h t => .cons (h.kt k) (ths_kt k t)
theorem paired_get {α β : Type} {F : α → β → Prop} : ∀ {xs : List α} {ys : List β}, Paired F xs ys → ∀ {i : Nat} {x : α}, xs[i]? = some x → ∃ y, ys[i]? = some y ∧ F x y
  | _, _, .nil, i, x, h => by simp at h
  | _, _, .cons h t, 0, x, e => by
    simp at e
    subst e
    exact ⟨_, rfl, h⟩
  | _, _, .cons h t, i + 1, x, e => by
    simp at e
    obtain ⟨y, e1, e2⟩ := paired_get t e
    exact ⟨y, by simpa using e1, e2⟩
theorem paired_snoc {α β : Type} {F : α → β → Prop} : ∀ {xs : List α} {ys : List β} {x : α} {y : β}, Paired F xs ys → F x y → Paired F (xs ++ [x]) (ys ++ [y])
  | _, _, _, _, .nil, h => .cons h .nil
  | _, _, _, _, .cons h t, h' => .cons h (paired_snoc t h')
end Js

set_option Elab.async false
set_option linter.all false
set_option maxRecDepth 100000
set_option maxHeartbeats 2000000
namespace Js
open PySem L2
abbrev sBag : Stmt := top 15
abbrev sTake : Stmt := top 16
/-- which built-ins are as they were -/
structure Blt (mg : Str → Option Value) : Prop where
  len : mg "len" = none
  range : mg "range" = none
  abs : mg "abs" = none
  int : mg "int" = none
  str : mg "str" = none
  max : mg "max" = none
  min : mg "min" = none
  all : mg "all" = none
structure BagOk (H : Hp) (p : Addr) : Prop where
  ex : ∃ x0 x1 pr x3 : Int, H p = some (.lst [.int x0, .int x1, .int pr, .int x3]) ∧ 0 ≤ x0 ∧ 0 ≤ x1 ∧ x1 < 2147483648 ∧ 0 < pr ∧ pr < 2147483648
/-- all but what stands at p stays -/
def KB (p : Addr) (H H' : Hp) : Prop := ∀ a o, a ≠ p → H a = some o → H' a = some o
theorem KB.refl (p : Addr) (H : Hp) : KB p H H := fun _ _ _ h => h
theorem KB.of {p : Addr} {H H' : Hp} (s : Same H H') : KB p H H' := fun _ _ _ h => s _ _ h
theorem KB.trans {p : Addr} {H H1 H2 : Hp} (a : KB p H H1) (b : KB p H1 H2) : KB p H H2 := fun x o n h => b x o n (a x o n h)
theorem KB.set {p : Addr} {H : Hp} {o : HO} : KB p H (upd H p o) := fun x u n h => by rw [upd_ne n]; exact h
theorem KB.kt {p : Addr} {H H' : Hp} (k : KB p H H') {xs : List V} (hp : H p = some (.lst xs)) : KT H H' := fun a o h n => k a o (fun z => by subst z; exact n _ (Option.some.inj (h.symm.trans hp))) h
theorem BagOk.kt {p : Addr} {H H' : Hp} (b : BagOk H p) (k : KB p H H') : KT H H' := by
  obtain ⟨x0, x1, pr, x3, h, _⟩ := b.ex
  exact k.kt h
theorem BagOk.same {p : Addr} {H H' : Hp} (b : BagOk H p) (s : Same H H') : BagOk H' p := by
  obtain ⟨x0, x1, pr, x3, h, r⟩ := b.ex
  exact ⟨x0, x1, pr, x3, s _ _ h, r⟩
theorem BagOk.some {p : Addr} {H : Hp} (b : BagOk H p) : ∃ xs, H p = some (.lst xs) := by
  obtain ⟨x0, x1, pr, x3, h, r⟩ := b.ex
  exact ⟨_, h⟩
def spBag (K : PySem.W.Frag) : Sp := fun vs H Q _ => ∃ (a : Addr) (ns : List Int) (k : Nat), vs = [.ref a, .int (k : Nat)] ∧ SqL K H a (ns.map V.int) ∧ k < 8 ∧ ∀ p H', Same H H' → H p = none → BagOk H' p → Q (.ref p) H'
def spTake : Sp := fun vs H Q _ => ∃ (p : Addr) (m : Int), vs = [.ref p, .int m] ∧ BagOk H p ∧ 0 < m ∧ m < 1073741824 ∧ ∀ (d : Int) H', KB p H H' → BagOk H' p → 0 ≤ d → d < m → Q (.int d) H'
def primes : List V := [.int 2147483629, .int 2147483587, .int 2147483579, .int 2147483563, .int 2147483549, .int 2147483543, .int 2147483497, .int 2147483489]
theorem prime_at (k : Nat) (hk : k < 8) : ∃ pr : Int, atI primes ((k : Int) % 8) = some (.int pr) ∧ 0 < pr ∧ pr < 2147483648 := by
  have e : ((k : Int) % 8) = (k : Nat) := by omega
  rw [e]
  match k, hk with
  | 0, _ => exact ⟨_, atI_nat rfl, by decide, by decide⟩
  | 1, _ => exact ⟨_, atI_nat rfl, by decide, by decide⟩
  | 2, _ => exact ⟨_, atI_nat rfl, by decide, by decide⟩
  | 3, _ => exact ⟨_, atI_nat rfl, by decide, by decide⟩
  | 4, _ => exact ⟨_, atI_nat rfl, by decide, by decide⟩
  | 5, _ => exact ⟨_, atI_nat rfl, by decide, by decide⟩
  | 6, _ => exact ⟨_, atI_nat rfl, by decide, by decide⟩
  | 7, _ => exact ⟨_, atI_nat rfl, by decide, by decide⟩
section
variable {P : Program} {w : World} {K : PySem.W.Frag} {mg : Str → Option Value} {base : Heap} {C fI : Addr} {fdI : FuncData}
theorem scB : FnScope ["_law_script", "_law_at", "_law_cell", "_law_prime"] ["_law_script", "_law_at"] (defScope sBag) := ⟨rfl, rfl, rfl, by decide +kernel, rfl, by decide +kernel, by decide +kernel⟩
theorem ok_bag {f : Addr} {fd : FuncData} (F : Fun K "_law_bag" "_law_bag" sBag f fd) (B : Blt mg) : FnOk P w K mg base CX0 1 f fd ["_law_script", "_law_at"] (spBag K) := by
  refine F.ok scB (fun vs H Q E h => ?_) (fun cdv A outer s H vs Q E hr h => ?_)
  · obtain ⟨a, ns, k, rfl, _⟩ := h
    rfl
  · obtain ⟨a, ns, kk, rfl, hS, hk, k⟩ := h
    refine ⟨_, pss_cons (ps_set (i := 2) scB.nd rfl (Or.inl rfl) pe_int)
      (pss_cons (ps_if (pt_cmpR op_lt (pv 1) (pe_callB call_len_seq (by rfl) B.len PySem.boot_len (pa_cons (pv 0) pa_nil)) (nomark _))
        (pss_one (ps_set (i := 2) scB.nd rfl (Or.inl rfl) (pe_callB call_abs (by rfl) B.abs PyProof.Rows.boot_abs (pa_cons (pe_ix ix_list (pv 0) (pv 1) (fun _ _ => rfl)) pa_nil)))) pss_nil)
      (pss_cons (ps_set (i := 3) scB.nd rfl (Or.inl rfl) (pe_ix ix_list (pe_lst (pa_cons pe_int (pa_cons pe_int (pa_cons pe_int (pa_cons pe_int (pa_cons pe_int (pa_cons pe_int (pa_cons pe_int (pa_cons pe_int pa_nil))))))))) (pe_op op_mod (pv 1) pe_int) (fun _ _ => rfl)))
      (pss_one (ps_ret (pe_lst (pa_cons (pe_op op_mul (pv 2) (pe_callTy call_int1 (by rfl) B.int PyProof.Rows.boot_int (pa_cons (pe_cmpR op_ge (pv 2) (pe_op op_pow pe_int pe_int) (nomark _)) pa_nil)))
        (pa_cons (pe_op op_mod (pe_op op_pow (pe_op op_add (pe_op op_add (pe_op op_mod (pv 2) pe_int) (pe_op op_mul pe_int (pv 1))) pe_int) pe_int) (pv 3)) (pa_cons (pv 3) (pa_cons pe_int pa_nil))))))))), ?_⟩
    -- behind the first if
    have rest : ∀ (cell : Int), 0 ≤ cell → tSeq (tAsg (tOp (rIxL K) (tLst (tCons (tC (V.int 2147483629)) (tCons (tC (V.int 2147483587)) (tCons (tC (V.int 2147483579)) (tCons (tC (V.int 2147483563)) (tCons (tC (V.int 2147483549)) (tCons (tC (V.int 2147483543)) (tCons (tC (V.int 2147483497)) (tCons (tC (V.int 2147483489)) tNil))))))))) (tOp (rI (fun _ j => 0 < j) fun i j => .int (i % j)) (tVar 1) (tC (V.int 8)))) (gName 3))
        (tRet (tLst (tCons (tOp (rI CMul fun i j => .int (i * j)) (tVar 2) (tCB (fun xs H Q => (∃ i, xs = [.int i] ∧ Q (.int i) H) ∨ ∃ k, xs = [.bl k] ∧ Q (.int (if k then 1 else 0)) H) (tCons (tOp (rI0 fun i j => .bl (decide (j ≤ i))) (tVar 2) (tOp (rI CPow fun i j => .int (i ^ j.toNat)) (tC (.int 10)) (tC (.int 18)))) tNil)))
          (tCons (tOp (rI (fun _ j => 0 < j) fun i j => .int (i % j)) (tOp (rI CPow fun i j => .int (i ^ j.toNat)) (tOp (rI0 fun i j => .int (i + j)) (tOp (rI0 fun i j => .int (i + j)) (tOp (rI (fun _ j => 0 < j) fun i j => .int (i % j)) (tVar 2) (tC (.int 2147483647))) (tOp (rI CMul fun i j => .int (i * j)) (tC (.int 104729)) (tVar 1))) (tC (.int 7))) (tC (.int 5))) (tVar 3)) (tCons (tVar 3) (tCons (tC (.int 0)) tNil))))))
        { nx := fun _ H' => Q .non H', rt := Q } [some (.ref a), some (.int (kk : Nat)), some (.int cell), none] H := by
      intro cell hc
      refine ⟨(by show 8 ≤ sizeLine; decide), fun pl npl => ?_⟩
      obtain ⟨pr, e1, e2, e3⟩ := prime_at kk hk
      refine ⟨_, rfl, _, _, rfl, rfl, (by show (0 : Int) < 8; decide), pl, _, _, _, rfl, rfl, SqL.of upd_same, e1, ?_⟩
      refine ⟨_, rfl, _, rfl, _, _, rfl, rfl, ⟨by decide, by decide, by decide⟩, _, _, rfl, rfl, .inr ⟨_, rfl, _, _, rfl, rfl, .inr ?_, ?_⟩⟩
      · split
        · exact ⟨by decide, by decide⟩
        · exact ⟨by decide, by decide⟩
      · refine ⟨_, rfl, _, _, rfl, rfl, (by show (0 : Int) < 2147483647; decide), _, rfl, _, _, rfl, rfl, .inl ⟨by decide, by decide⟩, _, _, rfl, rfl, _, _, rfl, rfl, _, _, rfl, rfl, ⟨by decide, by decide, ?_⟩, _, rfl, _, _, rfl, rfl, e2, _, rfl, (by show 4 ≤ sizeLine; decide), fun p np => ?_⟩
        · have h1 : 0 ≤ cell % 2147483647 := Int.emod_nonneg _ (by decide)
          have h2 : cell % 2147483647 < 2147483647 := Int.emod_lt_of_pos _ (by decide)
          show (cell % 2147483647 + 104729 * (kk : Int) + 7).natAbs < 2 ^ 64
          omega
        · have hne : H p = none := (Same.new npl).free np
          refine k p _ ((Same.new npl).trans (Same.new np)) hne ⟨_, _, pr, 0, upd_same, ?_, ?_, ?_, e2, e3⟩
          · split
            · simpa using hc
            · simp
          · exact Int.emod_nonneg _ (by omega)
          · exact Int.lt_trans (Int.emod_lt_of_pos _ e2) e3
    refine ⟨_, rfl, _, rfl, a, _, rfl, .inl hS, _, _, rfl, rfl, _, rfl, ?_⟩
    refine ite2 (fun hlt => ?_) (fun _ => rest 0 (by decide))
    have hlt' : kk < ns.length := by
      have := of_decide_eq_true hlt
      rw [List.length_map] at this
      omega
    refine ⟨_, rfl, _, rfl, a, _, _, _, rfl, rfl, hS, atI_nat (v := .int ns[kk]) (by rw [List.getElem?_map, List.getElem?_eq_getElem hlt']; rfl), _, rfl, ?_⟩
    exact rest _ (by split <;> omega)
theorem scTk : FnScope ["_law_bag_here", "_law_many", "_law_digit"] ["_law_bag_here", "_law_many"] (defScope sTake) := ⟨rfl, rfl, rfl, by decide +kernel, rfl, by decide +kernel, by decide +kernel⟩
theorem ok_take {f : Addr} {fd : FuncData} (F : Fun K "_law_take" "_law_take" sTake f fd) : FnOk P w K mg base CX0 1 f fd ["_law_bag_here", "_law_many"] spTake := by
  refine F.ok scTk (fun vs H Q E h => ?_) (fun cdv A outer s H vs Q E hr h => ?_)
  · obtain ⟨p, m, rfl, _⟩ := h
    rfl
  · obtain ⟨p, m, rfl, ⟨x0, x1, pr, x3, hp, h0, h1, h1', hp0, hp1⟩, hm0, hm1, k⟩ := h
    refine ⟨_, pss_cons (ps_if (pt_cmpR op_gt (pe_ix ix_list (pv 0) pe_int (fun _ _ => rfl)) pe_int (nomark _))
        (pss_cons (ps_set (i := 2) scTk.nd rfl (Or.inl rfl) (pe_op op_mod (pe_ix ix_list (pv 0) pe_int (fun _ _ => rfl)) (pv 1)))
        (pss_cons (ps_asg (pe_op op_fdiv (pe_ix ix_list (pv 0) pe_int (fun _ _ => rfl)) (pv 1)) (pg_sub (pv 0) pe_int set_list)) (pss_one (ps_ret (pv 2))))) pss_nil)
      (pss_cons (ps_asg (pe_op op_add (pe_ix ix_list (pv 0) pe_int (fun _ _ => rfl)) pe_int) (pg_sub (pv 0) pe_int set_list))
      (pss_cons (ps_asg (pe_op op_mod (pe_op op_add (pe_op op_add (pe_op op_mul (pe_ix ix_list (pv 0) pe_int (fun _ _ => rfl)) pe_int) (pe_op op_mul pe_int (pe_ix ix_list (pv 0) pe_int (fun _ _ => rfl)))) pe_int) (pe_ix ix_list (pv 0) pe_int (fun _ _ => rfl))) (pg_sub (pv 0) pe_int set_list))
      (pss_one (ps_ret (pe_op op_mod (pe_op op_mod (pe_op op_pow (pe_op op_fdiv (pe_ix ix_list (pv 0) pe_int (fun _ _ => rfl)) pe_int) pe_int) pe_int) (pv 1)))))), ?_⟩
    refine ⟨_, rfl, p, _, _, .int x0, rfl, rfl, SqL.of hp, rfl, _, _, rfl, rfl, _, rfl, ?_⟩
    refine ite2 (fun hlt => ?_) (fun _ => ?_)
    · refine ⟨_, rfl, p, _, _, .int x0, rfl, rfl, SqL.of hp, rfl, _, rfl, _, _, rfl, rfl, hm0, ?_⟩
      refine ⟨_, rfl, p, _, _, .int x0, rfl, rfl, SqL.of hp, rfl, _, rfl, _, _, rfl, rfl, ⟨hm0, hm1⟩, _, rfl, p, _, _, 0, rfl, rfl, hp, rfl, ?_⟩
      refine ⟨_, rfl, k _ _ KB.set ⟨x0 / m, x1, pr, x3, upd_same, ?_, h1, h1', hp0, hp1⟩ ?_ ?_⟩
      · exact Int.ediv_nonneg h0 (by omega)
      · exact Int.emod_nonneg _ (by omega)
      · exact Int.emod_lt_of_pos _ hm0
    · refine ⟨_, rfl, p, _, _, .int x3, rfl, rfl, SqL.of hp, rfl, _, _, rfl, rfl, _, rfl, p, _, _, 3, rfl, rfl, hp, rfl, ?_⟩
      have hp2 : (upd H p (.lst [.int x0, .int x1, .int pr, .int (x3 + 1)])) p = some (.lst [.int x0, .int x1, .int pr, .int (x3 + 1)]) := upd_same
      refine ⟨_, rfl, p, _, _, .int x1, rfl, rfl, SqL.of hp2, rfl, _, _, rfl, rfl, .inr ⟨by decide, by decide⟩, _, rfl, p, _, _, .int (x3 + 1), rfl, rfl, SqL.of hp2, rfl, _, _, rfl, rfl, .inl ⟨by decide, by decide⟩, _, _, rfl, rfl, _, _, rfl, rfl, _, rfl, p, _, _, .int pr, rfl, rfl, SqL.of hp2, rfl, _, _, rfl, rfl, hp0, _, rfl, p, _, _, 1, rfl, rfl, hp2, rfl, ?_⟩
      have g0 : 0 ≤ (x1 * 48271 + 7919 * (x3 + 1) + 11) % pr := Int.emod_nonneg _ (by omega)
      have g1 : (x1 * 48271 + 7919 * (x3 + 1) + 11) % pr < pr := Int.emod_lt_of_pos _ hp0
      have hp3 : (upd (upd H p (.lst [.int x0, .int x1, .int pr, .int (x3 + 1)])) p (.lst [.int x0, .int ((x1 * 48271 + 7919 * (x3 + 1) + 11) % pr), .int pr, .int (x3 + 1)])) p = some (.lst [.int x0, .int ((x1 * 48271 + 7919 * (x3 + 1) + 11) % pr), .int pr, .int (x3 + 1)]) := upd_same
      refine ⟨_, rfl, p, _, _, .int ((x1 * 48271 + 7919 * (x3 + 1) + 11) % pr), rfl, rfl, SqL.of hp3, rfl, _, _, rfl, rfl, ⟨by decide, by decide⟩, _, _, rfl, rfl, ⟨by decide, by decide, ?_⟩, _, _, rfl, rfl, (by show (0 : Int) < 2147483629; decide), _, rfl, _, _, rfl, rfl, hm0, ?_⟩
      · generalize (x1 * 48271 + 7919 * (x3 + 1) + 11) % pr = y at g0 g1
        show (y / 8).natAbs < 2 ^ 64
        omega
      · refine k _ _ (KB.set.trans KB.set) ⟨x0, _, pr, x3 + 1, hp3, h0, g0, by omega, hp0, hp1⟩ ?_ ?_
        · exact Int.emod_nonneg _ (by omega)
        · exact Int.emod_lt_of_pos _ hm0
end
end Js

set_option Elab.async false
set_option linter.all false
set_option maxRecDepth 100000
set_option maxHeartbeats 2000000
namespace Js
open PySem L2
abbrev sThing : Stmt := top 17
theorem lc_yes {te : TE} {σ : St} {H : Hp} {R : VK} {B : Hp → Prop} (h : te σ H R) : tYes σ H (fun b H3 => if b = true then te σ H3 R else B H3) := by
  show if true = true then te σ H R else B H
  rw [if_pos rfl]
  exact h
theorem paired_split {α β : Type} {F : α → β → Prop} : ∀ (n : Nat) {xs : List α} {ts : List β}, Paired F xs ts → n + 1 < xs.length →
    ∃ xp x y xq tp t u tq, xs = xp ++ x :: y :: xq ∧ ts = tp ++ t :: u :: tq ∧ xp.length = n ∧ tp.length = n ∧ Paired F xp tp ∧ F x t ∧ F y u ∧ Paired F xq tq
  | 0, _, _, .nil, h => absurd h (by simp)
  | 0, _, _, .cons _ .nil, h => absurd h (by simp)
  | 0, _, _, .cons h1 (.cons h2 r), _ => ⟨[], _, _, _, [], _, _, _, rfl, rfl, rfl, rfl, .nil, h1, h2, r⟩
  | n + 1, _, _, .nil, h => absurd h (by simp)
  | n + 1, _, _, .cons (a := a0) (b := b0) h1 r, h => by
    obtain ⟨xp, x, y, xq, tp, t, u, tq, e1, e2, l1, l2, p1, f1, f2, p2⟩ := paired_split n r (by simpa using h)
    exact ⟨_ :: xp, x, y, xq, _ :: tp, t, u, tq, by rw [e1]; rfl, by rw [e2]; rfl, by simp [l1], by simp [l2], .cons h1 p1, f1, f2, p2⟩
theorem paired_append {α β : Type} {F : α → β → Prop} : ∀ {xs xs' : List α} {ys ys' : List β}, Paired F xs ys → Paired F xs' ys' → Paired F (xs ++ xs') (ys ++ ys')
  | _, _, _, _, .nil, h => h
  | _, _, _, _, .cons h t, h' => .cons h (paired_append t h')
def tsz (ts : List Tr) : Nat := (ts.map Tr.size).sum
theorem tsz_append (a b : List Tr) : tsz (a ++ b) = tsz a + tsz b := by simp [tsz]
theorem tsz_cons (a : Tr) (b : List Tr) : tsz (a :: b) = a.size + tsz b := by simp [tsz]
def spThing (C : Addr) : Sp := fun vs H Q _ => ∃ (p : Addr) (m : Nat), vs = [.ref p, .int (m : Nat)] ∧ BagOk H p ∧ m ≤ 3000 ∧ ∀ a t H', KB p H H' → BagOk H' p → Th C H' a t → t.size = m → Q (.ref a) H'
section
variable {P : Program} {w : World} {K : PySem.W.Frag} {mg : Str → Option Value} {base : Heap} {C fI : Addr} {fdI : FuncData}
theorem scTh : FnScope ["_law_bag_here", "_law_many", "_law_some", "_law_at", "_law_k"] ["_law_bag_here", "_law_many"] (defScope sThing) := ⟨rfl, rfl, rfl, by decide +kernel, rfl, by decide +kernel, by decide +kernel⟩
theorem ok_thing {f fT : Addr} {fd fdT : FuncData} (F : Fun K "_law_thing" "_law_thing" sThing f fd) (B : Blt mg) (mk : Maker P w K mg base C fI fdI) (AT : At K mg "_law_take" sTake ["_law_bag_here", "_law_many"] fT fdT) : FnOk P w K mg base CX0 4 f fd ["_law_bag_here", "_law_many"] (spThing C) := by
  have GT : FnOk P w K mg base CX0 1 fT fdT ["_law_bag_here", "_law_many"] spTake := ok_take AT.F
  refine F.ok scTh (fun vs H Q E h => ?_) (fun cdv A outer s H vs Q E hr h => ?_)
  · obtain ⟨p, m, rfl, _⟩ := h
    rfl
  · obtain ⟨p, m, rfl, hbag, hm, k⟩ := h
    have hr1 : Room 1 _ := hr.mono (by decide)
    refine ⟨_, pss_cons (ps_setLc (i := 2) (own := [("_law_k", 4)]) (g := gName 4) (tt := tYes) rfl scTh.nd rfl rfl (sw_true rfl rfl rfl (by decide +kernel)) (pi_range1 rfl B.range (pa_cons (pe_op op_add (pv 1) pe_int) pa_nil))
        (blkOk_by (N := ["_law_bag_here", "_law_many", "_law_some", "_law_at", "_law_k"]) (sc := defScope sThing) (by decide +kernel)) (fun _ _ _ _ _ => pg_name (i := 4) scTh.nd rfl (Or.inl rfl)) (fun _ _ _ _ _ => pts_nil) (fun _ _ _ _ _ => pe_T0 mk hr rfl))
      (pss_cons (ps_while PassesOwn.never (pt_cmpR op_gt (pe_callB call_len_seq (by rfl) B.len PySem.boot_len (pa_cons (pv 2) pa_nil)) pe_int (nomark _))
        (pss_cons (ps_set (i := 3) scTh.nd rfl (Or.inl rfl) (pe_call GT hr1 rfl AT.mgf AT.F.kp AT.b .nil pass0 (pa_cons (pv 0) (pa_cons (pe_op op_sub (pe_callB call_len_seq (by rfl) B.len PySem.boot_len (pa_cons (pv 2) pa_nil)) pe_int) pa_nil))))
        (pss_one (ps_asg (pe_lst (pa_cons (pe_T2 mk hr rfl (pa_cons (pe_ix ix_list (pv 2) (pv 3) (fun _ _ => rfl)) (pa_cons (pe_ix ix_list (pv 2) (pe_op op_add (pv 3) pe_int) (fun _ _ => rfl)) pa_nil))) pa_nil)) (pg_slice (pv 2) (po_some (pv 3)) (po_some (pe_op op_add (pv 3) pe_int)))))))
      (pss_one (ps_ret (pe_ix ix_list (pv 2) pe_int (fun _ _ => rfl))))), ?_⟩
    have hsl := line4
    obtain ⟨bx, hbx⟩ := hbag.some
    refine ⟨_, rfl, _, _, rfl, rfl, _, rfl, by omega, by omega, fun D nD => lc_range (n := ((m : Int) + 1).toNat) (fun i H' => ∃ xs, Same H H' ∧ H' D = some (.lst xs) ∧ Paired (ThV C H') xs (List.replicate i .nil)) ⟨[], Same.new nD, upd_same, .nil⟩ ?_ ?_⟩
    · rintro i H1 hi ⟨xs, s1, hD, hps⟩
      refine ⟨rfl, lc_yes fun z H2 s2 _ h2 => ?_⟩
      have hlen := Paired.length hps
      rw [List.length_replicate] at hlen
      have hD2 := s2 _ _ hD
      refine ⟨xs, hD2, by omega, xs ++ [.ref z], (s1.trans s2).set nD, upd_same, ?_⟩
      have kk : KT H2 (upd H2 D (.lst (xs ++ [.ref z]))) := KT.lst hD2
      have e : List.replicate (i + 1) Tr.nil = List.replicate i .nil ++ [.nil] := List.replicate_succ'
      rw [e]
      exact paired_snoc (ths_kt kk (ths_kt (KT.of s2) hps)) ⟨z, rfl, h2.kt kk⟩
    · rintro H1 ⟨xs, s1, hD, hps⟩
      have em : ((m : Int) + 1).toNat = m + 1 := by omega
      rw [em] at hps
      have npD : p ≠ D := ne_of_none hbx nD
      refine ⟨fun mm σ H' => ∃ (xs : List V) (ts : List Tr) (x3 x4 : Option V), σ = [some (.ref p), some (.int (m : Nat)), some (.ref D), x3, x4] ∧ KB p H H' ∧ BagOk H' p ∧ H' D = some (.lst xs) ∧ Paired (ThV C H') xs ts ∧ tsz ts + ts.length = m + 1 ∧ ts ≠ [] ∧ mm = ts.length, ⟨_, xs, _, none, none, rfl, KB.of s1, hbag.same s1, hD, hps, ?_, by simp, rfl⟩, ?_⟩
      · have : ∀ n, tsz (List.replicate n .nil) = 0 := by
          intro n
          induction n with
          | zero => rfl
          | succ n ih => rw [List.replicate_succ, tsz_cons, ih]; rfl
        rw [this, List.length_replicate]
        omega
      · rintro mm σ H2 ⟨xs, ts, x3, x4, rfl, k2, hbag2, hD2, hps2, hsz, hne, rfl⟩
        have hlen := Paired.length hps2
        refine ⟨_, rfl, D, _, rfl, .inl (SqL.of hD2), _, _, rfl, rfl, _, rfl, ?_⟩
        by_cases h1 : 1 < xs.length
        · have ed : decide ((1 : Int) < ((xs.length : Nat) : Int)) = true := decide_eq_true (by omega)
          rw [ed]
          refine iteT ⟨fun σ' H3 => ∃ m', m' < ts.length ∧ _, fun σ' H3 z => z, ?_⟩
          refine ⟨_, rfl, _, rfl, D, _, rfl, .inl (SqL.of hD2), _, _, rfl, rfl, p, _, rfl, hbag2, by omega, by omega, fun d H3 k3 hbag3 hd0 hd1 => ?_⟩
          have hD3 := k3 _ _ (Ne.symm npD) hD2
          have hps3 := ths_kt (hbag2.kt k3) hps2
          obtain ⟨dn, rfl⟩ := Int.eq_ofNat_of_zero_le hd0
          obtain ⟨xp, x, y, xq, tp, t, u, tq, rfl, rfl, l1, l2, p1, f1, f2, p2⟩ := paired_split dn hps3 (by omega)
          obtain ⟨a1, rfl, g1⟩ := f1
          obtain ⟨a2, rfl, g2⟩ := f2
          simp only [tsz_append, tsz_cons, List.length_append, List.length_cons] at hsz
          have ix1 : atI (xp ++ V.ref a1 :: V.ref a2 :: xq) ((dn : Nat) : Int) = some (.ref a1) := atI_nat (by rw [List.getElem?_append_right (by omega), l1, Nat.sub_self]; rfl)
          have ix2 : atI (xp ++ V.ref a1 :: V.ref a2 :: xq) (((dn : Nat) : Int) + 1) = some (.ref a2) := by
            have e : (((dn : Nat) : Int) + 1) = ((dn + 1 : Nat) : Int) := by omega
            rw [e]
            exact atI_nat (by rw [List.getElem?_append_right (by omega), l1]; simp)
          refine ⟨_, rfl, _, rfl, D, _, _, _, rfl, rfl, SqL.of hD3, ix1, _, rfl, _, rfl, _, _, rfl, rfl, D, _, _, _, rfl, rfl, SqL.of hD3, ix2, a1, a2, t, u, rfl, g1, g2, by omega, fun z H4 s4 _ h4 => ?_⟩
          refine ⟨(by show 1 ≤ sizeLine; decide), fun q nq => ?_⟩
          have hD4 := s4 _ _ hD3
          have nqD : D ≠ q := ne_of_none hD4 nq
          have hlx : (xp ++ V.ref a1 :: V.ref a2 :: xq).length = dn + 2 + xq.length := by
            rw [List.length_append, List.length_cons, List.length_cons]
            omega
          have hD5 : (upd H4 q (.lst [.ref z])) D = some (.lst (xp ++ V.ref a1 :: V.ref a2 :: xq)) := (upd_ne nqD).trans hD4
          have hle : xq.length = tq.length := Paired.length p2
          refine ⟨_, rfl, _, rfl, _, rfl, _, rfl, _, _, rfl, rfl, _, rfl, D, q, _, _, _, _, rfl, rfl, rfl, rfl, hD5, upd_same, nqD, by omega, by omega, by rw [hlx]; omega, by rw [hlx]; show _ + 1 ≤ _; omega, ?_⟩
          have e1 : (xp ++ V.ref a1 :: V.ref a2 :: xq).take ((dn : Nat) : Int).toNat = xp := by
            rw [Int.toNat_natCast, ← l1, List.take_left]
          have e2 : (xp ++ V.ref a1 :: V.ref a2 :: xq).drop (((dn : Nat) : Int) + 1 + 1).toNat = xq := by
            have e : (((dn : Nat) : Int) + 1 + 1).toNat = xp.length + 2 := by omega
            rw [e, List.drop_append]
            simp
          have e3 : (((dn : Nat) : Int) + 2).toNat = (((dn : Nat) : Int) + 1 + 1).toNat := by omega
          rw [e1]
          try rw [e3]
          rw [e2]
          have k5 : KT H4 (upd (upd H4 q (.lst [.ref z])) D (.lst (xp ++ [.ref z] ++ xq))) := (KT.new nq).trans (KT.lst hD5)
          have k45 := (KT.of s4).trans k5
          refine ⟨(tp ++ [Tr.pr t u] ++ tq).length, ?_, xp ++ [.ref z] ++ xq, tp ++ [.pr t u] ++ tq, _, _, rfl, ?_, ?_, upd_same, paired_append (paired_append (ths_kt k45 p1) (.cons ⟨z, rfl, h4.kt k5⟩ .nil)) (ths_kt k45 p2), ?_, ?_, rfl⟩
          · simp
          · intro a o na h
            have h4' := s4 _ _ (k3 _ _ na (k2 _ _ na h))
            rw [upd_ne (ne_of_none h nD), upd_ne (ne_of_none h4' nq)]
            exact h4'
          · obtain ⟨x0, x1, pr, x3', h, r⟩ := hbag3.ex
            exact ⟨x0, x1, pr, x3', (upd_ne npD).trans ((upd_ne (ne_of_none (s4 _ _ h) nq)).trans (s4 _ _ h)), r⟩
          · simp only [tsz_append, tsz_cons, List.length_append, List.length_cons, Tr.size]
            simp [tsz]
            simp [tsz] at hsz
            omega
          · simp
        · have ed : decide ((1 : Int) < ((xs.length : Nat) : Int)) = false := decide_eq_false (by omega)
          rw [ed]
          refine iteF ?_
          cases hps2 with
          | nil => exact absurd rfl hne
          | @cons v t vs ts hv hps2 =>
            cases hps2 with
            | cons _ _ => simp at h1
            | nil =>
              obtain ⟨a, rfl, ha⟩ := hv
              refine ⟨_, rfl, D, _, _, .ref a, rfl, rfl, SqL.of hD2, rfl, k a t H2 k2 hbag2 ha ?_⟩
              simp [tsz] at hsz
              omega
end
end Js

set_option Elab.async false
set_option linter.all false
set_option maxRecDepth 100000
set_option maxHeartbeats 2000000
namespace Js
open PySem L2
/-- a def of the top keeps its promise -/
def Def (P : Program) (w : World) (K : PySem.W.Frag) (mg : Str → Option Value) (base : Heap) (x : Str) (k : Nat) (ps : List Str) (sp : Sp) : Prop :=
  ∃ f fd, mg x = some (.ref f) ∧ PySem.W.keepIn K (.ref f) = true ∧ FnOk P w K mg base CX0 k f fd ps sp ∧ Binds K fd ps []
/-- a special method of the class -/
def Spc (P : Program) (w : World) (K : PySem.W.Frag) (mg : Str → Option Value) (base : Heap) (C : Addr) (x : Str) (k : Nat) (ps : List Str) (sp : Sp) : Prop :=
  ∃ f fd, Own K C x f ∧ FnOk P w K mg base CX0 k f fd ps sp ∧ Binds K fd ps []
/-- a method of the class -/
def Mth (P : Program) (w : World) (K : PySem.W.Frag) (mg : Str → Option Value) (base : Heap) (C : Addr) (x : Str) (k : Nat) (ps : List Str) (sp : Sp) : Prop :=
  ∃ f fd, Meth K C x f ∧ FnOk P w K mg base CX0 k f fd ps sp ∧ Binds K fd ps []
section
open PyProof.Rows
variable {X : Cx} {C : Addr} {p pos apos : Pos} {e o : Expr} {es : List Expr} {t : TA} {ta : TE} {x : Str} {k : Nat} {ps : List Str} {sp : Sp}
theorem pe_def (D : Def X.prog X.w X.K X.mg X.base x k ps sp) (hr : Room k X.A) (hg : Gl X x) (ha : PA X (e :: es) t) (hdb : (x == ("__debug__" : Str)) = false := by decide)
    (he : starEach (e :: es) X.env = (false, eval e X.env) :: starEach es X.env := by rfl) (hpl : (backTo pos (starEach es X.env)).any (·.1) = false := by rfl) : PE X (.Call (.Name x p) (e :: es) [] pos) (tCall sp [] E0 t) := by
  obtain ⟨f, fd, hm, hk, F, hb⟩ := D
  exact pe_call F hr hg hm hk hb .nil pass0 ha hdb he hpl
/-- == of things -/
def rEqT (C : Addr) : R2 := fun x y H Q => ∃ a b t u, x = .ref a ∧ y = .ref b ∧ Th C H a t ∧ Th C H b u ∧ t.size ≤ 4000 ∧ ∀ H', Same H H' → Q (.bl (decide (t = u))) H'
def rNeT (C : Addr) : R2 := fun x y H Q => ∃ a b t u, x = .ref a ∧ y = .ref b ∧ Th C H a t ∧ Th C H b u ∧ t.size ≤ 4000 ∧ ∀ H', Same H H' → Q (.bl (!decide (t = u))) H'
theorem OpR.imp {f : Value → Value → Sem Value} {r r' : R2} (h : OpR X f r) (hi : ∀ x y H Q, r' x y H Q → r x y H Q) : OpR X f r' := fun pins s σ H x y v u Q I rx ry q => h pins s σ H x y v u Q I rx ry (hi x y H Q q)
theorem CallR.imp {f : Value} {r r' : List V → Hp → VK → Prop} (h : CallR X f r) (hi : ∀ xs H Q, r' xs H Q → r xs H Q) : CallR X f r' := fun pins s σ H xs us Q I rx q => h pins s σ H xs us Q I rx (hi xs H Q q)
theorem op_eqT (S : Spc X.prog X.w X.K X.mg X.base C "__eq__" 2 ["self", "other"] (spEqT C)) (hr : Room 2 X.A) : OpR X (compareOp .Eq) (rEqT C) := by
  obtain ⟨f, fd, ow, F, hb⟩ := S
  refine OpR.imp (op_eqOwn ow F hb hr (pass0)) fun x y H Q h => ?_
  obtain ⟨a, b, t, u, rfl, rfl, ha, hb', hz, q⟩ := h
  obtain ⟨dx, f1, g1, h1⟩ := ha.obj
  obtain ⟨dy, f2, g2, h2⟩ := hb'.obj
  exact ⟨a, dx, _, b, dy, _, rfl, rfl, h1, h2, a, b, t, u, rfl, ha, hb', hz, fun H' s => ⟨_, rfl, q H' s⟩⟩
theorem op_neT (S : Spc X.prog X.w X.K X.mg X.base C "__eq__" 2 ["self", "other"] (spEqT C)) (T : Txt X.K X.mg C) (hr : Room 3 X.A) : OpR X (compareOp .NotEq) (rNeT C) := by
  obtain ⟨f, fd, ow, F, hb⟩ := S
  refine OpR.imp (op_neOwn ow ⟨T.ne, T.cm⟩ F hb hr (pass0)) fun x y H Q h => ?_
  obtain ⟨a, b, t, u, rfl, rfl, ha, hb', hz, q⟩ := h
  obtain ⟨dx, f1, g1, h1⟩ := ha.obj
  obtain ⟨dy, f2, g2, h2⟩ := hb'.obj
  exact ⟨a, dx, _, b, dy, _, rfl, rfl, h1, h2, a, b, t, u, rfl, ha, hb', hz, fun H' s => ⟨_, rfl, q H' s⟩⟩
theorem call_lenT (S : Spc X.prog X.w X.K X.mg X.base C "__len__" 1 ["self"] (spLen C)) (hr : Room 2 X.A) : CallR X (.builtin "len") (fun xs H Q => ∃ a t, xs = [.ref a] ∧ Th C H a t ∧ t.size ≤ 4000 ∧ Q (.int (t.size : Nat)) H) := by
  obtain ⟨f, fd, ow, F, hb⟩ := S
  refine CallR.imp (call_lenOwn ow F hb hr (pass0)) fun xs H Q h => ?_
  obtain ⟨a, t, rfl, ha, hz, q⟩ := h
  obtain ⟨dx, f1, g1, h1⟩ := ha.obj
  exact ⟨a, dx, _, rfl, h1, a, t, rfl, ha, hz, _, rfl, by omega, q⟩
theorem call_strT (S : Spc X.prog X.w X.K X.mg X.base C "__str__" 2 ["self"] (spStr C)) (hr : Room 4 X.A) : CallR X (.type "str") (fun xs H Q => ∃ a t, xs = [.ref a] ∧ Th C H a t ∧ t.size ≤ 4000 ∧ ∀ H', Same H H' → Q (.str t.text) H') := by
  obtain ⟨f, fd, ow, F, hb⟩ := S
  refine CallR.imp (call_strOwn ow F hb hr (pass0)) fun xs H Q h => ?_
  obtain ⟨a, t, rfl, ha, hz, q⟩ := h
  obtain ⟨dx, f1, g1, h1⟩ := ha.obj
  exact ⟨a, dx, _, rfl, h1, a, t, rfl, ha, hz, fun H' s => ⟨_, rfl, q H' s⟩⟩
/-- a thing in a list of things -/
def rInTh (C : Addr) : R2 := fun x y H Q => ∃ b u p xs ts, x = .ref b ∧ Th C H b u ∧ y = .ref p ∧ H p = some (.lst xs) ∧ Paired (ThV C H) xs ts ∧ (∀ t ∈ ts, t.size ≤ 4000) ∧ ∀ H', Same H H' → Q (.bl (ts.any fun t => decide (t = u))) H'
def DTh (C : Addr) : Tells := fun x y r H => ∃ a b t u, x = .ref a ∧ y = .ref b ∧ Th C H a t ∧ Th C H b u ∧ t.size ≤ 4000 ∧ r = decide (t = u)
theorem op_inTh (S : Spc X.prog X.w X.K X.mg X.base C "__eq__" 2 ["self", "other"] (spEqT C)) (hr : Room 3 X.A) : OpR X (compareOp .In) (rInTh C) := by
  obtain ⟨f, fd, ow, F, hb⟩ := S
  have ET : EqT X 2 (DTh C) := eqT_own ow F hb (pass0) fun x y r H d => by
    obtain ⟨a, b, t, u, rfl, rfl, ha, hb', hz, rfl⟩ := d
    obtain ⟨dx, f1, g1, h1⟩ := ha.obj
    obtain ⟨dy, f2, g2, h2⟩ := hb'.obj
    refine ⟨a, b, dx, dy, _, _, rfl, rfl, h1, h2, fun e => ?_, a, b, t, u, rfl, ha, hb', hz, fun H' s => ⟨_, rfl, rfl, s⟩⟩
    subst e
    exact decide_eq_true (ha.inj hb')
  refine OpR.imp (op_inT ET (fun x y r H H' s d => ?_) hr) fun x y H Q h => ?_
  · obtain ⟨a, b, t, u, e1, e2, ha, hb', hz, e3⟩ := d
    exact ⟨a, b, t, u, e1, e2, ha.same s, hb'.same s, hz, e3⟩
  · obtain ⟨b, u, p, xs, ts, rfl, hb', rfl, hp, hps, hz, q⟩ := h
    refine ⟨p, xs, ts.map fun t => decide (t = u), rfl, hp, by rw [List.length_map]; exact (Paired.length hps).symm, fun i z r h1 h2 => ?_, fun H' s => ?_⟩
    · obtain ⟨ty, e1, a, rfl, ha⟩ := paired_get hps h1
      rw [List.getElem?_map, e1] at h2
      exact ⟨a, b, ty, u, rfl, rfl, ha, hb', hz ty (List.mem_of_getElem? e1), (Option.some.inj h2).symm⟩
    · have := q H' s
      rw [List.any_map]
      exact this
theorem pe_mth {pl : Sem Bool} (M : Mth X.prog X.w X.K X.mg X.base C x k ps sp) (T : Txt X.K X.mg C) (hr : Room k X.A) (he : PE X o ta)
    (ht : eval (.Call (.Attribute o x apos) [] [] pos) X.env = (do
      let ov ← eval o X.env
      standAt apos.atName
      let (f, first) ← holding [ov] (getMethod ov x pl)
      callWith pos f first (backTo pos (starEach [] X.env)) (backToKw pos (keywordEach [] X.env))) := by rfl) :
    PE X (.Call (.Attribute o x apos) [] [] pos) (tMeth C x sp [] E0 ta tNil) := by
  obtain ⟨f, fd, hm, F, hb⟩ := M
  exact pe_meth0 he T.cl hm F hr hb .nil pass0 ht
end
/-- what the law's defs lean on -/
structure Lib (P : Program) (w : World) (K : PySem.W.Frag) (mg : Str → Option Value) (base : Heap) (C fI : Addr) (fdI : FuncData) : Prop where
  T : Txt K mg C
  B : Blt mg
  made : Maker P w K mg base C fI fdI
  eq : Spc P w K mg base C "__eq__" 2 ["self", "other"] (spEqT C)
  str : Spc P w K mg base C "__str__" 2 ["self"] (spStr C)
  len : Spc P w K mg base C "__len__" 1 ["self"] (spLen C)
  head : Mth P w K mg base C "head" 1 ["self"] (spHead C)
  tail : Mth P w K mg base C "tail" 1 ["self"] (spTail C)
  bag : Def P w K mg base "_law_bag" 1 ["_law_script", "_law_at"] (spBag K)
  take : Def P w K mg base "_law_take" 1 ["_law_bag_here", "_law_many"] spTake
theorem n_hd1 : ¬ (("head" : Str) = "size") := by decide +kernel
theorem n_hd2 : ¬ (("head" : Str) = "second") := by decide +kernel
theorem n_hd3 : ¬ (("head" : Str) = "first") := by decide +kernel
theorem n_tl1 : ¬ (("tail" : Str) = "size") := by decide +kernel
theorem n_tl2 : ¬ (("tail" : Str) = "second") := by decide +kernel
theorem n_tl3 : ¬ (("tail" : Str) = "first") := by decide +kernel
theorem tf_head (f s : V) (n : Int) : (tf f s n).lookup ("head" : Str) = none := tf_no f s n n_hd1 n_hd2 n_hd3
theorem tf_tail (f s : V) (n : Int) : (tf f s n).lookup ("tail" : Str) = none := tf_no f s n n_tl1 n_tl2 n_tl3
end Js

set_option Elab.async false
set_option linter.all false
set_option maxRecDepth 100000
set_option maxHeartbeats 2000000
namespace Js
open PySem L2
/-! ### texts, by their signs -/
def tx (cs : List Nat) : Str := ⟨cs.toArray⟩
theorem tx_list (cs : List Nat) : (tx cs).cps.toList = cs := rfl
theorem tx_len (cs : List Nat) : (tx cs).length = cs.length := by
  show cs.toArray.size = _
  rw [List.size_toArray]
theorem tx_of (x : Str) : tx x.cps.toList = x := PyProof.Rows.ext_toList (by rw [tx_list])
theorem tx_text (t : Tr) : t.text = tx t.codes := rfl
theorem tx_append (a b : List Nat) : tx a ++ tx b = tx (a ++ b) := by
  apply PyProof.Rows.ext_toList
  rw [tx_list]
  show (a.toArray ++ b.toArray).toList = a ++ b
  simp
theorem tx_inj {a b : List Nat} (h : tx a = tx b) : a = b := by rw [← tx_list a, ← tx_list b, h]
def repl (n : Nat) (xs : List Nat) : List Nat := (List.replicate n xs).flatten
theorem repl_succ (n : Nat) (xs : List Nat) : repl (n + 1) xs = xs ++ repl n xs := by simp [repl, List.replicate_succ]
theorem repl_len (n : Nat) (xs : List Nat) : (repl n xs).length = n * xs.length := by
  induction n with
  | zero => simp [repl]
  | succ n ih => rw [repl_succ, List.length_append, ih, Nat.succ_mul]; omega
theorem foldl_repl (xs : Array Nat) : ∀ (n : Nat) (acc : Array Nat), ((List.replicate n xs).foldl (· ++ ·) acc).toList = acc.toList ++ repl n xs.toList
  | 0, acc => by simp [repl]
  | n + 1, acc => by
    rw [List.replicate_succ, List.foldl_cons, foldl_repl xs n, repl_succ]
    simp
theorem mul_tx (cs : List Nat) (n : Nat) : PySem.Txt.mul (tx cs) (n : Nat) = tx (repl n cs) := by
  unfold PySem.Txt.mul
  by_cases h : ((n : Nat) : Int) < 1
  · rw [if_pos h]
    have : n = 0 := by omega
    subst this
    rfl
  · rw [if_neg h]
    by_cases h2 : ((((n : Nat) : Int) == 1 || (tx cs).length == 0) = true)
    · rw [if_pos h2]
      rcases Bool.or_eq_true_iff.mp h2 with h3 | h3
      · have : n = 1 := by
          have := eq_of_beq h3
          omega
        subst this
        simp [repl]
      · have h4 : cs.length = 0 := by
          have := eq_of_beq h3
          rw [tx_len] at this
          exact this
        have h5 : cs = [] := List.length_eq_zero_iff.mp h4
        subst h5
        have : repl n [] = [] := by
          apply List.length_eq_zero_iff.mp
          rw [repl_len]
          simp
        rw [this]
    · rw [if_neg h2]
      apply PyProof.Rows.ext_toList
      rw [tx_list]
      show ((List.replicate ((n : Nat) : Int).toNat cs.toArray).foldl (· ++ ·) #[]).toList = _
      rw [foldl_repl, Int.toNat_natCast]
      simp
theorem mul_ok (x : Str) (n : Nat) (h : x.length * n ≤ 1000000) (hn : n ≤ 1000000) (hx : x.length ≤ 1000000) : PySem.MulOk x (n : Nat) := by
  have hs := sizeLine_eq
  refine ⟨?_, fun h1 h2 => ?_, fun h1 h2 => ?_⟩
  · rw [decide_eq_false (by omega), decide_eq_false (by omega)]
    rfl
  · intro z
    have h3 : (1000000 : Int) ≤ (2 ^ 63 - 1) / (n : Nat) := by
      have hp : (0 : Int) < (n : Nat) := by omega
      rw [Int.le_ediv_iff_mul_le hp]
      omega
    omega
  · unfold PySem.Builtin.Str.tooLong
    rw [Int.toNat_natCast]
    exact decide_eq_false (by omega)
section
variable {X : Cx}
theorem op_mulS : OpR X (binaryOp .Mult) (fun x y H Q => ∃ (cs : List Nat) (n : Nat), x = .str (tx cs) ∧ y = .int (n : Nat) ∧ cs.length * n ≤ 1000000 ∧ n ≤ 1000000 ∧ cs.length ≤ 1000000 ∧ Q (.str (tx (repl n cs))) H) := by
  intro pins s σ H x y v u Q I rx ry h
  obtain ⟨cs, n, rfl, rfl, h1, h2, h3, q⟩ := h
  obtain ⟨t, rfl⟩ := rx
  obtain ⟨t', rfl⟩ := ry
  refine PySem.SB.mul (mul_ok _ n (by rw [tx_len]; exact h1) h2 (by rw [tx_len]; exact h3)) fun tk k => ?_
  rw [mul_tx]
  exact ⟨.str _, H, I.tok k, ⟨tk, rfl⟩, q⟩
/-- s + t by their signs -/
theorem op_addX : OpR X (binaryOp .Add) (fun x y H Q => ∃ (a b : List Nat), x = .str (tx a) ∧ y = .str (tx b) ∧ a.length + b.length ≤ 1000000 ∧ Q (.str (tx (a ++ b))) H) :=
  OpR.imp op_add_str fun x y H Q h => by
    obtain ⟨a, b, rfl, rfl, h1, q⟩ := h
    have hs := sizeLine_eq
    exact ⟨_, _, rfl, rfl, by rw [tx_len, tx_len]; omega, by rw [tx_append]; exact q⟩
end
/-! ### how often a sign stands in a text -/
theorem chain_count (x : Str) (c : Nat) (hi : Nat) (hh : hi = x.length) : ∀ (cuts : List Nat) (a f : Nat), PySem.StrLaws.ChainG x ⟨#[c]⟩ hi a cuts f → (∀ k, f ≤ k → ¬ PySem.StrLaws.At x ⟨#[c]⟩ hi k) → cuts.length = (x.cps.toList.drop a).count c
  | [], a, f, h, hn => by
    have e : f = a := h
    subst e
    symm
    rw [List.length_nil, List.count_eq_zero]
    intro hm
    obtain ⟨j, hj⟩ := List.getElem?_of_mem hm
    rw [List.getElem?_drop] at hj
    subst hh
    exact hn (f + j) (by omega) ((PySem.StrLaws.subAt_one x c (f + j)).mpr hj)
  | d :: r, a, f, h, hn => by
    obtain ⟨h1, h2, h3, h4⟩ := h
    have ih := chain_count x c hi hh r (d + 1) f h4 hn
    subst hh
    have hd : x.cps.toList[d]? = some c := (PySem.StrLaws.subAt_one x c d).mp h2
    have hlt := (List.getElem?_eq_some_iff.mp hd).1
    have e1 : x.cps.toList.drop a = (x.cps.toList.drop a).take (d - a) ++ x.cps.toList.drop d := by
      have := List.take_append_drop (d - a) (x.cps.toList.drop a)
      rw [List.drop_drop] at this
      have e : a + (d - a) = d := by omega
      rw [e] at this
      exact this.symm
    have e2 : ((x.cps.toList.drop a).take (d - a)).count c = 0 := by
      rw [List.count_eq_zero]
      intro hm
      obtain ⟨j, hj⟩ := List.getElem?_of_mem hm
      have hj1 : j < d - a := by
        have := (List.getElem?_eq_some_iff.mp hj).1
        rw [List.length_take] at this
        omega
      rw [List.getElem?_take_of_lt hj1, List.getElem?_drop] at hj
      exact h3 (a + j) (by omega) (by omega) ((PySem.StrLaws.subAt_one x c (a + j)).mpr hj)
    have e3 : x.cps.toList.drop d = c :: x.cps.toList.drop (d + 1) := by
      rw [List.drop_eq_getElem_cons hlt, (List.getElem?_eq_some_iff.mp hd).2]
    rw [e1, List.count_append, e2, e3, List.count_cons_self, List.length_cons, ih]
    omega
theorem count_tx (cs : List Nat) (c : Nat) : PySem.Txt.count (tx cs) ⟨#[c]⟩ = ((cs.count c : Nat) : Int) := by
  unfold PySem.Txt.count
  obtain ⟨f, h1, h2⟩ := PySem.StrLaws.occ_tight (tx cs) ⟨#[c]⟩ (by show 1 ≤ 1; decide)
  rw [chain_count (tx cs) c _ rfl _ 0 f h1 h2, List.drop_zero, tx_list]
theorem count_codes : ∀ t : Tr, t.codes.count 40 = t.size
  | .nil => by decide
  | .pr l r => by
    simp only [Tr.codes, Tr.size, List.count_cons, List.count_append, count_codes l, count_codes r]
    simp
    omega
/-! ### slices -/
theorem cut_tx (cs : List Nat) (i j : Nat) (h : i ≤ j) (hj : j ≤ cs.length) : cutS (tx cs) (some (i : Nat)) (some (j : Nat)) = tx ((cs.drop i).take (j - i)) := by
  unfold cutS
  have e1 : min i cs.length = i := Nat.min_eq_left (by omega)
  rw [HT.sIx_nat, HT.sIx_nat, tx_len, tx_list, e1, Nat.min_eq_left hj]
  rfl
theorem cut_neg (cs : List Nat) (i j : Nat) (h : i + j ≤ cs.length) (h0 : 0 < j) : cutS (tx cs) (some (i : Nat)) (some (-(j : Nat) : Int)) = tx ((cs.drop i).take (cs.length - j - i)) := by
  unfold cutS
  have e : HT.sIx (tx cs).length (tx cs).length (some (-((j : Nat) : Int))) = cs.length - j := by
    rw [tx_len]
    show (if (-((j : Nat) : Int)) < 0 then _ else _) = _
    rw [if_pos (by omega)]
    omega
  rw [HT.sIx_nat, e, tx_len, tx_list, Nat.min_eq_left (by omega)]
  rfl
/-! ### how deep -/
def dp1 (c : Nat) : Int := if c = 40 then 1 else if c = 41 then -1 else 0
def dep (cs : List Nat) : Int := (cs.map dp1).sum
theorem dp40 : dp1 40 = 1 := rfl
theorem dep_nil : dep [] = 0 := rfl
theorem dep_cons (c : Nat) (cs : List Nat) : dep (c :: cs) = dp1 c + dep cs := by simp [dep]
theorem dep_append (a b : List Nat) : dep (a ++ b) = dep a + dep b := by simp [dep]
theorem dep_codes : ∀ t : Tr, dep t.codes = 0
  | .nil => rfl
  | .pr l r => by
    simp only [Tr.codes, dep_cons, dep_append, dep_codes l, dep_codes r, dep_nil]
    decide
theorem dep_take_append (a b : List Nat) (j : Nat) : dep ((a ++ b).take j) = if j ≤ a.length then dep (a.take j) else dep a + dep (b.take (j - a.length)) := by
  by_cases h : j ≤ a.length
  · rw [if_pos h, List.take_append_of_le_length h]
  · rw [if_neg h, List.take_append, List.take_of_length_le (by omega), dep_append]
theorem dep_nn : ∀ (t : Tr) (j : Nat), 0 ≤ dep (t.codes.take j)
  | .nil, 0 => by decide
  | .nil, j + 1 => by simp [Tr.codes, dep]; decide
  | .pr l r, 0 => by simp [dep]
  | .pr l r, j + 1 => by
    have hl := dep_nn l
    have hr := dep_nn r
    simp only [Tr.codes, List.take_succ_cons, dep_cons]
    rw [dep_take_append]
    split
    · have := hl j
      simp only [dp1]
      omega
    · rw [dep_take_append, dep_codes l]
      split
      · have := hr (j - l.codes.length)
        simp only [dp1]
        omega
      · rw [dep_codes r]
        match j - l.codes.length - r.codes.length with
        | 0 => simp [dep, dp1]
        | n + 1 => simp [dep, dp1]
/-- between the first sign and the last one some bracket is open -/
theorem dep_pos (t : Tr) (j : Nat) (h0 : 0 < j) (h1 : j < t.codes.length) : 0 < dep (t.codes.take j) := by
  cases t with
  | nil => simp [Tr.codes] at h1; omega
  | pr l r =>
    obtain ⟨j, rfl⟩ : ∃ i, j = i + 1 := ⟨j - 1, by omega⟩
    have hl := dep_nn l
    have hr := dep_nn r
    simp only [Tr.codes, List.length_cons, List.length_append, List.length_nil] at h1
    simp only [Tr.codes, List.take_succ_cons, dep_cons]
    rw [dep_take_append]
    split
    · have := hl j
      rw [dp40]
      omega
    · rw [dep_take_append, dep_codes l]
      split
      · have := hr (j - l.codes.length)
        rw [dp40]
        omega
      · omega
theorem codes_sign : ∀ (t : Tr) (c : Nat), c ∈ t.codes → c = 46 ∨ c = 40 ∨ c = 41
  | .nil, c, h => by simp [Tr.codes] at h; exact .inl h
  | .pr l r, c, h => by
    simp only [Tr.codes, List.mem_cons, List.mem_append, List.not_mem_nil, or_false] at h
    rcases h with h | h | h | h
    · exact .inr (.inl h)
    · exact codes_sign l c h
    · exact codes_sign r c h
    · exact .inr (.inr h)
theorem dot_eq : ((("." : Str))) = Tr.nil.text := by decide +kernel
theorem pr_not_dot (l r : Tr) : decide (V.str (Tr.pr l r).text = V.str ".") = false := by
  rw [dot_eq]
  exact decide_eq_false fun z => Tr.noConfusion (Tr.text_inj (V.str.inj z))
theorem nil_dot : decide (V.str Tr.nil.text = V.str ".") = true := by
  rw [dot_eq]
  simp
end Js

set_option Elab.async false
set_option linter.all false
set_option maxRecDepth 100000
set_option maxHeartbeats 2000000
namespace Js
open PySem L2
def cThing : List Nat := [84, 104, 105, 110, 103, 32]
theorem c_Thing : (("Thing " : Str)) = tx cThing := by decide +kernel
def spRepr (C : Addr) : Sp := fun vs H Q _ => ∃ a t, vs = [.ref a] ∧ Th C H a t ∧ t.size ≤ 4000 ∧ ∀ H', Same H H' → Q (.str (tx (cThing ++ t.codes))) H'
section
variable {P : Program} {w : World} {K : PySem.W.Frag} {mg : Str → Option Value} {base : Heap} {C fI : Addr} {fdI : FuncData}
theorem scRp : FnScope ["self"] ["self"] (defScope sRepr) := ⟨rfl, rfl, rfl, by decide +kernel, rfl, by decide +kernel, by decide +kernel⟩
theorem ok_repr {f : Addr} {fd : FuncData} (F : Fun K "__repr__" "Thing.__repr__" sRepr f fd) (B : Blt mg) (S : Spc P w K mg base C "__str__" 2 ["self"] (spStr C)) : FnOk P w K mg base CX0 5 f fd ["self"] (spRepr C) := by
  refine F.ok scRp (fun vs H Q E h => ?_) (fun cdv A outer s H vs Q E hr h => ?_)
  · obtain ⟨a, t, rfl, _⟩ := h
    rfl
  · obtain ⟨a, t, rfl, ha, hz, k⟩ := h
    refine ⟨_, pss_one (ps_ret (pe_joined (.cons pe_str (.cons (pe_fmt (pe_callTy (call_strT S hr) (by rfl) B.str PyProof.Rows.boot_str (pa_cons (pv 0) pa_nil))) .nil)))), ?_⟩
    have hsl := line4
    refine ⟨_, rfl, (by decide +kernel), _, rfl, a, t, rfl, ha, hz, fun H' s1 => .inl ⟨_, rfl, ?_, _, rfl, ?_, ?_⟩⟩
    · rw [Tr.text_len]
      omega
    · have e : Str.empty ++ ("Thing " : Str) = tx cThing := by decide +kernel
      rw [e, tx_text, tx_append, tx_len, List.length_append, Tr.codes_len]
      simp [cThing]
      omega
    · have e : Str.empty ++ ("Thing " : Str) = tx cThing := by decide +kernel
      have q := k H' s1
      show Q (.str (Str.empty ++ ("Thing " : Str) ++ t.text)) H'
      rw [e, tx_text, tx_append]
      exact q
end
section
open PyProof.Rows
variable {X : Cx} {C : Addr}
theorem call_reprT (S : Spc X.prog X.w X.K X.mg X.base C "__repr__" 5 ["self"] (spRepr C)) (hr : Room 6 X.A) : CallR X (.builtin "repr") (fun xs H Q => ∃ a t, xs = [.ref a] ∧ Th C H a t ∧ t.size ≤ 4000 ∧ ∀ H', Same H H' → Q (.str (tx (cThing ++ t.codes))) H') := by
  obtain ⟨f, fd, ow, F, hb⟩ := S
  refine CallR.imp (call_reprOwn ow F hb hr (pass0)) fun xs H Q h => ?_
  obtain ⟨a, t, rfl, ha, hz, q⟩ := h
  obtain ⟨dx, f1, g1, h1⟩ := ha.obj
  exact ⟨a, dx, _, rfl, h1, a, t, rfl, ha, hz, fun H' s => ⟨_, rfl, q H' s⟩⟩
/-- f(k = v, ..), no value by its place -/
theorem pe_callN0 {CX : CXT} {k : Nat} {f : Addr} {fd : FuncData} {ps ks : List Str} {sp : Sp} {E : XK} {x : Str} {p pos : Pos} {kws : List Keyword} {tk : TA} {g : List Value → List Value → List Value} {gV : List V → List V → List V}
    (F : FnOk X.prog X.w X.K X.mg X.base CX k f fd ps sp) (hr : Room k X.A) (hg : Gl X x) (hm : X.mg x = some (.ref f)) (hk : PySem.W.keepIn X.K (.ref f) = true) (hb : KBn X.K fd ps 0 ks g gV) (hx : Passes CX X E)
    (hkw : PK X kws tk) (hall : (backToKw pos (keywordEach kws X.env)).all (·.1.isSome) = true := by rfl) (hks : (backToKw pos (keywordEach kws X.env)).filterMap (·.1) = ks := by rfl)
    (hdb : (x == ("__debug__" : Str)) = false := by decide) (hpl : ((backTo pos (starEach [] X.env)).any (·.1) || (backToKw pos (keywordEach kws X.env)).any (·.1.isNone)) = false := by rfl) :
    PE X (.Call (.Name x p) [] kws pos) (tCallN 0 ks.length sp gV E tNil tk) := by
  refine ⟨fun pins s σ H Q I h => ?_⟩
  refine wpAny_Call_Name_kw (ld_glob I hg hm ?_ hdb)
  refine PySem.W.callWith_KW0 (h₀ := X.base) I.ok.mod.kin hk hall (thn (hkw.run pos pins s σ H _ I h) fun ws s2 hh => ?_) hpl
  obtain ⟨zs, H2, I2, rz, l1, l2, q2⟩ := hh
  refine ⟨I2.kIn, ?_⟩
  rw [hks]
  exact run_fnN (us := []) (vs := []) F hr hb hx I2 .nil rz l1 l2 q2
end
/-- a def that is called by one keyword -/
def DefK (P : Program) (w : World) (K : PySem.W.Frag) (mg : Str → Option Value) (base : Heap) (x : Str) (k : Nat) (ps ks : List Str) (sp : Sp) : Prop :=
  ∃ f fd, mg x = some (.ref f) ∧ PySem.W.keepIn K (.ref f) = true ∧ FnOk P w K mg base CX0 k f fd ps sp ∧ KBn K fd ps 0 ks (fun _ ws => ws) (fun _ zs => zs)
theorem pe_defK {X : Cx} {x : Str} {p pos : Pos} {k : Nat} {ps ks : List Str} {sp : Sp} {kws : List Keyword} {tk : TA} (D : DefK X.prog X.w X.K X.mg X.base x k ps ks sp) (hr : Room k X.A) (hg : Gl X x) (hkw : PK X kws tk)
    (hall : (backToKw pos (keywordEach kws X.env)).all (·.1.isSome) = true := by rfl) (hks : (backToKw pos (keywordEach kws X.env)).filterMap (·.1) = ks := by rfl)
    (hdb : (x == ("__debug__" : Str)) = false := by decide) (hpl : ((backTo pos (starEach [] X.env)).any (·.1) || (backToKw pos (keywordEach kws X.env)).any (·.1.isNone)) = false := by rfl) :
    PE X (.Call (.Name x p) [] kws pos) (tCallN 0 ks.length sp (fun _ zs => zs) E0 tNil tk) := by
  obtain ⟨f, fd, hm, hk, F, hb⟩ := D
  exact pe_callN0 F hr hg hm hk hb pass0 hkw hall hks hdb hpl
end Js

set_option Elab.async false
set_option linter.all false
set_option maxRecDepth 100000
set_option maxHeartbeats 2000000
namespace Js
open PySem L2
/-! ### NoText -/
abbrev sNt : Stmt := inClass (top 1) 0
/-- what the top says of the class NoText at N -/
structure NtC (K : PySem.W.Frag) (mg : Str → Option Value) (N : Addr) : Prop where
  mgN : mg "NoText" = some (.ref N)
  O : OexC K N
  pl : PySem.W.findIn K (.ref N) "place" = some none
  mVE : mg "ValueError" = none
  vV : PySem.W.findCls K (.type "ValueError") (.type "type") "__init__" = some (.val (.builtin "ValueError.__init__"))
def spNt (K : PySem.W.Frag) : Sp := fun vs H Q _ => ∃ (a N : Addr) (n : Nat), vs = [.ref a, .int (n : Nat)] ∧ n ≤ 1000000 ∧ OexC K N ∧ PySem.W.findIn K (.ref N) "place" = some none ∧ H a = some (exo a N none) ∧
  ∀ dx, H dx = none → dx ≠ a → Q .non (upd (upd H dx (exd dx [("place", .int (n : Nat))])) a (exo a N (some dx)))
section
variable {P : Program} {w : World} {K : PySem.W.Frag} {mg : Str → Option Value} {base : Heap} {N : Addr}
theorem nat_log (n : Nat) (h : n ≤ 1000000) : ((n : Nat) : Int).natAbs.log2 < 1920 := by
  rw [Int.natAbs_natCast]
  by_cases h0 : n = 0
  · subst h0; decide
  · exact Nat.lt_of_lt_of_le ((Nat.log2_lt h0).mpr (show n < 2 ^ 20 by omega)) (by decide)
theorem scNt : FnScope ["self", "place"] ["self", "place"] (defScope sNt) := ⟨rfl, rfl, rfl, by decide +kernel, rfl, by decide +kernel, by decide +kernel⟩
theorem ok_nt {f : Addr} {fd : FuncData} (F : Fun K "__init__" "NoText.__init__" sNt f fd) (T : NtC K mg N) : FnOk P w K mg base CX0 1 f fd ["self", "place"] (spNt K) := by
  refine F.ok scNt (fun vs H Q E h => ?_) (fun cdv A outer s H vs Q E hr h => ?_)
  · obtain ⟨a, N, n, rfl, _⟩ := h
    rfl
  · obtain ⟨a, N, n, rfl, hn, hO, hno, ha, k⟩ := h
    refine ⟨_, pss_cons (ps_expr (pe_veinit rfl T.mVE T.vV (pa_cons (pv 0) (pa_cons (pe_joined (.cons pe_str (.cons (pe_fmt (pv 1)) .nil))) pa_nil)))) (pss_one (ps_ost (pv 0) (pv 1))), ?_⟩
    have hlg := nat_log n hn
    have hl := PyProof.Rows.int_text_len_1921 hlg
    have hs := sizeLine_eq
    refine ⟨_, rfl, _, rfl, by decide +kernel, _, rfl, .inr ⟨_, rfl, hlg, _, rfl, ?_, ?_⟩⟩
    · rw [PySem.Str.length_append]
      have e : (Str.empty ++ ("the text breaks at " : Str)).length = 19 := by decide +kernel
      omega
    · refine ⟨a, N, _, rfl, by simp, hO, ha, ?_⟩
      refine ⟨_, rfl, _, rfl, a, N, rfl, hO, hno, .inl ⟨ha, fun dx h1 h2 => k dx h1 h2⟩⟩
/-- NoText(n) is made -/
theorem raise_nt {H1 : Hp} {n : Nat} {Q : XK} (hO : OexC K N) (hno : PySem.W.findIn K (.ref N) "place" = some none) (hn : n ≤ 1000000)
    (q : ∀ d H', Same H1 H' → H' d = some (.xd [("place", .int (n : Nat))]) → Q (.ref N) (some d) H') :
    ∀ a, H1 a = none → spNt K [.ref a, .int (n : Nat)] (upd H1 a (exo a N none)) (fun v H2 => v = .non ∧ ∃ (d : Addr) (fs : List (Str × V)), H2 a = some (exo a N (some d)) ∧ H2 d = some (exd d fs) ∧ H1 d = none ∧ Q (.ref N) (some d) (upd (del H2 a) d (.xd fs))) (fun _ _ _ => False) := by
  intro a ha
  refine ⟨a, N, n, rfl, hn, hO, hno, upd_same, fun dx hd ne => ⟨rfl, dx, _, upd_same, (upd_ne ne).trans upd_same, ?_, q dx _ ?_ upd_same⟩⟩
  · rw [upd_ne ne] at hd
    exact hd
  · rw [upd_ne ne] at hd
    intro b o h
    have e1 := ne_of_none h hd
    have e2 := ne_of_none h ha
    rw [upd_ne e1, del_ne e2, upd_ne e2, upd_ne e1, upd_ne e2]
    exact h
end
/-! ### isinstance of a caught one -/
section
variable {X : Cx} {a D : Addr} {oe : Obj} {pn : List (Addr × Obj)} {d : Option Addr} {cls : Value}
def rIsX (K : PySem.W.Frag) (D a : Addr) (cls : Value) (d : Option Addr) : List V → Hp → VK → Prop := fun xs H Q => ∃ (c : V) (cv : Value) (b : Bool) (dd : Addr) (fs : List (Str × V)), xs = [.ref a, c] ∧ ClsV c cv ∧ cls = .ref D ∧ d = some dd ∧ H dd = some (.xd fs) ∧ PySem.W.kitOne K (.ref D) cv = some b ∧ Q (.bl b) H
theorem inst_x {s : Shared} {H : Hp} {dd : Addr} {fs : List (Str × V)} {pins : List (Addr × Obj)} {σ : St} (I : Inv (X.suite a ((a, oe) :: pn)) pins σ H s) (hz : Zc (.ref D) d oe) (hf : ∃ vs, oe.data = .fields vs) (e1 : d = some dd) (e2 : H dd = some (.xd fs)) : ∃ od, PySem.W.InstAt s.heap a oe D (some od) := by
  subst e1
  obtain ⟨hget, _⟩ := I.pin (a, oe) (List.mem_append_left _ List.mem_cons_self)
  obtain ⟨vs, hd⟩ := hf
  have hx : ObjOk X.prog X.w H s.heap dd (.xd fs) := I.hok dd _ e2
  obtain ⟨mA, hns, hr⟩ := hx
  obtain ⟨od, ho, hl⟩ := lookIn_ns hns
  exact ⟨od, hget, hz.1, by unfold PySem.W.notCls; rw [hd] <;> rfl, by rw [hz.2]; exact ho⟩
/-- what the class says, so that isinstance asks its instances rightly -/
structure XcC (K : PySem.W.Frag) (D : Addr) : Prop where
  hc : (PySem.W.clsIn K D).isSome = true
  hg : PySem.W.findIn K (.ref D) "__getattribute__" = some (some (.builtin "BaseException.__getattribute__"))
  hk : PySem.W.findIn K (.ref D) "__getattr__" = some none
  hs : PySem.W.subIn K (.ref D) (.type "BaseException") = some true
  ha : PySem.W.findIn K (.ref D) "__class__" = some (some (.builtin "object.__class__"))
  hn : PySem.W.specialIn K (.builtin "object.__class__") "__get__" = some (some (.builtin "getset_descriptor.__get__"))
  ht : PySem.W.takesIn K (.builtin "object.__class__") = some true
  hm : PySem.W.mroIn K D (.type "object") = some true
theorem call_isX (C : XcC X.K D) (hz : Zc cls d oe) (hf : ∃ vs, oe.data = .fields vs) : CallR (X.suite a ((a, oe) :: pn)) (.builtin "isinstance") (rIsX X.K D a cls d) := by
  intro pins s σ H xs us Q I r h
  obtain ⟨c, cv, b, dd, fs, rfl, hcv, rfl, e1, e2, e, q⟩ := h
  obtain ⟨od, J⟩ := inst_x I hz hf e1 e2
  cases r with
  | cons rx rr =>
    cases rr with
    | cons rt rr =>
      cases rr
      cases rx
      have ec := hcv.eq rt
      subst ec
      exact PySem.W.kia_one (PySem.W.kitx_exc C.hc C.hg C.hk C.hs C.ha C.hn C.ht C.hm) I.kIn J e (fun z => nomatch z) fun tk => ⟨.bl b, H, I.kept (t' := tk) fun _ _ z => z, rfl, q⟩
/-- isinstance(e, (C1, ..)) -/
def rIsXt (K : PySem.W.Frag) (D a : Addr) (cls : Value) (d : Option Addr) : List V → Hp → VK → Prop := fun xs H Q => ∃ (tp : Addr) (cs : List V) (cvs : List Value) (b : Bool) (dd : Addr) (fs : List (Str × V)), xs = [.ref a, .ref tp] ∧ H tp = some (.tup cs) ∧ Paired ClsV cs cvs ∧ cls = .ref D ∧ d = some dd ∧ H dd = some (.xd fs) ∧ PySem.W.kitAny K (.ref D) cvs = some b ∧ Q (.bl b) H
theorem call_isXt (C : XcC X.K D) (hz : Zc cls d oe) (hf : ∃ vs, oe.data = .fields vs) : CallR (X.suite a ((a, oe) :: pn)) (.builtin "isinstance") (rIsXt X.K D a cls d) := by
  intro pins s σ H xs us Q I r h
  obtain ⟨tp, cs, cvs, b, dd, fs, rfl, ht, hcv, rfl, e1, e2, e, q⟩ := h
  obtain ⟨od, J⟩ := inst_x I hz hf e1 e2
  cases r with
  | cons rx rr =>
    cases rr with
    | cons rt rr =>
      cases rr
      cases rx
      cases rt
      obtain ⟨its, rv, ⟨o, ho, hcl, n, hdt⟩, _⟩ := I.tuple (SqT.of ht)
      have ev := ClsV.all hcv rv
      subst ev
      obtain ⟨oc, od', oda, osl⟩ := o
      dsimp only at hcl hdt
      subst hcl hdt
      exact PySem.W.kia_tup (PySem.W.kitx_exc C.hc C.hg C.hk C.hs C.ha C.hn C.ht C.hm) I.kIn J ho e (fun z => nomatch z) fun tk => ⟨.bl b, H, I.kept (t' := tk) fun _ _ z => z, rfl, q⟩
end
end Js

set_option Elab.async false
set_option linter.all false
set_option maxRecDepth 100000
set_option maxHeartbeats 4000000
/-! own exception classes over any built-in one -/
namespace JsGx
open PySem PySem.W PyProof.Rows PySem.HandSPX Builtin Builtin.ObjectAttr
section
variable {prog : Program} {w : World} {A : Around} {E : Value → Shared → Prop}
variable {h0 : Heap} {gs : Array GenState} {dr : Drawn} {tt : Nat} {os : OsState} {K : W.Frag}
/-- the first field of an exception without a dict -/
theorem own_first {nm : Str} {tk : Tok} {v : Value} {x C : Addr} {fv : Array Value} {cd : ClassData} {b : Bool} {Q : Fin → Shared → Prop}
    (kin : K.In h0) (at_ : h0.get? x = some { cls := .ref C, data := .fields fv }) (hcd : W.clsIn K C = some cd) (hh : cd.hasDict = true)
    (q : ∀ h1 tk1 dx, (∀ c o, c ≠ x → h0.get? c = some o → h1.get? c = some o) → h0.objs.size ≤ dx → dx ≠ x →
      h1.get? x = some { cls := .ref C, dict := some dx, data := .fields fv } → h1.Ns1 dx (fun y => if y = nm then some v else none) → Q (.done (.ret .none)) ⟨h1, gs, dr, tk1, os⟩) :
    wpAny (model prog w) A (storeInOwnDict (.ref x) (.ref C) (.str nm tk) nm v b) Q E ⟨h0, gs, dr, tt, os⟩ := by
  have lc : W.Looks (model prog w) h0 (classData C) cd := W.looks_clsIn kin hcd
  have nx : x ≠ h0.objs.size := Nat.ne_of_lt (Heap.lt_size at_)
  obtain ⟨n1, bs, mro, ns, qn, hd, sn, sb, ab, col, del⟩ := cd
  cases (show hd = true from hh)
  unfold storeInOwnDict ownDictForStores
  repeat first
    | with_reducible refine store_in_new ?_ ?_
    | with_reducible refine wpAny_loadPart_at at_ ?_
    | with_reducible refine lc.at ?_
    | wp_step
  · exact ⟨_, #[], _, (Heap.get?_update_ne _ _ _ _ nx.symm).trans (Heap.get?_push_at rfl rfl), rfl, fun e he => absurd he (by simp), fun _ => rfl⟩
  · intro h1 tk1 hn1 hs1
    have there := Heap.get?_push_of_some { cls := .type "dict", data := .dict #[] } at_
    have kept : ∀ c o, c ≠ x → h0.get? c = some o → h1.get? c = some o := fun c o nc hc =>
      (hs1.2 c (Nat.ne_of_lt (Heap.lt_size hc))).trans ((Heap.get?_update_ne _ _ _ _ nc).trans (Heap.get?_push_of_some _ hc))
    exact q h1 tk1 h0.objs.size kept (Nat.le_refl _) nx.symm ((hs1.2 x nx).trans (Heap.get?_update_self _ there rfl)) hn1
end
end JsGx
namespace Js
open PySem L2 PySem.Spec PyProof.Rows
/-- an own class at C over the built-in exception B -/
structure GexC (K : PySem.W.Frag) (C : Addr) (B nw ini : String) (tl : List Value) : Prop where
  F : ExcBaseFacts B nw ini tl
  SF : StoreFacts B tl "object.__setattr__" "object"
  cls : ∃ nm q N bs bm sn sub ab col dd k0 k1 k2 k3 k5, K.lookup C = some (excClassObj nm q C N bs bm true sn sub ab col dd k0 k1 k2 k3 k5 nw) ∧ ∀ Y : String, bm.contains (.type Y) = tl.contains (.type Y)
  ov : PySem.W.excOver K C tl = true
  st : PySem.W.findIn K (.ref C) "__setattr__" = some (some (.builtin "object.__setattr__"))
  be : PySem.W.subIn K (.ref C) (.type "BaseException") = some true
  ty : PySem.W.typeIn K (.ref C) = some (.type "type")
  kp : PySem.W.keepIn K (.ref C) = true
section
variable {X : Cx} {pins : List (Addr × Obj)} {σ : L2.St} {H : Hp} {s : Shared} {a C : Addr} {f : Str} {y : V} {u : Value} {B nw ini : String} {tl : List Value}
theorem g_first {A : Around} {Q : Unit → Shared → Prop} {E : Value → Shared → Prop} (T : GexC X.K C B nw ini tl) (I : Inv X pins σ H s) (e : H a = some (exo a C none)) (hno : PySem.W.findIn X.K (.ref C) f = some none) (ry : RelV y u)
    (k : ∀ dx s', H dx = none → dx ≠ a → Inv X pins σ (upd (upd H dx (exd dx [(f, y)])) a (exo a C (some dx))) s' → Q () s') : wpAny (model X.prog X.w) A (setAttr (.ref a) f u) Q E s := by
  obtain ⟨nm, q, N, bs, bm, sn, sub, ab, col, dd, k0, k1, k2, k3, k5, hC, _⟩ := T.cls
  obtain ⟨t1, ho⟩ := exo_at I.hok e
  obtain ⟨hp, g, d, t, os⟩ := s
  have IA : PySem.W.InstAt hp a _ C none := ⟨ho, rfl, rfl, trivial⟩
  refine PySem.W.set_plain I.kIn IA T.st ?_
  refine PySem.W.osa_openX (r := none) T.SF I.kIn IA T.ov (by unfold PySem.W.takerIn; rw [hno]; rfl) fun b => ?_
  refine JsGx.own_first I.kIn ho (by unfold PySem.W.clsIn; rw [hC] <;> rfl) rfl fun h1 tk1 dx kept dn dne hx hn => ?_
  have hnd : H dx = none := I.hok.fresh dn
  have off : ∀ {c : Addr}, H c = none → c ≠ a := fun {c} n z => nomatch (z ▸ n).symm.trans e
  have old : ∀ {c : Addr} {o : Obj}, hp.get? c = some o → c ≠ dx := fun {c o} z => Nat.ne_of_lt (Nat.lt_of_lt_of_le (Heap.lt_size z) dn)
  have U : Un X.fs [] H (upd (upd H dx (exd dx [(f, y)])) a (exo a C (some dx))) hp h1 := by
    refine { keep := ?_, slot := ?_, free := ?_, there := ?_, tups := ?_, frzs := ?_, tbls := ?_ }
    · intro c o z n _ _
      exact kept c o (off n) z
    · intro c o z n _ _
      exact ⟨o.slots, kept c o (off n) z⟩
    · intro c o z n _
      rw [upd_ne (off n), upd_ne (old z)]
      exact n
    · intro c o z _
      by_cases hc : c = a
      · exact ⟨_, hc ▸ hx⟩
      · exact ⟨o, kept c o hc z⟩
    · intro c xs z
      rw [upd_ne (at_ne e z exo_tup), upd_ne (ne_of_none z hnd)]
      exact z
    · intro c o v z
      rw [upd_ne (at_ne e z exo_frz), upd_ne (ne_of_none z hnd)]
      exact z
    · intro c ps z
      refine ⟨#[], ?_⟩
      rw [upd_ne (at_ne e z exo_tbl), upd_ne (ne_of_none z hnd), z]
      simp
  refine k dx _ hnd dne (I.un (t' := tk1) U fun c o z => ?_)
  by_cases hc : c = a
  · subst hc
    cases upd_same.symm.trans z
    exact exo_ok hx
  · rw [upd_ne hc] at z
    by_cases hd : c = dx
    · subst hd
      cases upd_same.symm.trans z
      exact exd_ok hn (relO_put (fs := []) ry fun _ => True.intro)
    · rw [upd_ne hd] at z
      refine (I.hok c o z).stay (fun m v hm zz => kept m v ?_ zz) (fun m hm => ?_) (fun m xs hm => ?_)
      · rcases hm with hm | hm
        · exact hm ▸ hc
        · exact at_ne e hm exo_own
      · rw [upd_ne (at_ne e hm exo_own), upd_ne (ne_of_none hm hnd)]
        exact hm
      · rw [upd_ne (at_ne e hm exo_tup), upd_ne (ne_of_none hm hnd)]
        exact hm
/-- B.__init__(self, ..) -/
theorem g_init {A : Around} {E : Value → Shared → Prop} {us : List Value} {Q : Value → Shared → Prop} (T : GexC X.K C B nw ini tl) (I : Inv X pins σ H s) (e : H a = some (exo a C none)) (hl : us.length ≤ sizeLine) (k : ∀ s', Inv X pins σ H s' → Q .none s') :
    wpAny (model X.prog X.w) A (call (.builtin ini) (.ref a :: us)) Q E s := by
  obtain ⟨nm, q, N, bs, bm, sn, sub, ab, col, dd, k0, k1, k2, k3, k5, hC, hT⟩ := T.cls
  obtain ⟨t1, ho⟩ := exo_at I.hok e
  obtain ⟨hp, g, d, t, os⟩ := s
  refine wpAny_call (PySem.HandSPX.init_base T.F hT (I.kIn _ _ hC) ho hl fun h1 t2 kept hx => k _ ?_)
  have eu : upd H a (exo a C none) = H := funext fun c => by
    by_cases hc : c = a
    · rw [hc, upd_same, e]
    · exact upd_ne hc
  exact eu ▸ I.write (t' := t) (x := a) (e := a) (o := exo a C none) (by rw [e]; exact True.intro) (.inl rfl) kept ⟨_, hx⟩ (exo_ok hx)
end
/-! the rules -/
/-- B.__init__(self, ..), by its signs -/
def tGi (K : PySem.W.Frag) (B nw ini : String) (tl : List Value) (ta : TA) : TE := fun σ H Q => ta σ H fun vs H1 => ∃ (a C : Addr) (r : List V), vs = .ref a :: r ∧ r.length ≤ 1000 ∧ GexC K C B nw ini tl ∧ H1 a = some (exo a C none) ∧ Q .non H1
/-- self.f = e, nothing stored as yet -/
def tGs (K : PySem.W.Frag) (B nw ini : String) (tl : List Value) (f : Str) (to te : TE) : TS := fun D σ H => te σ H fun y H1 => to σ H1 fun x H2 => ∃ a C : Addr, x = .ref a ∧ GexC K C B nw ini tl ∧ PySem.W.findIn K (.ref C) f = some none ∧ H2 a = some (exo a C none) ∧
  ∀ dx, H2 dx = none → dx ≠ a → D.nx σ (upd (upd H2 dx (exd dx [(f, y)])) a (exo a C (some dx)))
section
variable {X : Cx} {o e : Expr} {es : List Expr} {to te : TE} {ta : TA} {f : Str} {p p' p1 p2 pos : Pos} {B nw ini : String} {tl : List Value}
theorem ps_gst (ho : PE X o to) (he : PE X e te) (hs : swapsWith e (some (.Attribute o f p')) pos.line X.env = pure false := by rfl) : PS X (.Assign [.Attribute o f p'] e pos) (tGs X.K B nw ini tl f to te) := by
  constructor
  intro pins s σ H D I h
  refine plainObj_wpAny_Assign_Attribute (thn (he.run pins s σ H _ I h) ?_) hs
  rintro v s1 ⟨y, H1, I1, r1, q1⟩
  refine thn (ho.run pins s1 σ H1 _ I1 q1) ?_
  rintro u s2 ⟨x, H2, I2, r2, a, C, rfl, T, hno, ea, q⟩
  cases (show u = Value.ref a from r2)
  exact g_first T I2 ea hno r1 fun dx s' n ne J => ⟨σ, _, J, q dx n ne⟩
theorem typ_OE : typeOf (.type "OverflowError") = pure (.type "type") := by kernel_rfl
theorem pe_oeinit {pl : Sem Bool} (hg : Gl X "OverflowError") (hm : X.mg "OverflowError" = none) (vV : PySem.W.findCls X.K (.type "OverflowError") (.type "type") "__init__" = some (.val (.builtin "OverflowError.__init__"))) (ha : PA X (e :: es) ta)
    (hc : eval (.Call (.Attribute (.Name "OverflowError" p1) "__init__" p2) (e :: es) [] pos) X.env = (do
      let ov ← eval (.Name "OverflowError" p1) X.env; standAt p2.atName
      let (f, first) ← holding [ov] (getMethod ov "__init__" pl); callWith pos f first (backTo pos (starEach (e :: es) X.env)) (backToKw pos (keywordEach [] X.env))) := by rfl)
    (he : starEach (e :: es) X.env = (false, eval e X.env) :: starEach es X.env := by rfl) (hpl : (backTo pos (starEach es X.env)).any (·.1) = false := by rfl) :
    PE X (.Call (.Attribute (.Name "OverflowError" p1) "__init__" p2) (e :: es) [] pos) (tGi X.K "OverflowError" nw "OverflowError.__init__" tl ta) := by
  constructor
  intro pins s σ H Q I h
  refine PySem.W.methodCall_KW (ld_blt I hg hm PyProof.Rows.Boot.«OverflowError» ?_ (by decide) (by decide)) hc
  obtain ⟨m, fr⟩ := I.fr
  refine PySem.W.method_type fr I.ok.mod.kin typ_OE (by decide +kernel) vV (by decide +kernel) ?_
  show wpAny _ _ (callWith pos (Value.builtin "OverflowError.__init__") [] (backTo pos (starEach (e :: es) X.env)) []) _ _ _
  refine PyProof.Rows.callWith_method1 (thn (ha.run pos pins _ σ H _ (I.tok _) h) ?_) he hpl
  rintro us s1 ⟨vs, H1, I1, r1, a, C, r, rfl, hl, T, ea, q⟩
  cases r1 with
  | @cons _ u0 _ ur ra rr =>
    cases (show u0 = Value.ref a from ra)
    refine g_init T I1 ea ?_ fun s' J => ⟨.non, H1, J, rfl, q⟩
    have e1 := Paired.length rr
    have e2 := sizeLine_eq
    omega
/-- C(e, ..) is made, to be raised -/
theorem pmk_gex {CX : CXT} {x : Str} {C fI : Addr} {k : Nat} {fd : FuncData} {ps : List Str} {sp : Sp} {ds : List Value} {dvs : List V} (T : GexC X.K C B nw ini tl) (iC : PySem.W.findIn X.K (.ref C) "__init__" = some (some (.ref fI))) (tI : PySem.W.typeIn X.K (.ref fI) = some (.type "function"))
    (G : FnOk X.prog X.w X.K X.mg X.base CX k fI fd ps sp) (hr : Room (k + 1) X.A) (hb : Binds X.K fd ps ds) (hd : Vals dvs ds) (hx : Passes CX X (fun _ _ _ => False)) (hg : Gl X x) (hm : X.mg x = some (.ref C)) (ha : PA X (e :: es) ta)
    (hdb : (x == ("__debug__" : Str)) = false := by decide) (he : starEach (e :: es) X.env = (false, eval e X.env) :: starEach es X.env := by rfl) (hpl : (backTo pos (starEach es X.env)).any (·.1) = false := by rfl) :
    PMk X (.Call (.Name x p) (e :: es) [] pos) (tMkO C sp dvs ta) := by
  obtain ⟨nm, q, N, bs, bm, sn, sub, ab, col, dd, k0, k1, k2, k3, k5, hC, hT⟩ := T.cls
  intro pins s σ H Q I h
  refine wpAny_Call_Name_kw (ld_glob I hg hm ?_ hdb)
  refine PySem.W.callWith_K (h₀ := X.base) I.ok.mod.kin T.kp (thn (ha.run pos pins s σ H _ I h) ?_) he hpl
  rintro us ⟨hp, g, dr, tk, os⟩ ⟨vs, H1, I1, r1, hz, q1⟩
  refine ⟨I1.kIn, ?_⟩
  show wpAny _ _ (call (.ref C) us) _ _ _
  have up := Nat.le_succ hp.objs.size
  have hq := q1 (hp.objs.size + 1) (I1.hok.fresh up)
  have kk : ∀ c z, hp.get? c = some z → ((hp.push (PySem.W.kdv_tup us)).push (PySem.HandSPX.excO C hp.objs.size)).get? c = some z := fun c z h => Heap.get?_push_of_some _ (Heap.get?_push_of_some _ h)
  have at1 : ((hp.push (PySem.W.kdv_tup us)).push (PySem.HandSPX.excO C hp.objs.size)).get? (hp.objs.size + 1) = some (PySem.HandSPX.excO C hp.objs.size) := by heap_get
  have I2 : Inv X pins σ (upd H1 (hp.objs.size + 1) (exo (hp.objs.size + 1) C none)) ⟨(hp.push (PySem.W.kdv_tup us)).push (PySem.HandSPX.excO C hp.objs.size), g, dr, tk, os⟩ :=
    I1.laid (t' := tk) kk up (exo_ok at1)
  have r2 : Vals (V.ref (hp.objs.size + 1) :: (vs ++ dvs)) (Value.ref (hp.objs.size + 1) :: (us ++ ds)) := .cons rfl (r1.append hd)
  have hl : (Value.ref (hp.objs.size + 1) :: us ++ ds).length = ps.length := (r2.length.symm.trans (G.len _ _ _ _ hq))
  have hus : us.length ≤ sizeLine := by
    have e1 := Paired.length r1
    have e2 := sizeLine_eq
    omega
  refine wpAny_call (PySem.HandSPX.call_own T.F hT (I1.kIn _ _ hC) (PySem.W.looks_findIn I1.kIn iC) (fun self => PySem.W.bind_fn I1.kIn self tI) hus ?_)
  refine codeAny_mono (G.run _ X.stack _ _ ⟨Value.ref (hp.objs.size + 1) :: us, []⟩ (Value.ref (hp.objs.size + 1) :: (us ++ ds)) _ _ (fun _ _ _ => False) (hr.make C us []) (I2.env0.make C us []) (hb _ (Value.ref (hp.objs.size + 1) :: us) I2.kIn hl) r2 hq) ?_
  rintro (er | fl) s' hq'
  · exact hx pins σ _ _ er s' I2 hq'
  · cases fl with
    | ret u =>
      obtain ⟨v, H2, os2, bare2, un2, hok2, rv, rfl, d, fs, ea, ed, hd1, q2⟩ := hq'
      obtain ⟨h2, g2, d2, t2, os'⟩ := s'
      exact ⟨rv, mk_end (raises_own T.be T.ty) I1 up kk un2 hok2 os2 bare2 ea ed hd1 q2⟩
    | next => exact hq'.elim
    | brk => exact hq'.elim
    | cont => exact hq'.elim
end
end Js

set_option Elab.async false
set_option linter.all false
set_option maxRecDepth 100000
set_option maxHeartbeats 2000000
namespace Js
open PySem L2
/-! ### TooGreat -/
abbrev sTg : Stmt := inClass (top 4) 0
abbrev tlO : List Value := [.type "OverflowError", .type "ArithmeticError", .type "Exception", .type "BaseException", .type "object"]
abbrev GexO (K : PySem.W.Frag) (N : Addr) : Prop := GexC K N "OverflowError" "OverflowError.__new__" "OverflowError.__init__" tlO
structure TgC (K : PySem.W.Frag) (mg : Str → Option Value) (N : Addr) : Prop where
  mgN : mg "TooGreat" = some (.ref N)
  O : GexO K N
  bd : PySem.W.findIn K (.ref N) "bound" = some none
  mOE : mg "OverflowError" = none
  vV : PySem.W.findCls K (.type "OverflowError") (.type "type") "__init__" = some (.val (.builtin "OverflowError.__init__"))
def spTg (K : PySem.W.Frag) : Sp := fun vs H Q _ => ∃ (a N : Addr) (n : Nat), vs = [.ref a, .int (n : Nat)] ∧ n ≤ 1000000 ∧ GexO K N ∧ PySem.W.findIn K (.ref N) "bound" = some none ∧ H a = some (exo a N none) ∧
  ∀ dx, H dx = none → dx ≠ a → Q .non (upd (upd H dx (exd dx [("bound", .int (n : Nat))])) a (exo a N (some dx)))
section
variable {P : Program} {w : World} {K : PySem.W.Frag} {mg : Str → Option Value} {base : Heap} {N C : Addr}
theorem scTg : FnScope ["self", "bound"] ["self", "bound"] (defScope sTg) := ⟨rfl, rfl, rfl, by decide +kernel, rfl, by decide +kernel, by decide +kernel⟩
theorem ok_tg {f : Addr} {fd : FuncData} (F : Fun K "__init__" "TooGreat.__init__" sTg f fd) (T : TgC K mg N) : FnOk P w K mg base CX0 1 f fd ["self", "bound"] (spTg K) := by
  refine F.ok scTg (fun vs H Q E h => ?_) (fun cdv A outer s H vs Q E hr h => ?_)
  · obtain ⟨a, N, n, rfl, _⟩ := h
    rfl
  · obtain ⟨a, N, n, rfl, hn, hO, hno, ha, k⟩ := h
    refine ⟨_, pss_cons (ps_expr (pe_oeinit (nw := "OverflowError.__new__") (tl := tlO) rfl T.mOE T.vV (pa_cons (pv 0) (pa_cons (pe_joined (.cons pe_str (.cons (pe_fmt (pv 1)) .nil))) pa_nil)))) (pss_one (ps_gst (B := "OverflowError") (nw := "OverflowError.__new__") (ini := "OverflowError.__init__") (tl := tlO) (pv 0) (pv 1))), ?_⟩
    have hlg := nat_log n hn
    have hl := PyProof.Rows.int_text_len_1921 hlg
    have hs := sizeLine_eq
    refine ⟨_, rfl, _, rfl, by decide +kernel, _, rfl, .inr ⟨_, rfl, hlg, _, rfl, ?_, ?_⟩⟩
    · rw [PySem.Str.length_append]
      have e : (Str.empty ++ ("greater than " : Str)).length = 13 := by decide +kernel
      omega
    · refine ⟨a, N, _, rfl, by simp, hO, ha, ?_⟩
      exact ⟨_, rfl, _, rfl, a, N, rfl, hO, hno, ha, fun dx h1 h2 => k dx h1 h2⟩
/-- TooGreat(n) is made -/
theorem raise_tg {H1 : Hp} {n : Nat} {Q : XK} (hO : GexO K N) (hno : PySem.W.findIn K (.ref N) "bound" = some none) (hn : n ≤ 1000000)
    (q : ∀ d H', Same H1 H' → H' d = some (.xd [("bound", .int (n : Nat))]) → Q (.ref N) (some d) H') :
    ∀ a, H1 a = none → spTg K [.ref a, .int (n : Nat)] (upd H1 a (exo a N none)) (fun v H2 => v = .non ∧ ∃ (d : Addr) (fs : List (Str × V)), H2 a = some (exo a N (some d)) ∧ H2 d = some (exd d fs) ∧ H1 d = none ∧ Q (.ref N) (some d) (upd (del H2 a) d (.xd fs))) (fun _ _ _ => False) := by
  intro a ha
  refine ⟨a, N, n, rfl, hn, hO, hno, upd_same, fun dx hd ne => ⟨rfl, dx, _, upd_same, (upd_ne ne).trans upd_same, ?_, q dx _ ?_ upd_same⟩⟩
  · rw [upd_ne ne] at hd
    exact hd
  · rw [upd_ne ne] at hd
    intro b o h
    have e1 := ne_of_none h hd
    have e2 := ne_of_none h ha
    rw [upd_ne e1, del_ne e2, upd_ne e2, upd_ne e1, upd_ne e2]
    exact h
/-- the class TooGreat and its __init__ -/
structure TgM (P : Program) (w : World) (K : PySem.W.Frag) (mg : Str → Option Value) (base : Heap) (N fN : Addr) (fdN : FuncData) : Prop where
  T : TgC K mg N
  iN : PySem.W.findIn K (.ref N) "__init__" = some (some (.ref fN))
  tN : PySem.W.typeIn K (.ref fN) = some (.type "function")
  ok : FnOk P w K mg base CX0 1 fN fdN ["self", "bound"] (spTg K)
  bN : Binds K fdN ["self", "bound"] []
/-- Thing.__init__, whatever the size -/
def spInitX (C N : Addr) : Sp := fun vs H Q E => ∃ (p dx : Addr) (x y : V) (n : Nat), vs = [.ref p, x, y] ∧ H p = some (.ins C dx []) ∧ PairsOf C H x y n ∧ n ≤ 100000 ∧ (n ≤ 4000 → Q .non (upd H p (.ins C dx (tf x y (n : Nat))))) ∧
  (4000 < n → ∀ d H', Same H H' → H' d = some (.xd [("bound", .int ((4000 : Nat) : Int))]) → E (.ref N) (some d) H')
theorem ok_initX {f fP fN : Addr} {fd fdP fdN : FuncData} (F : FunD K "__init__" "Thing.__init__" (defArgs sInit) (defBody sInit) (defScope sInit) [.non, .non] [] f fd) (T : Txt K mg C) (AP : At K mg "pairs_in" sPairs ["first", "second"] fP fdP) (M : TgM P w K mg base N fN fdN) :
    FnOk P w K mg base (L2.CX P w) 3 f fd ["self", "first", "second"] (spInitX C N) := by
  have GP : FnOk P w K mg base CX0 1 fP fdP ["first", "second"] (spPairs C) := ok_pairs AP.F T
  obtain ⟨tm, mgM⟩ := T.mgM
  refine F.ok scI (fun vs H Q E h => ?_) (fun cdv A outer s H vs Q E hr h => ?_)
  · obtain ⟨p, dx, x, y, n, rfl, _⟩ := h
    rfl
  · obtain ⟨p, dx, x, y, n, rfl, hp, hxy, hn, k, ke⟩ := h
    have hr1 : Room 1 _ := hr.mono (by decide)
    refine ⟨_, pss_cons (ps_set (i := 3) scI.nd rfl (Or.inl rfl) (pe_call GP hr1 rfl AP.mgf AP.F.kp AP.b .nil pass0 (pa_cons (pv 1) (pa_cons (pv 2) pa_nil))))
      (pss_cons (ps_if (pt_cmpR op_gt (pv 3) (pe_glob (v := .int 4000) rfl mgM ⟨_, rfl⟩) (nomark _)) (pss_one (ps_raise rfl (takes_of rfl rfl rfl rfl) (pmk_gex M.T.O M.iN M.tN M.ok hr M.bN .nil pass0 rfl M.T.mgN (pa_cons (pe_glob (v := .int ((4000 : Nat) : Int)) rfl mgM ⟨_, rfl⟩) pa_nil)))) pss_nil)
      (pss_cons (ps_fld (pv 0) (pv 1) rfl) (pss_cons (ps_fld (pv 0) (pv 2) rfl) (pss_one (ps_fld (pv 0) (pv 3) rfl))))), ?_⟩
    refine ⟨_, rfl, _, rfl, x, y, n, rfl, hxy, ?_⟩
    refine ⟨_, rfl, _, _, rfl, rfl, _, rfl, ?_⟩
    by_cases h4 : n ≤ 4000
    · have ed : decide ((4000 : Int) < (n : Nat)) = false := decide_eq_false (by omega)
      rw [ed]
      refine iteF ?_
      refine ⟨_, rfl, _, rfl, p, C, dx, [], rfl, hp, T.cl, T.nF, (by show 0 < 1000; decide), ?_⟩
      refine ⟨_, rfl, _, rfl, p, C, dx, _, rfl, upd_same, T.cl, T.nS, Nat.lt_of_le_of_lt (length_putF _ _ _) (by show 0 + 1 < 1000; decide), ?_⟩
      refine ⟨_, rfl, _, rfl, p, C, dx, _, rfl, upd_same, T.cl, T.nZ, ?_, ?_⟩
      · have h1 := length_putF "first" x []
        have h2 := length_putF "second" y (putF "first" x [])
        simp only [List.length_nil] at h1
        omega
      · show Q .non (upd (upd (upd H p _) p _) p (.ins C dx (tf x y (n : Nat))))
        rw [upd_upd, upd_upd]
        exact k h4
    · have ed : decide ((4000 : Int) < (n : Nat)) = true := decide_eq_true (by omega)
      rw [ed]
      refine iteT ?_
      exact ⟨by simp, raise_tg M.T.O M.T.bd (by decide) fun d H' sH hd => ke (by omega) d H' sH hd⟩
end
/-! ### made, at given slots -/
section
open PyProof.Rows
variable {X : Cx} {CX : CXT} {C f : Addr} {k : Nat} {fd : FuncData} {ps : List Str} {sp : Sp} {ds us : List Value} {dvs vs : List V} {E : XK} {pins : List (Addr × Obj)} {σ : L2.St} {H : Hp} {s : Shared} {Q : VK}
/-- as run_make, what may be let out told at these slots alone -/
theorem make_at (M : Mk X.K C f) (G : FnOk X.prog X.w X.K X.mg X.base CX k f fd ps sp) (hr : Room (k + 1) X.A) (hb : Binds X.K fd ps ds) (hd : Vals dvs ds) (out : PassesAt CX X σ E) (I : Inv X pins σ H s) (r : Vals vs us)
    (h : ∀ x dx, H x = none → H dx = none → dx ≠ x → sp (.ref x :: (vs ++ dvs)) (upd (upd H dx (.own x)) x (.ins C dx [])) (fun v H2 => v = .non ∧ Q (.ref x) H2) E) : wpAny (model X.prog X.w) X.A (call (.ref C) us) (EP X pins σ Q) X.xe s := by
  have I2 := Inv.made (C := C) I
  have hq := h _ _ (I.hok.fresh (Nat.le_succ _)) (I.hok.fresh (Nat.le_refl _)) (Nat.ne_of_lt (Nat.lt_succ_self s.heap.objs.size))
  have r2 : Vals (V.ref (s.heap.objs.size + 1) :: (vs ++ dvs)) (Value.ref (s.heap.objs.size + 1) :: (us ++ ds)) := .cons rfl (r.append hd)
  have hl : (Value.ref (s.heap.objs.size + 1) :: us ++ ds).length = ps.length := r2.length.symm.trans (G.len _ _ _ _ hq)
  have ran := G.run _ X.stack _ _ ⟨Value.ref (s.heap.objs.size + 1) :: us, []⟩ (Value.ref (s.heap.objs.size + 1) :: (us ++ ds)) _ _ E (hr.make C us []) (I2.env0.make C us []) (hb _ (Value.ref (s.heap.objs.size + 1) :: us) I2.kIn hl) r2 hq
  refine wpAny_call (make_map (f := f) I.kIn M.makes M.init (beq_iff_eq.mp M.fn) (codeAny_mono ran ?_))
  rintro (er | fl) s' z
  · exact out pins _ _ er s' I2 z
  · cases fl with
    | ret u =>
      obtain ⟨v, H3, I3, rv, rfl, q3⟩ := I2.after z
      exact ⟨rv, ⟨V.ref (s.heap.objs.size + 1), H3, I3, rfl, q3⟩⟩
    | next => exact z.elim
    | brk => exact z.elim
    | cont => exact z.elim
end
end Js

set_option Elab.async false
set_option linter.all false
set_option maxRecDepth 100000
set_option maxHeartbeats 2000000
namespace Js
open PySem L2
/-- a Thing of any size made, or refused -/
structure MakerX (P : Program) (w : World) (K : PySem.W.Frag) (mg : Str → Option Value) (base : Heap) (C fI N : Addr) (fdI : FuncData) : Prop where
  M : Mk K C fI
  G : FnOk P w K mg base (L2.CX P w) 3 fI fdI ["self", "first", "second"] (spInitX C N)
  mgC : mg "Thing" = some (.ref C)
  b2 : Binds K fdI ["self", "first", "second"] []
def tTX (C N : Addr) (E : L2.St → XK) (t : TA) : TE := fun σ H Q => t σ H fun vs H1 => ∃ a b t u, vs = [.ref a, .ref b] ∧ Th C H1 a t ∧ Th C H1 b u ∧ 1 + t.size + u.size ≤ 100000 ∧
  (1 + t.size + u.size ≤ 4000 → ∀ z H', Same H1 H' → H1 z = none → Th C H' z (.pr t u) → Q (.ref z) H') ∧
  (4000 < 1 + t.size + u.size → ∀ d H', Same H1 H' → H' d = some (.xd [("bound", .int ((4000 : Nat) : Int))]) → E σ (.ref N) (some d) H')
theorem mk_prX {C N a b : Addr} {H : Hp} {t u : Tr} {Q : VK} {E : XK} (ha : Th C H a t) (hb : Th C H b u) (hz : 1 + t.size + u.size ≤ 100000)
    (k : 1 + t.size + u.size ≤ 4000 → ∀ x H', Same H H' → H x = none → Th C H' x (.pr t u) → Q (.ref x) H')
    (ke : 4000 < 1 + t.size + u.size → ∀ d H', Same H H' → H' d = some (.xd [("bound", .int ((4000 : Nat) : Int))]) → E (.ref N) (some d) H') :
    ∀ x dx, H x = none → H dx = none → dx ≠ x → spInitX C N (.ref x :: ([.ref a, .ref b] ++ [])) (upd (upd H dx (.own x)) x (.ins C dx [])) (fun v H3 => v = .non ∧ Q (.ref x) H3) E := by
  intro x dx nx ndx ne
  have s0 : Same H (upd (upd H dx (.own x)) x (.ins C dx [])) := (Same.new ndx).trans (Same.new (by rw [upd_ne (Ne.symm ne)]; exact nx))
  refine ⟨x, dx, _, _, 1 + t.size + u.size, rfl, upd_same, .inr ⟨a, b, t, u, rfl, rfl, ha.same s0, hb.same s0, rfl⟩, hz, fun h4 => ⟨rfl, ?_⟩, fun h4 d H' sH hd => ke h4 d H' (s0.trans sH) hd⟩
  rw [upd_upd]
  have s1 : Same H (upd (upd H dx (.own x)) x (.ins C dx (tf (.ref a) (.ref b) ((1 + t.size + u.size : Nat) : Int)))) := (Same.new ndx).trans (Same.new (by rw [upd_ne (Ne.symm ne)]; exact nx))
  exact k h4 x _ s1 nx (.pr upd_same (ha.same s1) (hb.same s1))
section
open PyProof.Rows
variable {X : Cx} {C N fI : Addr} {fdI : FuncData} {p pos : Pos} {e : Expr} {es : List Expr} {t : TA} {E : L2.St → XK}
theorem pe_T2X (mk : MakerX X.prog X.w X.K X.mg X.base C fI N fdI) (hr : Room 4 X.A) (hg : Gl X "Thing") (out : ∀ σ, PassesAt (L2.CX X.prog X.w) X σ (E σ)) (ha : PA X (e :: es) t)
    (he : starEach (e :: es) X.env = (false, eval e X.env) :: starEach es X.env := by rfl) (hpl : (backTo pos (starEach es X.env)).any (·.1) = false := by rfl) : PE X (.Call (.Name "Thing" p) (e :: es) [] pos) (tTX C N E t) := by
  refine ⟨fun pins s σ H Q I h => ?_⟩
  refine wpAny_Call_Name_kw (ld_glob I hg mk.mgC ?_ (by decide))
  refine PySem.W.callWith_K (h₀ := X.base) I.ok.mod.kin mk.M.kp (thn (ha.run pos pins s σ H _ I h) fun us s1 ⟨vs, H1, I1, r, q⟩ => ⟨I1.kIn, ?_⟩) he hpl
  obtain ⟨a, b, t, u, rfl, h1, h2, hz, k, ke⟩ := q
  exact make_at mk.M mk.G hr mk.b2 .nil (out σ) I1 r (mk_prX h1 h2 hz k ke)
end
abbrev sRef : Stmt := top 20
/-- what the top says of TooGreat and the other refusals -/
structure RfC (K : PySem.W.Frag) (mg : Str → Option Value) (N : Addr) : Prop where
  tg : TgC K mg N
  xf : XfC K N
  xc : XcC K N
  ex : PySem.W.exmOne K (.ref N) (.ref N) = some true
  oe : PySem.W.kitOne K (.ref N) (.type "OverflowError") = some true
  oth : ∃ n1 n2 n3 n4 n5 n6 : Addr, mg "NoName" = some (.ref n1) ∧ mg "NoProgram" = some (.ref n2) ∧ mg "NoRoom" = some (.ref n3) ∧ mg "NoSaying" = some (.ref n4) ∧ mg "NoStep" = some (.ref n5) ∧ mg "NoText" = some (.ref n6) ∧
    PySem.W.kitAny K (.ref N) [.ref n1, .ref n2, .ref n3, .ref n4, .ref n5, .ref n6] = some false
def spRef (C : Addr) : Sp := fun vs H Q _ => ∃ a b t u, vs = [.ref a, .ref b] ∧ Th C H a t ∧ Th C H b u ∧ 4000 < 1 + t.size + u.size ∧ 1 + t.size + u.size ≤ 100000 ∧ ∀ H', Same H H' → Q (.bl true) H'
section
variable {P : Program} {w : World} {K : PySem.W.Frag} {mg : Str → Option Value} {base : Heap} {C N fI : Addr} {fdI : FuncData}
theorem scRf : FnScope ["_law_ahead", "_law_beyond", "e", "_law_other"] ["_law_ahead", "_law_beyond"] (defScope sRef) := ⟨rfl, rfl, rfl, by decide +kernel, rfl, by decide +kernel, by decide +kernel⟩
theorem ok_ref {f : Addr} {fd : FuncData} (F : Fun K "_law_refused" "_law_refused" sRef f fd) (T : Txt K mg C) (mk : MakerX P w K mg base C fI N fdI) (G : RfC K mg N) : FnOk P w K mg base CX0 5 f fd ["_law_ahead", "_law_beyond"] (spRef C) := by
  obtain ⟨n1, n2, n3, n4, n5, n6, m1, m2, m3, m4, m5, m6, kA⟩ := G.oth
  refine F.ok scRf (fun vs H Q E h => ?_) (fun cdv A outer s H vs Q E hr h => ?_)
  · obtain ⟨a, b, t, u, rfl, _⟩ := h
    rfl
  · obtain ⟨a, b, t, u, rfl, ha, hb, hz, hz2, k⟩ := h
    refine ⟨_, pss_cons (ps_try_as (i := 2) (tb := fun W => tDrop (tTX C N (WE W) (tCons (tVar 0) (tCons (tVar 1) tNil)))) (Wout := fun _ _ _ _ => False) rfl rfl scRf.nd rfl rfl ⟨rfl, by decide, Or.inl G.tg.mgN⟩ takes0 (fun W pn xe tk _ => (pss_one (ps_expr (by exact (pe_T2X mk hr rfl (fun σ => passAt tk σ) (by exact (pa_cons (pv 0) (pa_cons (pv 1) pa_nil)))))))) (fun a oe cls d pn hz hf => (pss_cons (ps_set (i := 3) scRf.nd rfl (Or.inl rfl) (pe_callB (call_isXt G.xc hz hf) (by rfl) T.isi PyProof.Rows.boot_isinstance (pa_cons (pv 2) (pa_cons (pe_tup (pa_cons (pe_glob (v := .ref n1) rfl m1 rfl) (pa_cons (pe_glob (v := .ref n2) rfl m2 rfl) (pa_cons (pe_glob (v := .ref n3) rfl m3 rfl) (pa_cons (pe_glob (v := .ref n4) rfl m4 rfl) (pa_cons (pe_glob (v := .ref n5) rfl m5 rfl) (pa_cons (pe_glob (v := .ref n6) rfl m6 rfl) pa_nil))))))) pa_nil)))) (pss_one (ps_ret (pe_and (pe_cmpR op_eq (pe_xf G.xf G.tg.bd hz hf (pv 2)) pe_int (nomark _)) (pe_and (pe_callB (call_isX G.xc hz hf) (by rfl) T.isi PyProof.Rows.boot_isinstance (pa_cons (pv 2) (pa_cons (pe_bltn (v := .ty "OverflowError") rfl G.tg.mOE PyProof.Rows.Boot.«OverflowError» rfl) pa_nil))) (pe_one (pe_not (pv 3)))))))))) (pss_one (ps_ret pe_bl)), ?_⟩
    refine ⟨_, rfl, _, rfl, a, b, t, u, rfl, ha, hb, hz2, fun h4 => absurd h4 (by omega), fun _ d H' s2 hd => ?_⟩
    refine ⟨true, G.ex, fun _ a0 _ => ?_, fun q => Bool.noConfusion q⟩
    refine ⟨_, rfl, by show 6 ≤ sizeLine; decide, fun tp ntp => ?_⟩
    have st : Same H' (upd H' tp (.tup [.ref n1, .ref n2, .ref n3, .ref n4, .ref n5, .ref n6])) := Same.new ntp
    have hd' := st _ _ hd
    refine ⟨tp, _, _, false, d, _, rfl, upd_same, .cons (.own _) (.cons (.own _) (.cons (.own _) (.cons (.own _) (.cons (.own _) (.cons (.own _) .nil))))), rfl, rfl, hd', kA, ?_⟩
    refine ⟨_, rfl, rfl, rfl, d, _, .int ((4000 : Nat) : Int), rfl, hd', rfl, rfl, _, rfl, ?_⟩
    refine iteT ?_
    refine ⟨_, rfl, _, _, true, d, _, rfl, .ty "OverflowError", rfl, rfl, hd', G.oe, _, rfl, ?_⟩
    refine iteT ?_
    refine ⟨_, rfl, _, rfl, ?_⟩
    exact k _ (s2.trans st)
end
end Js

set_option Elab.async false
set_option linter.all false
set_option maxRecDepth 100000
set_option maxHeartbeats 2000000
/-! for c in reversed(text) -/
namespace JsLow
open PySem PySem.Spec PyProof.Rows RT
theorem norev_str : typeLookup (.type "str") "__reversed__" = pure none := by rw [typeLookup_type, builtinLookup_eq_fast]; kernel_rfl
theorem sub_str_dict : isSubtype (.type "str") (.type "dict") = pure false := by rw [isSubtype_type]; kernel_rfl
def rsObj (z : Str) (t : Tok) (i : Int) : Obj := { cls := .type "reversed", data := .fields #[.str z t, rawInt i] }
/-- reversed(z), the next place i -/
def IsRs (h : Heap) (a : Addr) (z : Str) (t : Tok) (i : Int) : Prop := ∃ o, h.get? a = some o ∧ o.cls = .type "reversed" ∧ o.data = .fields #[.str z t, rawInt i]
section
variable {prog : Program} {w : World} {A : Around} {E : Value → Shared → Prop} {s : Shared} {z : Str} {t : Tok} {it : Addr}
theorem IsRs.typeIs {i : Int} (x : IsRs s.heap it z t i) : s.TypeIs (.ref it) "reversed" := let ⟨o, ho, hc, _⟩ := x; ⟨o, ho, hc⟩
theorem new_rs {Q₁ : Value → Shared → Prop} (hz : z.length ≤ sizeLine)
    (h : ∀ tk, Q₁ (.ref s.heap.objs.size) { s with heap := s.heap.push (rsObj z t ((z.length : Int) - 1)), toks := tk }) :
    codeAny (model prog w) A (.call (.builtin "reversed.__new__") ⟨[.type "reversed", .str z t], []⟩) (wants Q₁ E) s := by
  have hT : s.TypeIs (.str z t) "str" := typeIs_str s z t
  have hg := slot_str_getitem.lookup
  have hn := L2.line63
  refine codeAny_of_tree ?_
  show wpAny _ A.in1 (do checkBuiltinCall "reversed.__new__" ⟨[.type "reversed", .str z t], []⟩; again (.builtin "reversed.__new__" ⟨[.type "reversed", .str z t], []⟩)) _ _ s
  refine wpAny_bind (wpAny_of_eq (F.newCall_reversed_1 _) (wpAny_pure ⟨plainId_quiet F.plain_reversed_new _, codeAny_builtin F.entry_reversed_new ?_⟩))
  rw [Around.under_plainId F.plain_reversed_new _]
  unfold Builtin.«reversed.__new__»
  refine wpAny_bind (wpAny_of_eq (newClass_reversed _) (wpAny_bind (wpAny_of_eq (a := ()) (by first | rfl | kernel_rfl) (wpAny_bind (wpAny_of_eq (a := ()) (by first | rfl | kernel_rfl) ?_)))))
  refine wpAny_bind (wpAny_specialOf hT norev_str (wpAny_bind ?_))
  wp_delta
  refine wpAny_bind (wpAny_isInstance (T := "str") (U := "dict") (b := false) hT sub_str_dict ?_)
  try dsimp only
  try rw [if_neg Bool.false_ne_true]
  try dsimp only
  refine wpAny_bind (wpAny_specialOf hT hg ?_)
  try dsimp only
  try rw [if_pos (by decide +kernel)]
  refine wpAny_pure ?_
  try dsimp only
  try rw [if_neg (by decide)]
  try dsimp only
  have hl : ((z.length : Nat) : Int) < 9223372036854775808 := by omega
  refine wpAny_bind (len_str (by omega) (wpAny_bind (wpAny_of_eq (a := some ((z.length : Nat) : Int)) rfl ?_)))
  try dsimp only
  refine wpAny_bind ?_
  show wpAny _ _ (newObj (.type "reversed") (.fields #[.str z t, rawInt ((z.length : Int) - 1)])) _ _ _
  exact wpAny_newObj_type (wpAny_pure (h _))
theorem call_rs {Q : Value → Shared → Prop} (hz : z.length ≤ sizeLine) (h : ∀ tk, Q (.ref s.heap.objs.size) { s with heap := s.heap.push (rsObj z t ((z.length : Int) - 1)), toks := tk }) : wpAny (model prog w) A (call (.type "reversed") [.str z t]) Q E s := by
  have first := new_rs (prog := prog) (w := w) (A := A.in1) (E := E) (s := s) (t := t) (Q₁ := fun obj s₁ => s₁.TypeIs obj "reversed" ∧ Q obj s₁) hz fun tk => ⟨⟨_, Heap.get?_push_size _ rfl, rfl⟩, h tk⟩
  refine callType_codes called_rt (F.typeCall_reversed_1 _) F.entry_object_init first fun obj s₁ hh => ⟨hh.1, F.args_object_init_2 obj _, ?_⟩
  exact object_init_meets called_rt.init.lookup called_rt.made (by decide) prog w A.in1 _ s₁ ⟨hh.1, rfl, hh.2⟩
theorem next_rs {i : Nat} {c : Nat} {Q : Option Value → Shared → Prop} (hit : IsRs s.heap it z t (i : Int)) (hx : z.cps[i]? = some c) (hz : z.length ≤ sizeLine)
    (hQ : ∀ h' tk tk', IsRs h' it z t ((i : Int) - 1) → Heap.SameBut it s.heap h' → Q (some (.str ⟨#[c]⟩ tk)) { s with heap := h', toks := tk' }) : wpAny (model prog w) A (pyNext (.ref it)) Q E s := by
  obtain ⟨o, ho, hc, hd⟩ := id hit
  have hi : i < z.cps.size := (Array.getElem?_eq_some_iff.mp hx).1
  have hi' : i < z.length := hi
  have hn := L2.line63
  have hT : s.TypeIs (.str z t) "str" := typeIs_str s z t
  have hg := slot_str_getitem.lookup
  have fin : seqIndex? (i : Int) z.length = some i := seqIndex_of (by omega) (by omega)
  unfold pyNext
  refine wpAny_bind (wpAny_attempt (wpAny_callSpecial?_slot (name := Str.ofString "__next__") hit.typeIs slot_rt_next (wpAny_call_entry slot_rt_next hit.typeIs entry_rt_next ?_ (args_rt_next _))))
  unfold Builtin.«reversed.__next__»
  refine wpAny_bind (wpAny_of_eq (a := (Value.ref it, [])) rfl (wpAny_bind (wpAny_field ho hd (x := .str z t) rfl (wpAny_bind (wpAny_field ho hd (x := rawInt (i : Int)) rfl ?_)))))
  show wpAny _ _ (if (i : Int) < 0 then _ else _) _ _ s
  rw [if_neg (by omega)]
  refine wpAny_bind (wpAny_specialOf hT hg ?_)
  try dsimp only
  try rw [if_neg (by decide)]
  try dsimp only
  refine wpAny_bind (wpAny_mkInt (wpAny_bind (wpAny_attempt ?_)))
  refine getItem_str (c := c) ?_ (by rw [fin]; exact hx) ?_
  · rw [decide_eq_false (by omega), decide_eq_false (by omega)]
    rfl
  · try dsimp only
    refine wpAny_bind (wpAny_field ho hd (x := rawInt (i : Int)) rfl ?_)
    try dsimp only
    refine wpAny_bind (wpAny_setField ho hd (by simp) ?_)
    have back : ∀ f, IsRs (s.heap.update it (Obj.mapFields (·.setIfInBounds 1 (rawInt ((i : Int) - 1))))) it z t ((i : Int) - 1) ∨ f = true := fun f => .inl ⟨_, Heap.get?_update_self _ ho (Obj.isFreed_of_fields (Obj.data_mapFields hd _)), (Obj.cls_mapFields ..).trans hc, by rw [Obj.data_mapFields hd]; simp⟩
    have back' := (back false).resolve_right (by decide)
    first
    | exact wpAny_pure ⟨_, rfl, wpAny_pure (hQ _ _ _ back' (Heap.SameBut.update ..))⟩
    | exact wpAny_bind (wpAny_pure (wpAny_pure ⟨_, rfl, wpAny_pure (hQ _ _ _ back' (Heap.SameBut.update ..))⟩))
theorem next_rs_end {Q : Option Value → Shared → Prop} (hh : A.handled = none) (hit : IsRs s.heap it z t (-1)) (hQ : ∀ h', Heap.ExtBut it s.heap h' → Q none { s with heap := h' }) : wpAny (model prog w) A (pyNext (.ref it)) Q E s := by
  obtain ⟨o, ho, hc, hd⟩ := id hit
  unfold pyNext
  refine wpAny_bind (wpAny_attempt (wpAny_callSpecial?_slot (name := Str.ofString "__next__") hit.typeIs slot_rt_next (wpAny_call_entry slot_rt_next hit.typeIs entry_rt_next ?_ (args_rt_next _))))
  unfold Builtin.«reversed.__next__»
  refine wpAny_bind (wpAny_of_eq (a := (Value.ref it, [])) rfl (wpAny_bind (wpAny_field ho hd (x := .str z t) rfl (wpAny_bind (wpAny_field ho hd (x := rawInt (-1)) rfl ?_)))))
  show wpAny _ _ (if (-1 : Int) < 0 then _ else _) _ _ s
  rw [if_pos (by decide)]
  refine wpAny_bind (wpAny_rule (wpAny_bind ?_))
  wp_delta
  have h2 := Heap.get?_update_self (Obj.mapFields (·.setIfInBounds 1 (rawInt (-1)))) ho (Obj.isFreed_of_fields (Obj.data_mapFields hd _))
  refine wpAny_bind (wpAny_setField ho hd (by simp) (wpAny_setField (s := { s with heap := s.heap.update it (Obj.mapFields (·.setIfInBounds 1 (rawInt (-1)))) }) h2 (Obj.data_mapFields hd _) (by simp) ?_))
  try dsimp only
  first
  | show wpAny _ _ (newExc (.type "StopIteration") [] >>= _) _ _ _
  | (refine wpAny_bind ?_; show wpAny _ _ (newExc (.type "StopIteration") [] >>= _) _ _ _)
  | (refine wpAny_bind ?_; wp_delta; show wpAny _ _ (newExc (.type "StopIteration") [] >>= _) _ _ _)
  simp only [newExc, newTuple, raiseNew]
  refine wpAny_bind (wpAny_bind (wpAny_newObj_type (wpAny_bind (m := firstArgMember _ _) (wpAny_of_eq (a := Value.none) (by first | rfl | (simp only [firstArgMember]; rfl)) (wpAny_newObj_type ?_ (by size_fits)))) (by size_fits)))
  refine wpAny_bind (wpAny_handled ?_)
  first | rw [show A.in1.handled = none from hh] | rw [hh]
  refine wpAny_bind (wpAny_pure (wpAny_throw ?_)); refine wpAny_bind (wpAny_isInstance (T := "StopIteration") (b := true) ⟨_, Heap.get?_push_size _ rfl, rfl⟩ isSubtype_stop (wpAny_pure (hQ _ ?_)))
  dsimp only
  refine ((?_ : Heap.ExtBut it s.heap _).push _).push _; intro b ob hb e
  rw [Heap.get?_update_other _ _ (Ne.symm hb), Heap.get?_update_other _ _ (Ne.symm hb)]
  exact e
theorem iter_rs {i : Int} {Q : Value → Shared → Prop} (hit : IsRs s.heap it z t i) (h : Q (.ref it) s) : wpAny (model prog w) A (pyIter (.ref it)) Q E s := by
  refine wpAny_pyIter_slot hit.typeIs slot_rt_iter (wpAny_call_entry slot_rt_iter hit.typeIs entry_rt_iter ?_ (args_rt_iter _))
  show wpAny _ _ (ret (.ref it)) _ _ s
  exact wpAny_pure ⟨_, rfl, "reversed", _, hit.typeIs, slot_rt_next.lookup, h⟩
end
end JsLow
namespace Js
open PySem PySem.Spec PyProof.Rows L2 JsLow
/-- the signs of z from its end -/
def Itrs (z : Str) : It := ⟨fun i _ => i < z.cps.size, fun i H v H' => H' = H ∧ ∃ c, z.cps[z.cps.size - 1 - i]? = some c ∧ v = .str ⟨#[c]⟩, fun i _ => z.cps.size ≤ i⟩
theorem turn_rs {P : Program} {w : World} {K : PySem.W.Frag} {tg : Expr} (it : Addr) (z : Str) (t : Tok) (hz : z.length ≤ sizeLine) : Turn P w K tg (Itrs z) [it] it (fun i h => i ≤ z.cps.size ∧ IsRs h it z t ((z.cps.size : Int) - 1 - (i : Nat))) where
  mem := by simp
  obj := fun i h st b hb => by
    cases (show b = it by simpa using hb)
    obtain ⟨_, o, e, c, d⟩ := st
    exact ⟨o, e, fun v y => nomatch (d.symm.trans y)⟩
  keep := fun i h h' st k => ⟨st.1, by
    obtain ⟨o, e, r⟩ := st.2
    exact ⟨o, k it (by simp) o e, r⟩⟩
  item := by
    intro X hP hw hK hc i pins s σ H E I hf st hg
    subst hP hw hK
    obtain ⟨f0, f1, f2, f3, f4, f5⟩ := hf it (by simp)
    obtain ⟨hin, hit⟩ := st
    have hlt : i < z.cps.size := hg
    have e1 : (z.cps.size : Int) - 1 - ((i : Nat) : Int) = ((z.cps.size - 1 - i : Nat) : Int) := by omega
    rw [e1] at hit
    obtain ⟨c, hx⟩ : ∃ c, z.cps[z.cps.size - 1 - i]? = some c := ⟨_, Array.getElem?_eq_getElem (by omega)⟩
    refine next_rs hit hx hz fun h' tk tk' st' sb => ?_
    have e2 : ((z.cps.size - 1 - i : Nat) : Int) - 1 = (z.cps.size : Int) - 1 - ((i + 1 : Nat) : Int) := by omega
    rw [e2] at st'
    have I1 : Inv X pins σ H { s with heap := h', toks := tk' } := I.turned (t' := tk') (fun b o hb e => (sb.2 b hb).trans e) f0 f1 f3 f4 f5
    obtain ⟨o, e, c', d⟩ := id st'
    exact ⟨_, rfl, go_of (s := { s with heap := h', toks := tk' }) e c' d (by decide) ⟨.str ⟨#[c]⟩, H, I1, ⟨_, rfl⟩, ⟨rfl, c, hx, rfl⟩, ⟨hlt, st'⟩, fun b hb => (hf b hb).1⟩⟩
  done := by
    intro X hP hw hK hc i pins s σ H E I hf st hg
    subst hP hw hK
    obtain ⟨f0, f1, f2, f3, f4, f5⟩ := hf it (by simp)
    obtain ⟨hin, hit⟩ := st
    have hge : z.cps.size ≤ i := hg
    have e1 : (z.cps.size : Int) - 1 - ((i : Nat) : Int) = -1 := by omega
    rw [e1] at hit
    exact next_rs_end (I.ok.hd hc) hit fun h' eb => ⟨rfl, I.turned (t' := s.toks) (fun b o hb e => eb b o hb e) f0 f1 f3 f4 f5⟩
  self := fun A i s Q E st h => iter_rs st.2 h
def iRevS (te : TE) : TI := fun σ H R => te σ H fun v H1 => ∃ z : Str, v = .str z ∧ z.length ≤ sizeLine ∧ R (Itrs z) H1
theorem pi_revS {X : Cx} {tg e : Expr} {te : TE} {p pos : Pos} (hg : Gl X "reversed") (hm : X.mg "reversed" = none) (he : PE X e te) (hs : starEach [e] X.env = (false, eval e X.env) :: starEach [] X.env := by rfl) : PI X tg (.Call (.Name "reversed" p) [e] [] pos) (iRevS te) := by
  refine ⟨fun pins s σ H R I h => ?_⟩
  refine Call_ (ld_blt I hg hm PyProof.Rows.boot_reversed (PyProof.Rows.callWith_type1 (args_cons (thn (he.run pins s σ H _ I h) ?_) hs) hs rfl))
  rintro u s1 ⟨v, H1, I1, r1, z, rfl, hz, q⟩
  obtain ⟨t, rfl⟩ := r1
  have e1 : ((z.length : Nat) : Int) - 1 = ((z.cps.size : Nat) : Int) - 1 - ((0 : Nat) : Int) := by
    show ((z.cps.size : Nat) : Int) - 1 = _
    omega
  refine args_nil (call_rs hz fun tk => iter_rs (z := z) (t := t) (i := ((z.length : Nat) : Int) - 1) ⟨_, Heap.get?_push_size _ rfl, rfl, rfl⟩ ?_)
  refine pi_one (tk := tk) I1 _ (turn_rs _ z t hz) ⟨Nat.zero_le _, ?_⟩ q
  rw [← e1]
  exact ⟨_, Heap.get?_push_size _ rfl, rfl, rfl⟩
theorem walk_revS {z : Str} : Walk (Itrs z) z.cps.size (fun _ => True) (fun i H v H' => H' = H ∧ ∃ c, z.cps[z.cps.size - 1 - i]? = some c ∧ v = .str ⟨#[c]⟩) :=
  ⟨fun _ _ hi _ => hi, fun _ _ => Nat.le_refl _, fun _ _ _ _ _ _ y => y⟩
end Js

set_option Elab.async false
set_option linter.all false
set_option maxRecDepth 100000
set_option maxHeartbeats 2000000
namespace Js
open PySem L2
/-! ### a text gone through from its end: the things that stand, the last one first -/
def bstep (c : Nat) (st : List Tr) : List Tr :=
  if c = 46 then .nil :: st else if c = 40 then (match st with
    | a :: b :: r => .pr a b :: r
    | r => r) else st
def back (cs : List Nat) (st : List Tr) : List Tr := cs.foldr bstep st
theorem back_append (a b : List Nat) (st : List Tr) : back (a ++ b) st = back a (back b st) := List.foldr_append
theorem back_codes : ∀ (t : Tr) (st : List Tr), back t.codes st = t :: st
  | .nil, st => rfl
  | .pr l r, st => by
    show bstep 40 (back (l.codes ++ (r.codes ++ [41])) st) = _
    rw [back_append, back_append, back_codes r, back_codes l]
    rfl
theorem back_two : ∀ (t : Tr) (st : List Tr) (p s : List Nat), t.codes = p ++ 40 :: s → ∃ a b r, back s st = a :: b :: r ∧ 1 + a.size + b.size ≤ t.size
  | .nil, st, p, s, h => by
    exfalso
    cases p with
    | nil => simp [Tr.codes] at h
    | cons x p => simp [Tr.codes] at h
  | .pr l r, st, p, s, h => by
    cases p with
    | nil =>
      have e : s = l.codes ++ (r.codes ++ [41]) := by
        simp only [Tr.codes, List.nil_append, List.cons.injEq, true_and] at h
        exact h.symm
      refine ⟨l, r, back [41] st, ?_, by simp only [Tr.size]; omega⟩
      rw [e, back_append, back_append, back_codes, back_codes]
    | cons x p =>
      simp only [Tr.codes, List.cons_append, List.cons.injEq] at h
      obtain ⟨_, h⟩ := h
      rcases List.append_eq_append_iff.mp h with ⟨q, e1, e2⟩ | ⟨q, e1, e2⟩
      · rcases List.append_eq_append_iff.mp e2 with ⟨q', e3, e4⟩ | ⟨q', e3, e4⟩
        · exfalso
          cases q' with
          | nil => simp at e4
          | cons y q' => simp at e4
        · cases q' with
          | nil => simp at e4
          | cons y q' =>
            simp only [List.cons_append, List.cons.injEq] at e4
            obtain ⟨rfl, e4⟩ := e4
            obtain ⟨a, b, r', h1, h2⟩ := back_two r (back [41] st) q q' e3
            exact ⟨a, b, r', by rw [e4, back_append]; exact h1, by simp only [Tr.size]; omega⟩
      · cases q with
        | nil =>
          simp only [List.nil_append] at e2
          cases hr : r.codes with
          | nil =>
            have := Tr.codes_len r
            rw [hr] at this
            simp at this
          | cons y ys =>
            rw [hr] at e2
            simp only [List.cons_append, List.cons.injEq] at e2
            obtain ⟨e5, e6⟩ := e2
            obtain ⟨a, b, r', h1, h2⟩ := back_two r (back [41] st) [] ys (by rw [hr, ← e5]; rfl)
            exact ⟨a, b, r', by rw [e6, back_append]; exact h1, by simp only [Tr.size]; omega⟩
        | cons y q =>
          simp only [List.cons_append, List.cons.injEq] at e2
          obtain ⟨rfl, e2⟩ := e2
          obtain ⟨a, b, r', h1, h2⟩ := back_two l (back (r.codes ++ [41]) st) p q e1
          exact ⟨a, b, r', by rw [e2, back_append]; exact h1, by simp only [Tr.size]; omega⟩
theorem bstep_len (c : Nat) (st : List Tr) : (bstep c st).length ≤ st.length + 1 := by
  unfold bstep
  split
  · simp
  · split
    · split
      · simp
      · omega
    · omega
theorem back_len : ∀ (cs : List Nat) (st : List Tr), (back cs st).length ≤ st.length + cs.length
  | [], st => by simp [back]
  | c :: cs, st => by
    have h1 := bstep_len c (back cs st)
    have h2 := back_len cs st
    show (bstep c (back cs st)).length ≤ _
    simp only [List.length_cons]
    omega
theorem paired_unsnoc {α β : Type} {F : α → β → Prop} : ∀ {xs : List α} {ys : List β} {y : β}, Paired F xs (ys ++ [y]) → ∃ xs' x, xs = xs' ++ [x] ∧ Paired F xs' ys ∧ F x y
  | _, [], y, .cons h .nil => ⟨[], _, rfl, .nil, h⟩
  | _, _ :: ys, y, .cons h t => by
    obtain ⟨xs', x, e, h1, h2⟩ := paired_unsnoc t
    exact ⟨_ :: xs', x, by rw [e]; rfl, .cons h h1, h2⟩
/-! ### Thing(first=.., second=..) -/
def tTK (C : Addr) (tk : TA) : TE := fun σ H Q => tk σ H fun zs H1 => ∃ a b t u, zs = [.ref a, .ref b] ∧ Th C H1 a t ∧ Th C H1 b u ∧ 1 + t.size + u.size ≤ 4000 ∧ ∀ z H', Same H1 H' → H1 z = none → Th C H' z (.pr t u) → Q (.ref z) H'
section
open PyProof.Rows
variable {X : Cx} {C fI : Addr} {fdI : FuncData} {p pos : Pos} {kws : List Keyword} {tk : TA} {g : List Value → List Value → List Value}
theorem pe_TK (mk : Maker X.prog X.w X.K X.mg X.base C fI fdI) (hb : KBn X.K fdI ["self", "first", "second"] 1 ["first", "second"] g (fun vs zs => vs ++ zs)) (hr : Room 3 X.A) (hg : Gl X "Thing") (hkw : PK X kws tk)
    (hall : (backToKw pos (keywordEach kws X.env)).all (·.1.isSome) = true := by rfl) (hks : (backToKw pos (keywordEach kws X.env)).filterMap (·.1) = (["first", "second"] : List Str) := by rfl)
    (hpl : ((backTo pos (starEach [] X.env)).any (·.1) || (backToKw pos (keywordEach kws X.env)).any (·.1.isNone)) = false := by rfl) : PE X (.Call (.Name "Thing" p) [] kws pos) (tTK C tk) := by
  refine ⟨fun pins s σ H Q I h => ?_⟩
  refine wpAny_Call_Name_kw (ld_glob I hg mk.mgC ?_ (by decide))
  refine PySem.W.callWith_KW0 (h₀ := X.base) I.ok.mod.kin mk.M.kp hall (thn (hkw.run pos pins s σ H _ I h) ?_) hpl
  rintro ws s2 ⟨zs, H2, I2, rz, a, b, t, u, rfl, h1, h2, hz, k⟩
  refine ⟨I2.kIn, ?_⟩
  rw [hks]
  exact run_makeK (us := []) (vs := []) mk.M mk.G hr hb pass0 I2 .nil rz rfl rfl (mk_pr h1 h2 hz k)
end
abbrev sAgain : Stmt := top 18
def spAgain (C : Addr) : Sp := fun vs H Q _ => ∃ t : Tr, vs = [.str t.text] ∧ t.size ≤ 4000 ∧ ∀ a H', Same H H' → Th C H' a t → Q (.ref a) H'
section
variable {P : Program} {w : World} {K : PySem.W.Frag} {mg : Str → Option Value} {base : Heap} {C fI : Addr} {fdI : FuncData} {g : List Value → List Value → List Value}
theorem scAg : FnScope ["_law_text", "_law_some", "_law_sign", "_law_ahead"] ["_law_text"] (defScope sAgain) := ⟨rfl, rfl, rfl, by decide +kernel, rfl, by decide +kernel, by decide +kernel⟩
theorem ok_again {f : Addr} {fd : FuncData} (F : Fun K "_law_again" "_law_again" sAgain f fd) (mrev : mg "reversed" = none) (mk : Maker P w K mg base C fI fdI) (kb : KBn K fdI ["self", "first", "second"] 1 ["first", "second"] g (fun vs zs => vs ++ zs)) : FnOk P w K mg base CX0 4 f fd ["_law_text"] (spAgain C) := by
  refine F.ok scAg (fun vs H Q E h => ?_) (fun cdv A outer s H vs Q E hr h => ?_)
  · obtain ⟨t, rfl, _⟩ := h
    rfl
  · obtain ⟨t, rfl, hz, k⟩ := h
    refine ⟨_, pss_cons (ps_set (i := 1) scAg.nd rfl (Or.inl rfl) (pe_lst pa_nil)) (pss_cons (ps_for PassesOwn.never rfl (pi_revS rfl mrev (pv 0)) (pg_name (i := 2) scAg.nd rfl (Or.inl rfl)) (pss_one (ps_if (pt_cmpR op_eq (pv 2) pe_str (nomark _)) (pss_one (ps_expr (pe_bm PySem.F.plainAttrs_list PySem.F.slot_list_append PySem.F.type_list_append mt_append (pv 1) (pa_cons (pe_T0 mk hr rfl) pa_nil)))) (pss_one (ps_if (pt_cmpR op_eq (pv 2) pe_str (nomark _)) (pss_cons (ps_set (i := 3) scAg.nd rfl (Or.inl rfl) (pe_bm0 PySem.F.plainAttrs_list PySem.F.slot_list_pop PySem.F.type_list_pop mt_pop (pv 1))) (pss_one (ps_expr (pe_bm PySem.F.plainAttrs_list PySem.F.slot_list_append PySem.F.type_list_append mt_append (pv 1) (pa_cons (pe_TK mk kb hr rfl (pk_cons (pv 3) (pk_cons (pe_bm0 PySem.F.plainAttrs_list PySem.F.slot_list_pop PySem.F.type_list_pop mt_pop (pv 1)) pk_nil))) pa_nil))))) pss_nil))))) (pss_one (ps_ret (pe_ix ix_list (pv 1) pe_int (fun _ _ => rfl))))), ?_⟩
    have hsl := line4
    have hcl := Tr.codes_len t
    have hn : t.text.cps.size = t.codes.length := by
      show t.codes.toArray.size = _
      rw [List.size_toArray]
    refine ⟨Nat.zero_le _, fun D nD => ?_⟩
    refine ⟨_, rfl, t.text, rfl, by show t.text.cps.size ≤ _; omega, for_it (walk_revS (z := t.text)) (fun i σ H' => ∃ (x2 x3 : Option V) (vs : List V), σ = [some (.str t.text), some (.ref D), x2, x3] ∧ Same H H' ∧ H' D = some (.lst vs) ∧ Paired (ThV C H') vs (back (t.codes.drop (t.codes.length - i)) []).reverse)
      ⟨none, none, [], rfl, Same.new nD, upd_same, by simp [back]; exact .nil⟩ (fun _ _ _ _ _ => trivial) ?_ ?_⟩
    · rintro i x σ H0 H1 hi ⟨x2, x3, vs, rfl, s1, hD, hp⟩ ⟨rfl, c, hc, rfl⟩
      have hi' : i < t.codes.length := by rw [← hn]; exact hi
      have hgc : t.codes[t.codes.length - 1 - i]? = some c := by
        rw [← hc, ← Array.getElem?_toList, Tr.text_list, hn]
      have hlt : t.codes.length - 1 - i < t.codes.length := by omega
      have hdr : t.codes.drop (t.codes.length - (i + 1)) = c :: t.codes.drop (t.codes.length - i) := by
        have e1 : t.codes.length - (i + 1) = t.codes.length - 1 - i := by omega
        have e2 : t.codes.length - i = t.codes.length - 1 - i + 1 := by omega
        rw [e1, e2, List.drop_eq_getElem_cons hlt]
        rw [List.getElem?_eq_getElem hlt] at hgc
        rw [Option.some.inj hgc]
      have hbk : back (t.codes.drop (t.codes.length - (i + 1))) [] = bstep c (back (t.codes.drop (t.codes.length - i)) []) := by rw [hdr]; rfl
      have hsp : t.codes = t.codes.take (t.codes.length - (i + 1)) ++ c :: t.codes.drop (t.codes.length - i) := by rw [← hdr, List.take_append_drop]
      have hbl := back_len (t.codes.drop (t.codes.length - i)) []
      rw [List.length_drop, List.length_nil] at hbl
      have hvl := Paired.length hp
      rw [List.length_reverse] at hvl
      have hcs := codes_sign t c (List.mem_of_getElem? hgc)
      rw [hbk]
      refine ⟨_, rfl, rfl, _, rfl, ?_⟩
      rcases hcs with rfl | rfl | rfl
      · have e1 : decide (V.str ⟨#[46]⟩ = V.str ".") = true := by decide +kernel
        rw [e1]
        refine iteT ?_
        refine ⟨_, rfl, .inl ⟨rfl, _, SqL.of hD⟩, fun z H5 s5 _ h5 => ?_⟩
        have hD5 := s5 _ _ hD
        refine ⟨D, vs, _, rfl, rfl, hD5, by omega, ?_⟩
        have k5 : KT H1 (upd H5 D (.lst (vs ++ [.ref z]))) := (KT.of s5).trans (KT.lst hD5)
        refine ⟨_, _, _, rfl, (s1.trans s5).set nD, upd_same, ?_⟩
        have e2 : (bstep 46 (back (t.codes.drop (t.codes.length - i)) [])).reverse = (back (t.codes.drop (t.codes.length - i)) []).reverse ++ [Tr.nil] := by simp [bstep]
        rw [e2]
        exact paired_snoc (ths_kt k5 hp) ⟨z, rfl, h5.kt (KT.lst hD5)⟩
      · have e1 : decide (V.str ⟨#[40]⟩ = V.str ".") = false := by decide +kernel
        rw [e1]
        refine iteF ?_
        refine ⟨_, rfl, rfl, _, rfl, ?_⟩
        have e2 : decide (V.str ⟨#[40]⟩ = V.str "(") = true := by decide +kernel
        rw [e2]
        refine iteT ?_
        obtain ⟨ta, tb, r, hst, hsz⟩ := back_two t [] _ _ hsp
        rw [hst] at hp hvl hbl ⊢
        have e3 : (ta :: tb :: r).reverse = (r.reverse ++ [tb]) ++ [ta] := by simp
        rw [e3] at hp
        obtain ⟨vs1, va, rfl, hp1, hva⟩ := paired_unsnoc hp
        obtain ⟨vs2, vb, rfl, hp2, hvb⟩ := paired_unsnoc hp1
        simp only [List.length_append, List.length_singleton, List.length_cons] at hvl hbl
        refine ⟨_, rfl, .inl ⟨rfl, _, SqL.of hD⟩, D, _, va, rfl, rfl, hD, by simp, ?_⟩
        rw [List.dropLast_concat]
        have hD3 : (upd H1 D (.lst (vs2 ++ [vb]))) D = some (.lst (vs2 ++ [vb])) := upd_same
        refine ⟨_, rfl, .inl ⟨rfl, _, SqL.of hD3⟩, _, rfl, _, rfl, .inl ⟨rfl, _, SqL.of hD3⟩, D, _, vb, rfl, rfl, hD3, by simp, ?_⟩
        rw [List.dropLast_concat, upd_upd]
        have k4 : KT H1 (upd H1 D (.lst vs2)) := KT.lst hD
        have hD4 : (upd H1 D (.lst vs2)) D = some (.lst vs2) := upd_same
        obtain ⟨aa, rfl, ha⟩ := hva.kt k4
        obtain ⟨ab, rfl, hb⟩ := hvb.kt k4
        refine ⟨aa, ab, ta, tb, rfl, ha, hb, by omega, fun z H5 s5 _ h5 => ?_⟩
        have hD5 := s5 _ _ hD4
        refine ⟨D, vs2, _, rfl, rfl, hD5, by omega, ?_⟩
        have k5 : KT H1 (upd H5 D (.lst (vs2 ++ [.ref z]))) := (k4.trans (KT.of s5)).trans (KT.lst hD5)
        refine ⟨_, _, _, rfl, ((s1.set nD).trans s5).set nD, upd_same, ?_⟩
        have e4 : (bstep 40 (ta :: tb :: r)).reverse = r.reverse ++ [Tr.pr ta tb] := by simp [bstep]
        rw [e4]
        exact paired_snoc (ths_kt k5 hp2) ⟨z, rfl, h5.kt (KT.lst hD5)⟩
      · have e1 : decide (V.str ⟨#[41]⟩ = V.str ".") = false := by decide +kernel
        rw [e1]
        refine iteF ?_
        refine ⟨_, rfl, rfl, _, rfl, ?_⟩
        have e2 : decide (V.str ⟨#[41]⟩ = V.str "(") = false := by decide +kernel
        rw [e2]
        refine iteF ?_
        exact ⟨_, _, vs, rfl, s1, hD, hp⟩
    · rintro σ H1 ⟨x2, x3, vs, rfl, s1, hD, hp⟩
      have e0 : back (t.codes.drop (t.codes.length - t.text.cps.size)) [] = [t] := by
        rw [hn, Nat.sub_self, List.drop_zero]
        exact back_codes t []
      rw [e0] at hp
      cases hp with
      | @cons v _ vs _ hv hvs =>
      cases hvs
      obtain ⟨a, rfl, ha⟩ := hv
      exact ⟨_, rfl, D, _, _, .ref a, rfl, rfl, SqL.of hD, rfl, k a H1 s1 ha⟩
end
end Js

set_option Elab.async false
set_option linter.all false
set_option maxRecDepth 100000
set_option maxHeartbeats 2000000
namespace Js
open PySem L2
abbrev sSize : Stmt := top 19
/-- the things known by their sizes -/
structure Kn (C : Addr) (H : Hp) (kvs : List (Key × V)) : Prop where
  nil : (valV kvs (.inl 0)).isSome = true
  all : ∀ (n : Int) (v : V), valV kvs (.inl n) = some v → ∃ (m : Nat) (a : Addr) (t : Tr), n = (m : Nat) ∧ v = .ref a ∧ Th C H a t ∧ t.size = m
theorem th_kb {C p : Addr} {H H' : Hp} {kvs : List (Key × V)} (hp : H p = some (.dK kvs)) (k : KB p H H') : ∀ {a : Addr} {t : Tr}, Th C H a t → Th C H' a t
  | _, _, .nil h => .nil (k _ _ (fun z => by rw [z, hp] at h; cases h) h)
  | _, _, .pr h hl hr => .pr (k _ _ (fun z => by rw [z, hp] at h; cases h) h) (th_kb hp k hl) (th_kb hp k hr)
def spSize (C : Addr) (j : Nat) : Sp := fun vs H Q _ => ∃ (m : Nat) (p : Addr) (kvs : List (Key × V)), vs = [.int (m : Nat), .ref p] ∧ H p = some (.dK kvs) ∧ Kn C H kvs ∧ kvs.length + 2 ^ j ≤ 50000 ∧ m < 2 ^ j ∧ m ≤ 4000 ∧
  ∀ a t kvs' H', KB p H H' → H' p = some (.dK kvs') → Kn C H' kvs' → kvs'.length + 1 ≤ kvs.length + 2 ^ j → Th C H' a t → t.size = m → Q (.ref a) H'
section
open PyProof.Rows
variable {X : Cx} {C fI : Addr} {fdI : FuncData} {p pos : Pos} {e : Expr} {es : List Expr} {kws : List Keyword} {t tk : TA} {g : List Value → List Value → List Value}
/-- Thing(x, second=y) -/
def tTP (C : Addr) (t tk : TA) : TE := fun σ H Q => t σ H fun vs H1 => tk σ H1 fun zs H2 => ∃ a b t u, vs = [.ref a] ∧ zs = [.ref b] ∧ Th C H2 a t ∧ Th C H2 b u ∧ 1 + t.size + u.size ≤ 4000 ∧ ∀ z H', Same H2 H' → H2 z = none → Th C H' z (.pr t u) → Q (.ref z) H'
theorem pe_TP (mk : Maker X.prog X.w X.K X.mg X.base C fI fdI) (hb : KBn X.K fdI ["self", "first", "second"] 2 ["second"] g (fun vs zs => vs ++ zs)) (hr : Room 3 X.A) (hg : Gl X "Thing") (ha : PA X (e :: es) t) (hkw : PK X kws tk)
    (hall : (backToKw pos (keywordEach kws X.env)).all (·.1.isSome) = true := by rfl) (hks : (backToKw pos (keywordEach kws X.env)).filterMap (·.1) = (["second"] : List Str) := by rfl)
    (he : starEach (e :: es) X.env = (false, eval e X.env) :: starEach es X.env := by rfl)
    (hpl : ((backTo pos (starEach (e :: es) X.env)).any (·.1) || (backToKw pos (keywordEach kws X.env)).any (·.1.isNone)) = false := by rfl) : PE X (.Call (.Name "Thing" p) (e :: es) kws pos) (tTP C t tk) := by
  refine ⟨fun pins s σ H Q I h => ?_⟩
  refine wpAny_Call_Name_kw (ld_glob I hg mk.mgC ?_ (by decide))
  refine PySem.W.callWith_KW (h₀ := X.base) I.ok.mod.kin mk.M.kp hall (thn (ha.run pos pins s σ H _ I h) ?_) hpl he
  rintro us s1 ⟨vs, H1, I1, r, q⟩
  refine thn (hkw.run pos pins s1 σ H1 _ I1 q) ?_
  rintro ws s2 ⟨zs, H2, I2, rz, a, b, t, u, rfl, rfl, h1, h2, hz, k⟩
  refine ⟨I2.kIn, ?_⟩
  rw [hks]
  exact run_makeK (n := 1) mk.M mk.G hr hb pass0 I2 r rz rfl rfl (mk_pr h1 h2 hz k)
end
section
variable {P : Program} {w : World} {K : PySem.W.Frag} {mg : Str → Option Value} {base : Heap} {C fI : Addr} {fdI : FuncData} {g : List Value → List Value → List Value}
theorem scSz : FnScope ["_law_many", "_law_known", "_law_half"] ["_law_many", "_law_known"] (defScope sSize) := ⟨rfl, rfl, rfl, by decide +kernel, rfl, by decide +kernel, by decide +kernel⟩
theorem ok_size {f : Addr} {fd : FuncData} (F : Fun K "_law_of_size" "_law_of_size" sSize f fd) (mgf : mg "_law_of_size" = some (.ref f)) (b : Binds K fd ["_law_many", "_law_known"] []) (mk : Maker P w K mg base C fI fdI) (kb2 : KBn K fdI ["self", "first", "second"] 2 ["second"] g (fun vs zs => vs ++ zs)) :
    ∀ j, FnOk P w K mg base CX0 (j + 4) f fd ["_law_many", "_law_known"] (spSize C j) := by
  intro j
  induction j with
  | zero =>
    refine F.ok scSz (fun vs H Q E h => ?_) (fun cdv A outer s H vs Q E hr h => ?_)
    · obtain ⟨m, p, kvs, rfl, _⟩ := h
      rfl
    · obtain ⟨m, p, kvs, rfl, hp, hK, hlen, hm, hm4, k⟩ := h
      have hu : (A.deeper (PyProof.Rows.envOfC "_law_of_size" (defScope sSize) s.heap.objs.size f cdv)).units + 1 < cLine := by
        have := hr.un
        omega
      refine ⟨_, pss_cons (ps_if (pt_cmp (pc_dnotin hu (pv 0) (pv 1))) (pss_cons ps_never (pss_one ps_never)) pss_nil) (pss_one (ps_ret (pe_dget hu (pv 1) (pv 0) (fun _ _ => rfl)))), ?_⟩
      obtain ⟨v, hv⟩ := Option.isSome_iff_exists.mp hK.nil
      have hm0 : m = 0 := by simpa using hm
      subst hm0
      obtain ⟨m', a, t, e1, rfl, ha, hs⟩ := hK.all _ _ hv
      have g0 : DGet H p (.int ((0 : Nat) : Int)) (some (.ref a)) := hv ▸ DGet.k (k := .inl 0) hp
      refine ⟨_, rfl, _, rfl, p, _, rfl, g0, _, rfl, iteF ?_⟩
      exact ⟨_, rfl, _, rfl, p, _, rfl, g0, k a t kvs H (KB.refl p H) hp hK (by simp) ha (by omega)⟩
  | succ j G =>
  refine F.ok scSz (fun vs H Q E h => ?_) (fun cdv A outer s H vs Q E hr h => ?_)
  · obtain ⟨m, p, kvs, rfl, _⟩ := h
    rfl
  · obtain ⟨m, p, kvs, rfl, hp, hK, hlen, hm, hm4, k⟩ := h
    have hr3 : Room 3 _ := hr.mono (by omega)
    have hu : (A.deeper (PyProof.Rows.envOfC "_law_of_size" (defScope sSize) s.heap.objs.size f cdv)).units + 1 < cLine := by
      have := hr.un
      omega
    refine ⟨_, pss_cons (ps_if (pt_cmp (pc_dnotin hu (pv 0) (pv 1))) (pss_cons (ps_set (i := 2) scSz.nd rfl (Or.inl rfl) (pe_op op_fdiv (pe_op op_sub (pv 0) pe_int) pe_int)) (pss_one (ps_dput hu (pv 1) (pv 0) (pe_TP mk kb2 hr3 rfl (pa_cons (pe_call G hr rfl mgf F.kp b .nil pass0 (pa_cons (pv 2) (pa_cons (pv 1) pa_nil))) pa_nil) (pk_cons (pe_call G hr rfl mgf F.kp b .nil pass0 (pa_cons (pe_op op_sub (pe_op op_sub (pv 0) pe_int) (pv 2)) (pa_cons (pv 1) pa_nil))) pk_nil)) (by rfl)))) pss_nil) (pss_one (ps_ret (pe_dget hu (pv 1) (pv 0) (fun _ _ => rfl)))), ?_⟩
    have hsl := line4
    have hpow : 2 ^ (j + 1) = 2 * 2 ^ j := by rw [Nat.pow_succ]; omega
    have hq := Nat.two_pow_pos j
    rw [hpow] at hlen hm k
    revert hlen hm k hq
    generalize hqq : 2 ^ j = q
    intro hlen hm k hq
    cases hv : valV kvs (.inl ((m : Nat) : Int)) with
    | some v =>
      obtain ⟨m', a, t, e1, rfl, ha, hs⟩ := hK.all _ _ hv
      have g0 : DGet H p (.int ((m : Nat) : Int)) (some (.ref a)) := hv ▸ DGet.k (k := .inl ((m : Nat) : Int)) hp
      refine ⟨_, rfl, _, rfl, p, _, rfl, g0, _, rfl, iteF ?_⟩
      exact ⟨_, rfl, _, rfl, p, _, rfl, g0, k a t kvs H (KB.refl p H) hp hK (by omega) ha (by omega)⟩
    | none =>
      have hm1 : m ≠ 0 := fun z => by
        rw [z] at hv
        have := hK.nil
        rw [show (0 : Int) = ((0 : Nat) : Int) from rfl, hv] at this
        cases this
      have g0 : DGet H p (.int ((m : Nat) : Int)) none := hv ▸ DGet.k (k := .inl ((m : Nat) : Int)) hp
      refine ⟨_, rfl, _, rfl, p, _, rfl, g0, _, rfl, iteT ?_⟩
      refine ⟨_, rfl, _, _, rfl, rfl, _, _, rfl, rfl, ⟨by decide, by decide⟩, ?_⟩
      have e : (((m : Nat) : Int) - 1) / 2 = (((m - 1) / 2 : Nat) : Int) := by omega
      have hh1 : (m - 1) / 2 < q := by omega
      have hh2 : m - 1 - (m - 1) / 2 < q := by omega
      refine ⟨_, rfl, _, rfl, (m - 1) / 2, p, kvs, by rw [← e]; rfl, hp, hK, by rw [hqq]; omega, by rw [hqq]; exact hh1, by omega, fun a1 t1 kvs1 H1 k1 hp1 hK1 hl1 ha1 hs1 => ?_⟩
      rw [hqq] at hl1
      refine ⟨_, rfl, _, _, rfl, rfl, _, rfl, _, _, rfl, rfl, _, rfl, m - 1 - (m - 1) / 2, p, kvs1, ?_, hp1, hK1, by rw [hqq]; omega, by rw [hqq]; exact hh2, by omega, fun a2 t2 kvs2 H2 k2 hp2 hK2 hl2 ha2 hs2 => ?_⟩
      · have e2 : ((m : Nat) : Int) - 1 - (((m : Nat) : Int) - 1) / 2 = ((m - 1 - (m - 1) / 2 : Nat) : Int) := by omega
        show [V.int (((m : Nat) : Int) - 1 - (((m : Nat) : Int) - 1) / 2), V.ref p] = _
        rw [e2]
      · rw [hqq] at hl2
        refine ⟨a1, a2, t1, t2, rfl, rfl, th_kb hp1 k2 ha1, ha2, by omega, fun z H3 s3 nz h3 => ?_⟩
        have hp3 := s3 _ _ hp2
        have hpl := length_putK kvs2 (.inl ((m : Nat) : Int)) (V.ref z)
        refine ⟨_, rfl, _, rfl, p, _, rfl, DPut.k (k := .inl ((m : Nat) : Int)) hp3 (by omega), ?_⟩
        have gz : DGet (upd H3 p (.dK (putK kvs2 (.inl ((m : Nat) : Int)) (.ref z)))) p (.int ((m : Nat) : Int)) (some (.ref z)) := by
          have g1 := DGet.k (k := .inl ((m : Nat) : Int)) (upd_same (H := H3) (a := p) (o := .dK (putK kvs2 (.inl ((m : Nat) : Int)) (.ref z))))
          rw [valV_put, if_pos rfl] at g1
          exact g1
        have k4 : KB p H3 (upd H3 p (.dK (putK kvs2 (.inl ((m : Nat) : Int)) (.ref z)))) := KB.set
        have hz4 := th_kb hp3 k4 h3
        refine ⟨_, rfl, _, rfl, p, _, rfl, gz, k z (.pr t1 t2) _ _ (((k1.trans k2).trans (KB.of s3)).trans k4) upd_same ⟨?_, fun n v hnv => ?_⟩ (by omega) hz4 (by simp only [Tr.size]; omega)⟩
        · rw [valV_put, if_neg (fun z => hm1 (by have := Sum.inl.inj z; omega))]
          exact hK2.nil
        · rw [valV_put] at hnv
          by_cases hnm : (Sum.inl n : Key) = .inl ((m : Nat) : Int)
          · rw [if_pos hnm] at hnv
            exact ⟨m, z, .pr t1 t2, Sum.inl.inj hnm, (Option.some.inj hnv).symm, hz4, by simp only [Tr.size]; omega⟩
          · rw [if_neg hnm] at hnv
            obtain ⟨m', a', t', e1, e2, e3, e4⟩ := hK2.all n v hnv
            exact ⟨m', a', t', e1, e2, th_kb hp3 k4 (e3.same s3), e4⟩
end
end Js

set_option Elab.async false
set_option linter.all false
set_option maxRecDepth 100000
set_option maxHeartbeats 2000000
namespace Js
open PySem L2 PyProof.Rows
/-- a value that is no Thing, and whose kind stands under no Thing -/
def NoTh (K : PySem.W.Frag) (C : Addr) (H : Hp) (y : V) : Prop := ∃ t : Value, TyX K H y t ∧ PySem.W.notFirst K C t = true ∧ PySem.W.kitOne K t (.ref C) = some false
/-- thing == what is no thing -/
def spEqN (K : PySem.W.Frag) (C : Addr) : Sp := fun vs H Q _ => ∃ a y, vs = [.ref a, y] ∧ NoTh K C H y ∧ Q (.bl false) H
section
variable {P : Program} {w : World} {K : PySem.W.Frag} {mg : Str → Option Value} {base : Heap} {C : Addr}
theorem ok_eqN {f fA : Addr} {fd fdA : FuncData} (F : Fun K "__eq__" "Thing.__eq__" sEq f fd) (T : Txt K mg C) (AA : At K mg "alike" sAlike ["one", "other"] fA fdA) : FnOk P w K mg base CX0 2 f fd ["self", "other"] (spEqN K C) := by
  have GA : FnOk P w K mg base CX0 1 fA fdA ["one", "other"] (spAlike C) := ok_alike AA.F T
  refine F.ok scE (fun vs H Q E h => ?_) (fun cdv A outer s H vs Q E hr h => ?_)
  · obtain ⟨a, y, rfl, _⟩ := h
    rfl
  · obtain ⟨a, y, rfl, ⟨t, hty, hnf, hkt⟩, k⟩ := h
    refine ⟨_, pss_one (ps_ret (pe_and (pe_callB call_isi (by rfl) T.isi PyProof.Rows.boot_isinstance (pa_cons (pv 1) (pa_cons (pe_glob (v := .ref C) rfl T.mgC rfl) pa_nil)))
      (pe_one (pe_call GA hr rfl AA.mgf AA.F.kp AA.b .nil pass0 (pa_cons (pv 0) (pa_cons (pv 1) pa_nil)))))), ?_⟩
    exact ⟨_, rfl, _, _, _, _, false, rfl, ClsV.own C, hty, hkt, false, rfl, iteF k⟩
end
section
variable {X : Cx} {C : Addr}
def rEqN (K : PySem.W.Frag) (C : Addr) : R2 := fun x y H Q => ∃ a dx fs, x = .ref a ∧ H a = some (.ins C dx fs) ∧ NoTh K C H y ∧ Q (.bl false) H
theorem op_eqN (S : Spc X.prog X.w X.K X.mg X.base C "__eq__" 2 ["self", "other"] (spEqN X.K C)) (hr : Room 2 X.A) : OpR X (compareOp .Eq) (rEqN X.K C) := by
  obtain ⟨f, fd, o, F, hb⟩ := S
  intro pins s σ H x y v u Q I rx ry h
  obtain ⟨a, dx, fs, rfl, ha, ⟨t, hty, hnf, hkt⟩, q⟩ := h
  cases (show v = Value.ref a from rx)
  show wpAny _ _ (richCompare .Eq (.ref a) u) _ _ _
  obtain ⟨od, J⟩ := inst_of I ha
  obtain ⟨m, hF⟩ := I.fr
  obtain ⟨Z, kx, hZ, _⟩ := kit_of I ry hty
  refine PySem.W.cmp_K (op := .Eq) (tb := t) hr.units0 hF I.ok.mod.kin J (kx.ty _ _ I.kIn hZ) hnf o.at_ o.fn (wpAny_mono (run_fnA (us := [.ref a, u]) (vs := [.ref a, y]) (Q := fun z H' => z = .bl false ∧ Q (.bl false) H') F hr I.env0 hb pass0 I (.cons rfl (.cons ry .nil)) ⟨a, y, rfl, ⟨t, hty, hnf, hkt⟩, rfl, q⟩) (fun w s' z => ?_) fun _ _ x => x)
  obtain ⟨z', H', I', rz, rfl, qz⟩ := z
  cases (show w = Value.bool false from rz)
  exact ⟨.bl false, H', I', rfl, qz⟩
end
end Js

set_option Elab.async false
set_option linter.all false
set_option maxRecDepth 100000
set_option maxHeartbeats 2000000
/-! u == x, u of a built-in kind that declines, x an instance with its own == -/
namespace JsLow
open PySem PySem.Spec PyProof.Rows PySem.W
section
variable {prog : Program} {w : World} {A : Around} {E : Value → Shared → Prop} {s : Shared} {K : Frag} {x C f : Addr} {ox : Obj} {od : Option Obj} {u : Value} {T : String}
theorem none_eq_ref (a : Addr) : Gives (Builtin.«NoneType.__eq__» ⟨[.none, .ref a], []⟩) (.val (Value.notImplemented)) :=
  .of_wp fun M A E s Q h => by obtain ⟨hp, g, d, tk, os⟩ := s; wp_walk; exact ⟨_, rfl, h⟩
/-- the left one declines, the right one's == is asked -/
theorem refl_K {Q : Value → Shared → Prop} (hu : A.units < cLine) (X : K.In s.heap) (I : InstAt s.heap x ox C od) (hT : s.TypeIs u T) (one : oneThing? .Eq u (.ref x) = none) (hs : subIn K (.ref C) (.type T) = some false)
    (dec : ∀ {Q' : Option Value → Shared → Prop}, (∀ tk, Q' none { s with toks := tk }) → wpAny (model prog w) A (tryCompare u "__eq__" (.ref x)) Q' E s)
    (he : findIn K (.ref C) "__eq__" = some (some (.ref f))) (hf : isFn K (.ref f) = true)
    (h : ∀ tk, wpAny (model prog w) A (call (.ref f) [.ref x, u]) (PySem.W.CmpBack Q) E { s with toks := tk }) : wpAny (model prog w) A (richCompare .Eq u (.ref x)) Q E s := by
  unfold richCompare
  refine wpAny_holding (wpAny_bind (wpAny_cRoomFor hu ?_))
  rw [one]
  refine wpAny_bind (wpAny_typeOf hT (wpAny_bind (I.type.here ?_)))
  have ne : (Value.type T != Value.ref C) = true := by simp
  try dsimp only
  rw [if_pos ne]
  refine wpAny_bind ((looks_subIn X hs).here ?_)
  simp only [Bool.false_eq_true, if_false, Bool.not_false, if_true]
  refine wpAny_bind (dec fun tk => ?_)
  try dsimp only
  refine wpAny_bind ?_
  unfold tryCompare
  refine wpAny_bind (ifBound_K (s := { s with toks := tk }) X (show InstAt ({ s with toks := tk } : Shared).heap x ox C od from I) he hf (wpAny_mono (h tk) (fun v s' hv => ?_) fun _ _ e => e))
  cases v <;> first | exact hv.elim | exact wpAny_pure (wpAny_pure hv)
theorem dec_none {Q' : Option Value → Shared → Prop} (h : ∀ tk, Q' none { s with toks := tk }) : wpAny (model prog w) A (tryCompare .none "__eq__" (.ref x)) Q' E s :=
  wpAny_tryCompare_declines (T := "NoneType") rfl F.slot_NoneType_eq (call_gives F.slot_NoneType_eq rfl F.entry_NoneType_eq (F.args_NoneType_eq_2 _ _) (none_eq_ref x) ⟨rfl, h _⟩)
theorem dec_str {a : Str} {t : Tok} {dx : Addr} {Q' : Option Value → Shared → Prop} (hx : s.heap.get? x = some (PySem.W.instObj C dx)) (h : ∀ tk, Q' none { s with toks := tk }) : wpAny (model prog w) A (tryCompare (.str a t) "__eq__" (.ref x)) Q' E s := by
  refine wpAny_tryCompare_declines (typeIs_str s a t) F.slot_str_eq (wpAny_call_entry F.slot_str_eq (typeIs_str s a t) F.entry_str_eq ?_ (F.args_str_eq_2 _ _))
  unfold Builtin.«str.__eq__» Builtin.Str.strCompare
  refine wpAny_bind (wpAny_of_eq (a := (Value.str a t, a, [Value.ref x])) (by first | rfl | kernel_rfl) ?_)
  try dsimp only
  show wpAny _ _ (asStr? (.ref x) >>= _) _ _ _
  unfold asStr?
  refine wpAny_bind (wpAny_bind (wpAny_load hx (wpAny_pure ?_)))
  exact wpAny_bind (wpAny_rule (wpAny_pure ⟨_, rfl, rfl, h _⟩))
end
end JsLow
namespace Js
open PySem L2 PySem.Spec PyProof.Rows
section
variable {X : Cx} {C : Addr}
/-- y == thing, y None or a text -/
def DRef (K : PySem.W.Frag) (C : Addr) : Tells := fun y x r H => ∃ a t, x = .ref a ∧ Th C H a t ∧ r = false ∧ (y = .non ∨ ∃ z, y = .str z) ∧ NoTh K C H y
theorem eqT_ref (S : Spc X.prog X.w X.K X.mg X.base C "__eq__" 2 ["self", "other"] (spEqN X.K C)) (h1 : PySem.W.subIn X.K (.ref C) (.type "NoneType") = some false) (h2 : PySem.W.subIn X.K (.ref C) (.type "str") = some false) : EqT X 2 (DRef X.K C) := by
  obtain ⟨f, fd, o, F, hb⟩ := S
  intro A pins s σ H y x u v r sb I ry rx d
  obtain ⟨a, t, rfl, ha, rfl, hy, hn⟩ := d
  cases (show v = Value.ref a from rx)
  obtain ⟨dx, f1, g1, h0⟩ := ha.obj
  obtain ⟨od, J⟩ := inst_of I h0
  have hx : s.heap.get? a = some (PySem.W.instObj C dx) := (show ObjOk X.prog X.w H s.heap a (.ins C dx _) from I.hok a _ h0).2.2.2.1
  have e0 : ∀ tk, Env0 X.prog X.w X.K X.mg X.base A X.stack { s with toks := tk } H := fun tk => by
    have e := (I.tok tk).env0
    exact ⟨by rw [sb.fr]; exact e.frames, e.mod, e.bs, e.bsz, e.funs, e.frf, e.hok, e.bare⟩
  have fin : ∀ {Q : Value → Shared → Prop}, (∀ s' H', Inv X pins σ H' s' → Same H H' → Q (.bool false) s') → ∀ tk, wpAny (model X.prog X.w) A (call (.ref f) [.ref a, u]) (PySem.W.CmpBack Q) X.xe { s with toks := tk } := by
    intro Q k tk
    refine wpAny_mono (run_fnA (us := [.ref a, u]) (vs := [.ref a, y]) (Q := fun z H' => z = .bl false ∧ H' = H) F sb.room (e0 tk) hb pass0 (I.tok tk) (.cons rfl (.cons ry .nil)) ⟨a, y, rfl, hn, rfl, rfl⟩) (fun w s' z => ?_) fun _ _ x => x
    obtain ⟨z', H', I', rz, rfl, rfl⟩ := z
    cases (show w = Value.bool false from rz)
    exact k s' _ I' (Same.refl _)
  rcases hy with rfl | ⟨z, rfl⟩
  · cases (show u = Value.none from ry)
    unfold eqBool
    refine wpAny_holding (wpAny_ite_split (fun hab => absurd (eq_of_beq hab) (by simp)) fun _ => wpAny_bind (wpAny_mono (Q := fun w s' => w = .bool false ∧ ∃ H', Inv X pins σ H' s' ∧ Same H H') ?_ (fun w s' z => ?_) fun _ _ x => x))
    · exact JsLow.refl_K (T := "NoneType") sb.room.units0 I.kIn J rfl rfl h1 JsLow.dec_none o.at_ o.fn (fin fun s' H' I' sm => ⟨rfl, H', I', sm⟩)
    · obtain ⟨rfl, H', I', sm⟩ := z
      exact wpAny_truthy_bool ⟨rfl, H', I', sm⟩
  · obtain ⟨t', rfl⟩ := (show ∃ t', u = Value.str z t' from ry)
    unfold eqBool
    refine wpAny_holding (wpAny_ite_split (fun hab => absurd (eq_of_beq hab) (by simp)) fun _ => wpAny_bind (wpAny_mono (Q := fun w s' => w = .bool false ∧ ∃ H', Inv X pins σ H' s' ∧ Same H H') ?_ (fun w s' z => ?_) fun _ _ x => x))
    · exact JsLow.refl_K (T := "str") sb.room.units0 I.kIn J (typeIs_str s z t') rfl h2 (JsLow.dec_str hx) o.at_ o.fn (fin fun s' H' I' sm => ⟨rfl, H', I', sm⟩)
    · obtain ⟨rfl, H', I', sm⟩ := z
      exact wpAny_truthy_bool ⟨rfl, H', I', sm⟩
end
end Js

set_option Elab.async false
set_option linter.all false
set_option maxRecDepth 100000
set_option maxHeartbeats 2000000
/-! the truth of an instance, by its own len -/
namespace JsLow
open PySem PySem.Spec PyProof.Rows PySem.W
section
variable {prog : Program} {w : World} {A : Around} {E : Value → Shared → Prop} {s : Shared} {K : Frag} {x C f : Addr} {ox : Obj} {od : Option Obj}
theorem truth_len {Q : Bool → Shared → Prop} (X : K.In s.heap) (I : InstAt s.heap x ox C od) (nb : findIn K (.ref C) "__bool__" = some none) (hl : findIn K (.ref C) "__len__" = some (some (.ref f))) (hf : isFn K (.ref f) = true)
    (h : wpAny (model prog w) A.in1 (call (.ref f) [.ref x]) (fun v s' => ∃ n t, v = .int n t ∧ 0 ≤ n ∧ n < 2 ^ 63 ∧ ∀ tk, Q (n != 0) { s' with toks := tk }) E s) : wpAny (model prog w) A (truthy (.ref x)) Q E s := by
  unfold truthy
  refine wpAny_bind (m := callSpecial? (.ref x) "__bool__") (wpAny_bind (wpAny_bind (I.type.here ((looks_findIn X nb).here (wpAny_pure ?_)))))
  refine wpAny_bind (wpAny_bind (I.type.here ((looks_findIn X hl).here ?_)))
  rw [if_neg (show ¬ ((some (Value.ref f)).isNone = true) by simp)]
  refine wpAny_bind (wpAny_mono (Q := fun r s' => ∃ n t, r = .int n t ∧ Q (n != 0) s') (wpAny_runValue (codeAny_builtin entry_len ?_)) (fun r s' z => ?_) fun _ _ e => e)
  · rw [Around.under_plainId plain_len _]
    unfold Builtin.«len»
    refine wpAny_bind (m := oneArg "len" _) (wpAny_pure (wpAny_bind (m := callSpecial? (.ref x) (Str.ofString "__len__")) (special_fn X I hl (beq_iff_eq.mp hf) (wpAny_mono h ?_ fun _ _ y => y))))
    rintro r s' ⟨n, t, rfl, h0, h1, hq⟩
    refine wpAny_bind (wpAny_holding (wpAny_pure (wpAny_bind (wpAny_letGo ?_))))
    show wpAny _ _ (if n < 0 then _ else _) _ _ _
    rw [if_neg (by omega)]
    show wpAny _ _ (if n ≥ 2 ^ 63 then _ else _) _ _ _
    rw [if_neg (by omega)]
    exact wpAny_bind (wpAny_mkInt (wpAny_pure ⟨n, _, rfl, hq _⟩))
  · obtain ⟨n, t, rfl, hq⟩ := z
    exact wpAny_pure hq
theorem new_bool {v : Value} {Q₁ : Value → Shared → Prop} (h : wpAny (model prog w) A.in1 (truthy v) (fun b s' => Q₁ (.bool b) s') E s) : codeAny (model prog w) A (.call (.builtin "bool.__new__") ⟨[.type "bool", v], []⟩) (wants Q₁ E) s := by
  refine codeAny_of_tree ?_
  show wpAny _ A.in1 (do checkBuiltinCall "bool.__new__" ⟨[.type "bool", v], []⟩; again (.builtin "bool.__new__" ⟨[.type "bool", v], []⟩)) _ _ s
  refine wpAny_bind (wpAny_of_eq (F.newCall_bool_1 _) (wpAny_pure ⟨Code.quiet_builtin _ (by decide +kernel), codeAny_builtin F.entry_bool_new ?_⟩))
  have pl : plainId "bool.__new__" := by
    first
    | exact F.plain_bool_new
    | decide +kernel
  rw [Around.under_plainId pl _]
  unfold Builtin.«bool.__new__»
  have e1 : isType (.type "bool") = (pure true : Sem Bool) := by first | rfl | kernel_rfl
  refine wpAny_bind (wpAny_of_eq e1 ?_)
  simp only [Bool.not_true, Bool.false_eq_true, if_false]
  refine wpAny_bind (wpAny_of_eq F.conv_sub_bool ?_)
  simp only [Bool.not_true, Bool.false_eq_true, if_false]
  refine wpAny_bind (wpAny_of_eq (a := [v]) (by first | rfl | kernel_rfl) ?_)
  try dsimp only
  exact wpAny_bind (wpAny_mono h (fun b s' q => wpAny_pure q) fun _ _ e => e)
theorem call_boolV {v : Value} {Q : Value → Shared → Prop} (h : wpAny (model prog w) A.in1.in1 (truthy v) (fun b s' => Q (.bool b) s') E s) : wpAny (model prog w) A (call (.type "bool") [v]) Q E s := by
  have first := new_bool (prog := prog) (w := w) (A := A.in1) (E := E) (s := s) (v := v) (Q₁ := fun obj s₁ => s₁.TypeIs obj "bool" ∧ Q obj s₁) (wpAny_mono h (fun b s' q => ⟨rfl, q⟩) fun _ _ e => e)
  refine callType_codes F.called_bool (F.typeCall_bool_1 v) F.entry_object_init first fun obj s₁ hh => ⟨hh.1, F.args_object_init_2 obj _, ?_⟩
  exact object_init_meets F.called_bool.init.lookup F.called_bool.made (by decide) prog w A.in1 _ s₁ ⟨hh.1, rfl, hh.2⟩
end
end JsLow
namespace Js
open PySem PySem.Spec PyProof.Rows L2
section
variable {X : Cx} {C : Addr}
def rTruT (C : Addr) : V → Hp → (Bool → Hp → Prop) → Prop := fun x H Q => ∃ a t, x = .ref a ∧ Th C H a t ∧ t.size ≤ 4000 ∧ Q (((t.size : Nat) : Int) != 0) H
theorem tru_T (S : Spc X.prog X.w X.K X.mg X.base C "__len__" 1 ["self"] (spLen C)) (nb : PySem.W.findIn X.K (.ref C) "__bool__" = some none) (hr : Room 2 X.A) : TruR X (rTruT C) := by
  obtain ⟨f, fd, o, F, hb⟩ := S
  intro pins s σ H x v Q I rx h
  obtain ⟨a, t, rfl, ha, hz, q⟩ := h
  cases (show v = Value.ref a from rx)
  obtain ⟨dx, f1, g1, h0⟩ := ha.obj
  obtain ⟨od, J⟩ := inst_of I h0
  refine JsLow.truth_len I.kIn J nb o.at_ o.fn (wpAny_mono (run_fnA (us := [.ref a]) (vs := [.ref a]) (Q := fun z H' => z = .int ((t.size : Nat) : Int) ∧ H' = H) F hr.in1 I.env0.in1 hb pass0 I (.cons rfl .nil) ⟨a, t, rfl, ha, hz, rfl, rfl⟩) (fun w s' z => ?_) fun _ _ x => x)
  obtain ⟨z', H', I', rz, rfl, rfl⟩ := z
  obtain ⟨t', rfl⟩ := (show ∃ t', w = Value.int ((t.size : Nat) : Int) t' from rz)
  exact ⟨_, _, rfl, by omega, by omega, fun tk => ⟨_, I'.tok tk, q⟩⟩
end
end Js
namespace Js
open PySem PySem.Spec PyProof.Rows L2
section
variable {X : Cx} {C : Addr}
/-- bool(thing) -/
theorem call_boolT (S : Spc X.prog X.w X.K X.mg X.base C "__len__" 1 ["self"] (spLen C)) (nb : PySem.W.findIn X.K (.ref C) "__bool__" = some none) (hr : Room 4 X.A) : CallR X (.type "bool") (fun xs H Q => ∃ a t, xs = [.ref a] ∧ Th C H a t ∧ t.size ≤ 4000 ∧ Q (.bl (((t.size : Nat) : Int) != 0)) H) := by
  obtain ⟨f, fd, o, F, hb⟩ := S
  intro pins s σ H xs us Q I r h
  obtain ⟨a, t, rfl, ha, hz, q⟩ := h
  obtain ⟨u, rfl, ru⟩ := vals1 r
  cases (show u = Value.ref a from ru)
  obtain ⟨dx, f1, g1, h0⟩ := ha.obj
  obtain ⟨od, J⟩ := inst_of I h0
  have hr3 : Room 1 X.A.in1.in1.in1 := (show Room 2 X.A.in1.in1 from (show Room 3 X.A.in1 from hr.in1).in1).in1
  refine JsLow.call_boolV (JsLow.truth_len I.kIn J nb o.at_ o.fn (wpAny_mono (run_fnA (us := [.ref a]) (vs := [.ref a]) (Q := fun z H' => z = .int ((t.size : Nat) : Int) ∧ H' = H) F hr3 I.env0.in1.in1.in1 hb pass0 I (.cons rfl .nil) ⟨a, t, rfl, ha, hz, rfl, rfl⟩) (fun w s' z => ?_) fun _ _ x => x))
  obtain ⟨z', H', I', rz, rfl, rfl⟩ := z
  obtain ⟨t', rfl⟩ := (show ∃ t', w = Value.int ((t.size : Nat) : Int) t' from rz)
  exact ⟨_, _, rfl, by omega, by omega, fun tk => ⟨.bl _, _, I'.tok tk, rfl, q⟩⟩
end
end Js

set_option Elab.async false
set_option linter.all false
set_option maxRecDepth 100000
set_option maxHeartbeats 2000000
namespace Js
open PySem L2
abbrev sIs : Stmt := top 21
/-- items of a list that holds things and what is none, beside a thing -/
def DMix (K : PySem.W.Frag) (C : Addr) : Tells := fun y x r H => DRef K C y x r H ∨ DTh C y x r H
section
variable {X : Cx} {C : Addr}
theorem DTh_same {x y : V} {r : Bool} {H H' : Hp} (s : Same H H') (d : DTh C x y r H) : DTh C x y r H' := by
  obtain ⟨a, b, t, u, e1, e2, ha, hb, hz, e3⟩ := d
  exact ⟨a, b, t, u, e1, e2, ha.same s, hb.same s, hz, e3⟩
theorem eqT_th (S : Spc X.prog X.w X.K X.mg X.base C "__eq__" 2 ["self", "other"] (spEqT C)) : EqT X 2 (DTh C) := by
  obtain ⟨f, fd, ow, F, hb⟩ := S
  refine eqT_own ow F hb (pass0) fun x y r H d => ?_
  obtain ⟨a, b, t, u, rfl, rfl, ha, hb', hz, rfl⟩ := d
  obtain ⟨dx, f1, g1, h1⟩ := ha.obj
  obtain ⟨dy, f2, g2, h2⟩ := hb'.obj
  refine ⟨a, b, dx, dy, _, _, rfl, rfl, h1, h2, fun e => ?_, a, b, t, u, rfl, ha, hb', hz, fun H' s => ⟨_, rfl, rfl, s⟩⟩
  subst e
  exact decide_eq_true (ha.inj hb')
theorem eqT_mix (S : Spc X.prog X.w X.K X.mg X.base C "__eq__" 2 ["self", "other"] (spEqT C)) (SN : Spc X.prog X.w X.K X.mg X.base C "__eq__" 2 ["self", "other"] (spEqN X.K C)) (h1 : PySem.W.subIn X.K (.ref C) (.type "NoneType") = some false) (h2 : PySem.W.subIn X.K (.ref C) (.type "str") = some false) : EqT X 2 (DMix X.K C) := by
  intro A pins s σ H x y u v r sb I rx ry d
  rcases d with d | d
  · exact eqT_ref SN h1 h2 A pins s σ H x y u v r sb I rx ry d
  · exact eqT_th S A pins s σ H x y u v r sb I rx ry d
end
def spIs (C : Addr) : Sp := fun vs H Q _ => ∃ a t, vs = [.ref a, .str t.text] ∧ Th C H a t ∧ t.size ≤ 4000 ∧ ∀ H', Same H H' → Q (.bl true) H'
/-- the kinds beside Thing -/
structure KdC (K : PySem.W.Frag) (C : Addr) : Prop where
  no : ∀ n ∈ ["NoneType", "str", "int", "tuple", "list", "bool"], PySem.W.notFirst K C (.type n) = true ∧ PySem.W.kitOne K (.type n) (.ref C) = some false
  sN : PySem.W.subIn K (.ref C) (.type "NoneType") = some false
  sS : PySem.W.subIn K (.ref C) (.type "str") = some false
  nb : PySem.W.findIn K (.ref C) "__bool__" = some none
theorem neS (x : Str) : (!decide (V.str x = V.str x)) = false := by simp
theorem neI (x : Int) : (!decide (V.int x = V.int x)) = false := by simp
theorem neB (x : Bool) : (!decide (V.bl x = V.bl x)) = false := by simp
theorem cnt40 (t : Tr) : PySem.Txt.count t.text "(" = ((t.size : Nat) : Int) := by
  have e : (("(" : Str)) = ⟨#[40]⟩ := by decide +kernel
  rw [tx_text, e, count_tx, count_codes]
theorem DMix.same {K : PySem.W.Frag} {C : Addr} {x y : V} {r : Bool} {H H' : Hp} (s : Same H H') (d : DMix K C x y r H) : DMix K C x y r H' := by
  rcases d with ⟨a, t, e1, ha, e2, hy, t', hty, hn1, hn2⟩ | d
  · refine .inl ⟨a, t, e1, ha.same s, e2, hy, ?_⟩
    rcases hy with rfl | ⟨z, rfl⟩
    · cases hty with
      | base b => cases b with
        | non => exact ⟨_, .base .non, hn1, hn2⟩
    · cases hty with
      | base b => cases b with
        | str _ => exact ⟨_, .base (.str _), hn1, hn2⟩
  · exact .inr (DTh_same s d)
section
variable {P : Program} {w : World} {K : PySem.W.Frag} {mg : Str → Option Value} {base : Heap} {C : Addr}
theorem scIs : FnScope ["_law_thing_here", "_law_text", "_law_many", "_law_odd", "_law_one"] ["_law_thing_here", "_law_text"] (defScope sIs) := ⟨rfl, rfl, rfl, by decide +kernel, rfl, by decide +kernel, by decide +kernel⟩
theorem ok_is {f : Addr} {fd : FuncData} (F : Fun K "_law_is" "_law_is" sIs f fd) (T : Txt K mg C) (B : Blt mg) (mrepr : mg "repr" = none) (mbool : mg "bool" = none) (many_ : mg "any" = none) (kd : KdC K C)
    (SS : Spc P w K mg base C "__str__" 2 ["self"] (spStr C)) (SR : Spc P w K mg base C "__repr__" 5 ["self"] (spRepr C)) (SL : Spc P w K mg base C "__len__" 1 ["self"] (spLen C)) (SE : Spc P w K mg base C "__eq__" 2 ["self", "other"] (spEqT C)) (SN : Spc P w K mg base C "__eq__" 2 ["self", "other"] (spEqN K C)) (DA : Def P w K mg base "_law_again" 4 ["_law_text"] (spAgain C)) :
    FnOk P w K mg base CX0 7 f fd ["_law_thing_here", "_law_text"] (spIs C) := by
  refine F.ok scIs (fun vs H Q E h => ?_) (fun cdv A outer s H vs Q E hr h => ?_)
  · obtain ⟨a, t, rfl, _⟩ := h
    rfl
  · obtain ⟨a, t, rfl, ha, hz, k⟩ := h
    have mixS : ∀ x y r H H', Same H H' → DMix K C x y r H → DMix K C x y r H' := fun _ _ _ _ _ s d => d.same s
    have hr2 : Room 2 _ := hr.mono (by decide)
    have hr3 : Room 3 _ := hr.mono (by decide)
    have hr4 : Room 4 _ := hr.mono (by decide)
    refine ⟨_, pss_cons (ps_if (PW.pt (pw_or (pt_not (pt_val (pe_callB call_isi (by rfl) T.isi PyProof.Rows.boot_isinstance (pa_cons (pv 0) (pa_cons (pe_glob (v := .ref C) rfl T.mgC rfl) pa_nil))))) (pw_or (pt_cmpR op_ne (pe_callTy (call_strT SS hr4) (by rfl) B.str PyProof.Rows.boot_str (pa_cons (pv 0) pa_nil)) (pv 1) (nomark _)) (pw_or1 (pt_cmpR op_ne (pe_callB (call_reprT SR hr) (by rfl) mrepr PyProof.Rows.boot_repr (pa_cons (pv 0) pa_nil)) (pe_op op_addX pe_str (pv 1)) (nomark _)))))) (pss_one (ps_ret pe_bl)) pss_nil) (pss_cons (ps_set (i := 2) scIs.nd rfl (Or.inl rfl) (pe_m1 PySem.F.slot_str_count PySem.F.type_str_count mt_count (pv 1) pe_str)) (pss_cons (ps_if (PW.pt (pw_or (pt_cmpR op_ne (pe_callB (call_lenT SL hr2) (by rfl) B.len PySem.boot_len (pa_cons (pv 0) pa_nil)) (pv 2) (nomark _)) (pw_or (pt_cmpR op_ne (pe_callTy (call_boolT SL kd.nb hr4) (by rfl) mbool PyProof.Rows.boot_bool (pa_cons (pv 0) pa_nil)) (pe_cmpR op_gt (pv 2) pe_int (nomark _)) (nomark _)) (pw_or (pt_cmpR (op_neT SE T hr3) (pv 0) (pe_def DA hr4 rfl (pa_cons (pv 1) pa_nil)) (nomark _)) (pw_or1 (pt_cmpR (op_neT SE T hr3) (pe_def DA hr4 rfl (pa_cons (pv 1) pa_nil)) (pv 0) (nomark _))))))) (pss_one (ps_ret pe_bl)) pss_nil) (pss_cons (ps_set (i := 3) scIs.nd rfl (Or.inl rfl) (pe_lst (pa_cons pe_non (pa_cons (pv 1) (pa_cons (pv 2) (pa_cons (pe_tup pa_nil) (pa_cons (pe_lst pa_nil) (pa_cons pe_bl (pa_cons (pe_tup (pa_cons (pv 0) pa_nil)) (pa_cons (pe_lst (pa_cons (pv 0) pa_nil)) pa_nil)))))))))) (pss_one (ps_ret (pe_and (pe_not (pe_callB (cr_any rfl) (by rfl) many_ (by decide +kernel) (pa_cons (pe_lc (own := [("_law_one", 4)]) (g := gName 4) (tt := tYes) rfl scIs.nd (pi_list (pv 3)) (blkOk_by (N := ["_law_thing_here", "_law_text", "_law_many", "_law_odd", "_law_one"]) (sc := defScope sIs) (by decide +kernel)) (fun _ _ _ _ _ => (pg_name (i := 4) scIs.nd rfl (Or.inl rfl))) (fun _ _ _ _ _ => pts_nil) (fun _ _ _ _ _ => (pe_cmpR (r := rEqN K C) (op_eqN SN hr2) (pv 0) (pv 4) (nomark _)))) pa_nil))) (pe_one (pe_cmpR (op_inT (eqT_mix SE SN kd.sN kd.sS) mixS hr3) (pv 0) (pe_lst (pa_cons pe_non (pa_cons (pv 1) (pa_cons (pe_def DA hr4 rfl (pa_cons (pv 1) pa_nil)) pa_nil)))) rfl)))))))), ?_⟩
    have hsl := line4
    have hcl := Tr.codes_len t
    obtain ⟨dx, f1, g1, h1⟩ := ha.obj
    refine ⟨_, rfl, _, _, _, _, true, rfl, ClsV.own C, .base (.ins h1 T.cl T.ca T.cn T.ct T.cm), kit_self _ _, _, rfl, ?_⟩
    refine iteF ?_
    refine ⟨_, rfl, a, t, rfl, ha, hz, fun H1 s1 => ?_⟩
    refine ⟨_, rfl, rfl, _, rfl, ?_⟩
    show if (!decide (V.str t.text = V.str t.text)) = true then _ else _
    rw [neS]
    refine iteF ?_
    have ha1 := ha.same s1
    refine ⟨_, rfl, a, t, rfl, ha1, hz, fun H2 s2 => ?_⟩
    refine ⟨_, rfl, cThing, t.codes, congrArg V.str c_Thing, rfl, by simp [cThing]; omega, rfl, _, rfl, ?_⟩
    rw [neS]
    refine iteF ?_
    have ha2 := ha1.same s2
    -- many
    refine ⟨_, rfl, ⟨_, rfl⟩, _, _, rfl, rfl, ?_⟩
    rw [cnt40]
    -- len, bool
    refine ⟨_, rfl, a, t, rfl, ha2, hz, _, rfl, rfl, _, rfl, ?_⟩
    rw [neI]
    refine iteF ?_
    refine ⟨_, rfl, a, t, rfl, ha2, hz, _, rfl, _, _, rfl, rfl, ?_⟩
    refine ⟨rfl, _, rfl, ?_⟩
    have eb : (!decide (V.bl (((t.size : Nat) : Int) != 0) = V.bl (decide ((0 : Int) < ((t.size : Nat) : Int))))) = false := by
      by_cases h0 : t.size = 0
      · rw [h0]; decide
      · have e1 : (((t.size : Nat) : Int) != 0) = true := by simp [h0]
        have e2 : decide ((0 : Int) < ((t.size : Nat) : Int)) = true := decide_eq_true (by omega)
        rw [e1, e2]; decide
    rw [eb]
    refine iteF ?_
    refine ⟨_, rfl, _, rfl, t, rfl, hz, fun b H3 s3 hb => ?_⟩
    have ha3 := ha2.same s3
    refine ⟨a, b, t, t, rfl, rfl, ha3, hb, hz, fun H4 s4 => ⟨_, rfl, ?_⟩⟩
    have neT : (!decide (t = t)) = false := by simp
    rw [neT]
    refine iteF ?_
    have ha4 := ha3.same s4
    refine ⟨_, rfl, t, rfl, hz, fun c H5 s5 hc => ?_⟩
    have ha5 := ha4.same s5
    refine ⟨_, rfl, c, a, t, t, rfl, rfl, hc, ha5, hz, fun H6 s6 => ⟨_, rfl, ?_⟩⟩
    rw [neT]
    refine iteF ?_
    have ha6 := ha5.same s6
    have sH6 : Same H H6 := ((((s1.trans s2).trans s3).trans s4).trans s5).trans s6
    -- odd
    refine ⟨_, rfl, _, rfl, Nat.zero_le _, fun p1 n1 => ?_⟩
    refine ⟨Nat.zero_le _, fun p2 n2 => ?_⟩
    refine ⟨_, rfl, by show 1 ≤ sizeLine; decide, fun p3 n3 => ?_⟩
    refine ⟨_, rfl, by show 1 ≤ sizeLine; decide, fun p4 n4 => ?_⟩
    refine ⟨by show 8 ≤ sizeLine; decide, fun D nD => ?_⟩
    have e1 := Same.new n1 (o := .tup [])
    have e2 := Same.new n2 (o := .lst [])
    have e3 := Same.new n3 (o := .tup [.ref a])
    have e4 := Same.new n4 (o := .lst [.ref a])
    have e5 := Same.new nD (o := .lst [.non, .str t.text, .int ((t.size : Nat) : Int), .ref p1, .ref p2, .bl true, .ref p3, .ref p4])
    have q1 := e5 _ _ (e4 _ _ (e3 _ _ (e2 _ _ (upd_same (H := H6) (a := p1) (o := .tup [])))))
    have q2 := e5 _ _ (e4 _ _ (e3 _ _ (upd_same (H := upd H6 p1 (.tup [])) (a := p2) (o := .lst []))))
    have q3 := e5 _ _ (e4 _ _ (upd_same (H := upd (upd H6 p1 (.tup [])) p2 (.lst [])) (a := p3) (o := .tup [.ref a])))
    have q4 := e5 _ _ (upd_same (H := upd (upd (upd H6 p1 (.tup [])) p2 (.lst [])) p3 (.tup [.ref a])) (a := p4) (o := .lst [.ref a]))
    have q5 := upd_same (H := upd (upd (upd (upd H6 p1 (.tup [])) p2 (.lst [])) p3 (.tup [.ref a])) p4 (.lst [.ref a])) (a := D) (o := .lst [.non, .str t.text, .int ((t.size : Nat) : Int), .ref p1, .ref p2, .bl true, .ref p3, .ref p4])
    have s67 := (((e1.trans e2).trans e3).trans e4).trans e5
    revert q1 q2 q3 q4 q5 s67
    generalize upd (upd (upd (upd (upd H6 p1 (.tup [])) p2 (.lst [])) p3 (.tup [.ref a])) p4 (.lst [.ref a])) D (.lst [.non, .str t.text, .int ((t.size : Nat) : Int), .ref p1, .ref p2, .bl true, .ref p3, .ref p4]) = H7
    intro q1 q2 q3 q4 q5 s67
    have no := kd.no
    have nth : ∀ {H' : Hp}, Same H7 H' → ∀ {i : Nat} {y : V}, ([.non, .str t.text, .int ((t.size : Nat) : Int), .ref p1, .ref p2, .bl true, .ref p3, .ref p4] : List V)[i]? = some y → NoTh K C H' y := by
      intro H' sm i y hy
      have hm := List.mem_of_getElem? hy
      simp only [List.mem_cons, List.not_mem_nil, or_false] at hm
      rcases hm with rfl | rfl | rfl | rfl | rfl | rfl | rfl | rfl
      · exact ⟨_, .base .non, (no "NoneType" (by simp)).1, (no "NoneType" (by simp)).2⟩
      · exact ⟨_, .base (.str _), (no "str" (by simp)).1, (no "str" (by simp)).2⟩
      · exact ⟨_, .base (.int _), (no "int" (by simp)).1, (no "int" (by simp)).2⟩
      · exact ⟨_, .base (.tup (sm _ _ q1)), (no "tuple" (by simp)).1, (no "tuple" (by simp)).2⟩
      · exact ⟨_, .base (.lst (sm _ _ q2)), (no "list" (by simp)).1, (no "list" (by simp)).2⟩
      · exact ⟨_, .base (.bl _), (no "bool" (by simp)).1, (no "bool" (by simp)).2⟩
      · exact ⟨_, .base (.tup (sm _ _ q3)), (no "tuple" (by simp)).1, (no "tuple" (by simp)).2⟩
      · exact ⟨_, .base (.lst (sm _ _ q4)), (no "list" (by simp)).1, (no "list" (by simp)).2⟩
    have ha7 := ha6.same s67
    refine ⟨_, rfl, D, rfl, ⟨_, SqL.of q5⟩, fun R nR => lc_list (K := K) (a := D) (xs := [.non, .str t.text, .int ((t.size : Nat) : Int), .ref p1, .ref p2, .bl true, .ref p3, .ref p4]) (fun i H' => Same H7 H' ∧ H' R = some (.lst ((List.replicate i false).map V.bl))) ⟨Same.new nR, upd_same⟩ (fun i H' _ z => SqL.of (z.1 _ _ q5)) ?_ ?_⟩
    · rintro i y H8 hy ⟨s8, hR⟩
      refine ⟨rfl, lc_yes ?_⟩
      obtain ⟨dx8, f8, g8, h8⟩ := (ha7.same s8).obj
      refine ⟨_, rfl, _, rfl, a, dx8, _, rfl, h8, nth s8 hy, ?_⟩
      have hi : i < 8 := (List.getElem?_eq_some_iff.mp hy).1
      refine ⟨_, hR, by rw [List.length_map, List.length_replicate]; omega, s8.set nR, ?_⟩
      rw [upd_same, List.replicate_succ', List.map_append]
      rfl
    · rintro H8 ⟨s8, hR⟩
      refine ⟨R, List.replicate 8 false, rfl, SqL.of hR, _, rfl, _, rfl, iteT ?_⟩
      refine ⟨_, rfl, _, rfl, _, rfl, t, rfl, hz, fun c2 H9 s9 hc2 => ?_⟩
      refine ⟨by show 3 ≤ sizeLine; decide, fun L nL => ?_⟩
      have sL := Same.new nL (o := .lst [.non, .str t.text, .ref c2])
      have ha10 := ((ha7.same s8).same s9).same sL
      have hc10 := hc2.same sL
      refine ⟨L, [.non, .str t.text, .ref c2], [false, false, true], rfl, upd_same, rfl, fun i z b h1 h2 => ?_, fun H' s' => ?_⟩
      · match i, h1, h2 with
        | 0, h1, h2 =>
          cases h1; cases h2
          exact .inl ⟨a, t, rfl, ha10, rfl, .inl rfl, _, .base .non, (no "NoneType" (by simp)).1, (no "NoneType" (by simp)).2⟩
        | 1, h1, h2 =>
          cases h1; cases h2
          exact .inl ⟨a, t, rfl, ha10, rfl, .inr ⟨_, rfl⟩, _, .base (.str _), (no "str" (by simp)).1, (no "str" (by simp)).2⟩
        | 2, h1, h2 =>
          cases h1; cases h2
          exact .inr ⟨c2, a, t, t, rfl, rfl, hc10, ha10, hz, (decide_eq_true rfl).symm⟩
        | i + 3, h1, h2 => simp at h1
      · exact k H' (((((sH6.trans s67).trans s8).trans s9).trans sL).trans s')
end
end Js

set_option Elab.async false
set_option linter.all false
set_option maxRecDepth 100000
set_option maxHeartbeats 2000000
namespace Js
open PySem L2
theorem repl_succ' (n : Nat) (xs : List Nat) : repl (n + 1) xs = repl n xs ++ xs := by
  induction n with
  | zero => simp [repl]
  | succ n ih =>
    have e : repl (n + 1 + 1) xs = xs ++ repl (n + 1) xs := repl_succ (n + 1) xs
    rw [e, ih, ← List.append_assoc, ← repl_succ n xs, ih]
def numT : Nat → Tr
  | 0 => .nil
  | n + 1 => .pr .nil (numT n)
theorem numT_size : ∀ n, (numT n).size = n
  | 0 => rfl
  | n + 1 => by simp only [numT, Tr.size, numT_size n]; omega
theorem numT_codes : ∀ n, (numT n).codes = repl n [40, 46] ++ [46] ++ repl n [41]
  | 0 => rfl
  | n + 1 => by
    have ih := numT_codes n
    show 40 :: ([46] ++ ((numT n).codes ++ [41])) = _
    rw [ih, repl_succ n [40, 46], repl_succ' n [41]]
    simp
def lcT : Nat → Tr
  | 0 => .nil
  | n + 1 => .pr (lcT n) .nil
theorem lcT_size : ∀ n, (lcT n).size = n
  | 0 => rfl
  | n + 1 => by simp only [lcT, Tr.size, lcT_size n]; omega
theorem lcT_codes : ∀ n, (lcT n).codes = repl n [40] ++ [46] ++ repl n [46, 41]
  | 0 => rfl
  | n + 1 => by
    have ih := lcT_codes n
    show 40 :: ((lcT n).codes ++ ([46] ++ [41])) = _
    rw [ih, repl_succ n [40], repl_succ' n [46, 41]]
    simp
def tV (t : Tr) : V := .str t.text
theorem list_split : ∀ (n : Nat) (ts : List Tr), n + 1 < ts.length → ∃ tp t u tq, ts = tp ++ t :: u :: tq ∧ tp.length = n
  | 0, t :: u :: tq, _ => ⟨[], t, u, tq, rfl, rfl⟩
  | 0, [t], h => by simp at h
  | 0, [], h => by simp at h
  | n + 1, [], h => by simp at h
  | n + 1, t :: ts, h => by
    obtain ⟨tp, x, u, tq, e, l⟩ := list_split n ts (by simpa using h)
    exact ⟨t :: tp, x, u, tq, by rw [e]; rfl, by simp [l]⟩
def tsz' (ts : List Tr) : Nat := (ts.map Tr.size).sum
theorem tsz'_append (a b : List Tr) : tsz' (a ++ b) = tsz' a + tsz' b := by simp [tsz']
theorem tsz'_cons (a : Tr) (b : List Tr) : tsz' (a :: b) = a.size + tsz' b := by simp [tsz']
theorem tsz'_rep (n : Nat) : tsz' (List.replicate n .nil) = 0 := by
  induction n with
  | zero => rfl
  | succ n ih => rw [List.replicate_succ, tsz'_cons, ih]; rfl
theorem rep_dots (n : Nat) : (List.replicate n [V.str "."]).flatten = (List.replicate n Tr.nil).map tV := by
  induction n with
  | zero => rfl
  | succ n ih =>
    rw [List.replicate_succ, List.flatten_cons, ih, List.replicate_succ, List.map_cons, dot_eq]
    rfl
theorem c_40 : (("(" : Str)) = tx [40] := by decide +kernel
theorem c_41 : ((")" : Str)) = tx [41] := by decide +kernel
theorem c_46 : (("." : Str)) = tx [46] := by decide +kernel
theorem c_4046 : (("(." : Str)) = tx [40, 46] := by decide +kernel
theorem c_4641 : ((".)" : Str)) = tx [46, 41] := by decide +kernel
def spText : Sp := fun vs H Q _ => ∃ (p : Addr) (m : Nat), vs = [.ref p, .int (m : Nat)] ∧ BagOk H p ∧ m ≤ 400 ∧ ∀ (t : Tr) H', KB p H H' → BagOk H' p → t.size = m → Q (.str t.text) H'
/-- '(' + x + y + ')' -/
theorem pair_text (t u : Tr) : tx ([40] ++ t.codes ++ u.codes ++ [41]) = (Tr.pr t u).text := by
  rw [tx_text]
  congr 1
  simp [Tr.codes]
end Js

set_option Elab.async false
set_option linter.all false
set_option maxRecDepth 100000
set_option maxHeartbeats 2000000
namespace Js
open PySem L2
/-- Thing(second=.., first=..) -/
def tTKr (C : Addr) (tk : TA) : TE := fun σ H Q => tk σ H fun zs H1 => ∃ a b t u, zs = [.ref b, .ref a] ∧ Th C H1 a t ∧ Th C H1 b u ∧ 1 + t.size + u.size ≤ 4000 ∧ ∀ z H', Same H1 H' → H1 z = none → Th C H' z (.pr t u) → Q (.ref z) H'
section
open PyProof.Rows
variable {X : Cx} {C fI : Addr} {fdI : FuncData} {p pos : Pos} {kws : List Keyword} {tk : TA} {g : List Value → List Value → List Value}
theorem pe_TKr (mk : Maker X.prog X.w X.K X.mg X.base C fI fdI) (hb : KBn X.K fdI ["self", "first", "second"] 1 ["second", "first"] g (fun vs zs => vs ++ zs.reverse)) (hr : Room 3 X.A) (hg : Gl X "Thing") (hkw : PK X kws tk)
    (hall : (backToKw pos (keywordEach kws X.env)).all (·.1.isSome) = true := by rfl) (hks : (backToKw pos (keywordEach kws X.env)).filterMap (·.1) = (["second", "first"] : List Str) := by rfl)
    (hpl : ((backTo pos (starEach [] X.env)).any (·.1) || (backToKw pos (keywordEach kws X.env)).any (·.1.isNone)) = false := by rfl) : PE X (.Call (.Name "Thing" p) [] kws pos) (tTKr C tk) := by
  refine ⟨fun pins s σ H Q I h => ?_⟩
  refine wpAny_Call_Name_kw (ld_glob I hg mk.mgC ?_ (by decide))
  refine PySem.W.callWith_KW0 (h₀ := X.base) I.ok.mod.kin mk.M.kp hall (thn (hkw.run pos pins s σ H _ I h) ?_) hpl
  rintro ws s2 ⟨zs, H2, I2, rz, a, b, t, u, rfl, h1, h2, hz, k⟩
  refine ⟨I2.kIn, ?_⟩
  rw [hks]
  exact run_makeK (us := []) (vs := []) mk.M mk.G hr hb pass0 I2 .nil rz rfl rfl (mk_pr h1 h2 hz k)
end
abbrev sPair : Stmt := top 22
def spPair (C : Addr) : Sp := fun vs H Q _ => ∃ a b t u, vs = [.ref a, .ref b] ∧ Th C H a t ∧ Th C H b u ∧ 1 + t.size + u.size ≤ 4000 ∧ ∀ H', Same H H' → Q (.bl true) H'
theorem ne_l (l r : Tr) : decide (Tr.pr l r = l) = false := decide_eq_false fun z => by
  have := congrArg Tr.size z
  simp only [Tr.size] at this
  omega
theorem ne_r (l r : Tr) : decide (Tr.pr l r = r) = false := decide_eq_false fun z => by
  have := congrArg Tr.size z
  simp only [Tr.size] at this
  omega
section
variable {P : Program} {w : World} {K : PySem.W.Frag} {mg : Str → Option Value} {base : Heap} {C fI : Addr} {fdI : FuncData} {g : List Value → List Value → List Value}
theorem scPr : FnScope ["_law_ahead", "_law_beyond", "_law_one", "_law_other", "_law_turn", "_law_both"] ["_law_ahead", "_law_beyond"] (defScope sPair) := ⟨rfl, rfl, rfl, by decide +kernel, rfl, by decide +kernel, by decide +kernel⟩
theorem ok_pair {f : Addr} {fd : FuncData} (F : Fun K "_law_pair" "_law_pair" sPair f fd) (T : Txt K mg C) (B : Blt mg) (mk : Maker P w K mg base C fI fdI) (kbr : KBn K fdI ["self", "first", "second"] 1 ["second", "first"] g (fun vs zs => vs ++ zs.reverse))
    (SS : Spc P w K mg base C "__str__" 2 ["self"] (spStr C)) (SE : Spc P w K mg base C "__eq__" 2 ["self", "other"] (spEqT C)) (MH : Mth P w K mg base C "head" 1 ["self"] (spHead C)) (MT : Mth P w K mg base C "tail" 1 ["self"] (spTail C)) (DI : Def P w K mg base "_law_is" 7 ["_law_thing_here", "_law_text"] (spIs C)) :
    FnOk P w K mg base CX0 8 f fd ["_law_ahead", "_law_beyond"] (spPair C) := by
  refine F.ok scPr (fun vs H Q E h => ?_) (fun cdv A outer s H vs Q E hr h => ?_)
  · obtain ⟨a, b, t, u, rfl, _⟩ := h
    rfl
  · obtain ⟨a, b, t, u, rfl, ha, hb, hz, k⟩ := h
    have hr1 : Room 1 _ := hr.mono (by decide)
    have hr2 : Room 2 _ := hr.mono (by decide)
    have hr3 : Room 3 _ := hr.mono (by decide)
    have hr4 : Room 4 _ := hr.mono (by decide)
    refine ⟨_, pss_cons (ps_par (i := 2) (j := 3) (by rfl) scPr.nd rfl rfl (by decide) rfl rfl (pa_cons (pe_callTy (call_strT SS hr4) (by rfl) B.str PyProof.Rows.boot_str (pa_cons (pv 0) pa_nil)) (pa_cons (pe_callTy (call_strT SS hr4) (by rfl) B.str PyProof.Rows.boot_str (pa_cons (pv 1) pa_nil)) pa_nil)) (by rfl)) (pss_cons (ps_for PassesOwn.never rfl (pi_range1 rfl B.range (pa_cons pe_int pa_nil)) (pg_name (i := 4) scPr.nd rfl (Or.inl rfl)) (pss_cons (ps_set (i := 5) scPr.nd rfl (Or.inl rfl) (pe_ix ix_list (pe_lst (pa_cons (pe_T2 mk hr3 rfl (pa_cons (pv 0) (pa_cons (pv 1) pa_nil))) (pa_cons (pe_TKr mk kbr hr3 rfl (pk_cons (pv 1) (pk_cons (pv 0) pk_nil))) pa_nil))) (pv 4) (fun _ _ => rfl))) (pss_cons (ps_if (PW.pt (pw_or (pt_not (pt_val (pe_def DI hr rfl (pa_cons (pv 5) (pa_cons (pe_op op_addX (pe_op op_addX (pe_op op_addX pe_str (pv 2)) (pv 3)) pe_str) pa_nil))))) (pw_or (pt_not (pt_val (pe_def DI hr rfl (pa_cons (pv 0) (pa_cons (pv 2) pa_nil))))) (pw_or1 (pt_not (pt_val (pe_def DI hr rfl (pa_cons (pv 1) (pa_cons (pv 3) pa_nil))))))))) (pss_one (ps_ret pe_bl)) pss_nil) (pss_cons (ps_if (PW.pt (pw_or (pt_not (pt_val (pe_def DI hr rfl (pa_cons (pe_mth MH T hr1 (pv 5)) (pa_cons (pv 2) pa_nil))))) (pw_or (pt_not (pt_val (pe_def DI hr rfl (pa_cons (pe_mth MT T hr1 (pv 5)) (pa_cons (pv 3) pa_nil))))) (pw_or1 (pt_not (pt_val (pe_def DI hr rfl (pa_cons (pv 5) (pa_cons (pe_callTy (call_strT SS hr4) (by rfl) B.str PyProof.Rows.boot_str (pa_cons (pv 5) pa_nil)) pa_nil))))))))) (pss_one (ps_ret pe_bl)) pss_nil) (pss_one (ps_if (PW.pt (pw_or (pt_cmpR (op_eqT SE hr2) (pv 5) (pv 0) (nomark _)) (pw_or (pt_cmpR (op_eqT SE hr2) (pv 5) (pv 1) (nomark _)) (pw_or1 (pt_cmpR (op_inTh SE hr3) (pv 5) (pe_lst (pa_cons (pv 0) (pa_cons (pv 1) pa_nil))) rfl))))) (pss_one (ps_ret pe_bl)) pss_nil)))))) (pss_one (ps_ret pe_bl))), ?_⟩
    have hsl := line4
    have hct := Tr.codes_len t
    have hcu := Tr.codes_len u
    refine ⟨_, rfl, a, t, rfl, ha, by omega, fun H1 s1 => ?_⟩
    refine ⟨_, rfl, b, u, rfl, hb.same s1, by omega, fun H2 s2 => ?_⟩
    refine ⟨_, _, rfl, ?_⟩
    have s02 := s1.trans s2
    refine ⟨2, rfl, by decide, by decide, for_range (n := 2) (fun i σ H' => ∃ x4 x5 : Option V, σ = [some (.ref a), some (.ref b), some (.str t.text), some (.str u.text), x4, x5] ∧ Same H H') ⟨none, none, rfl, s02⟩ ?_ ?_⟩
    · rintro i σ H3 hi ⟨x4, x5, rfl, s3⟩
      have ha3 := ha.same s3
      have hb3 := hb.same s3
      refine ⟨_, rfl, _, rfl, a, b, t, u, rfl, ha3, hb3, hz, fun z1 H4 s4 _ h4 => ?_⟩
      refine ⟨_, rfl, _, rfl, a, b, t, u, rfl, ha3.same s4, hb3.same s4, hz, fun z2 H5 s5 _ h5 => ?_⟩
      refine ⟨by show 2 ≤ sizeLine; decide, fun L nL => ?_⟩
      have s6 := Same.new nL (o := .lst [.ref z1, .ref z2])
      obtain ⟨z, hzat, hzt⟩ : ∃ z, atI [V.ref z1, V.ref z2] ((0 : Int) + (i : Nat)) = some (.ref z) ∧ Th C (upd H5 L (.lst [.ref z1, .ref z2])) z (.pr t u) := by
        match i, hi with
        | 0, _ => exact ⟨z1, rfl, (h4.same s5).same s6⟩
        | 1, _ => exact ⟨z2, rfl, h5.same s6⟩
      refine ⟨_, rfl, L, _, _, .ref z, rfl, rfl, SqL.of upd_same, hzat, ?_⟩
      have s36 := (s4.trans s5).trans s6
      have ha6 := ha3.same s36
      have hb6 := hb3.same s36
      have sH6 := s3.trans s36
      revert hzt ha6 hb6 sH6
      generalize upd H5 L (.lst [.ref z1, .ref z2]) = H6
      intro hzt ha6 hb6 sH6
      have hzs : (Tr.pr t u).size ≤ 4000 := by simp only [Tr.size]; omega
      refine ⟨_, rfl, _, rfl, [40], t.codes, congrArg V.str c_40, rfl, by simp; omega, _, rfl, [40] ++ t.codes, u.codes, rfl, rfl, by simp; omega, [40] ++ t.codes ++ u.codes, [41], rfl, congrArg V.str c_41, by simp; omega, z, .pr t u, by rw [pair_text]; rfl, hzt, hzs, fun H7 s7 => ⟨_, rfl, iteF ?_⟩⟩
      refine ⟨_, rfl, _, rfl, a, t, rfl, ha6.same s7, by omega, fun H8 s8 => ⟨_, rfl, iteF ?_⟩⟩
      refine ⟨_, rfl, _, rfl, b, u, rfl, (hb6.same s7).same s8, by omega, fun H9 s9 => ⟨_, rfl, iteF ?_⟩⟩
      have s69 := (s7.trans s8).trans s9
      have hz9 := hzt.same s69
      obtain ⟨dx9, f9, g9, h9⟩ := hz9.obj
      refine ⟨_, rfl, z, dx9, _, rfl, h9, tf_head _ _ _, z, _, rfl, hz9, fun y hy => ?_⟩
      refine ⟨_, rfl, y, t, rfl, hy, by omega, fun H10 s10 => ⟨_, rfl, iteF ?_⟩⟩
      have hz10 := hz9.same s10
      obtain ⟨dx10, f10, g10, h10⟩ := hz10.obj
      refine ⟨_, rfl, z, dx10, _, rfl, h10, tf_tail _ _ _, z, _, rfl, hz10, fun y2 hy2 => ?_⟩
      refine ⟨_, rfl, y2, u, rfl, hy2, by omega, fun H11 s11 => ⟨_, rfl, iteF ?_⟩⟩
      have hz11 := hz10.same s11
      refine ⟨_, rfl, _, rfl, z, .pr t u, rfl, hz11, hzs, fun H12 s12 => ?_⟩
      have hz12 := hz11.same s12
      refine ⟨z, .pr t u, rfl, hz12, hzs, fun H13 s13 => ⟨_, rfl, iteF ?_⟩⟩
      have s913 := ((s10.trans s11).trans s12).trans s13
      have s613 := s69.trans s913
      refine ⟨_, rfl, _, rfl, z, a, .pr t u, t, rfl, rfl, hzt.same s613, ha6.same s613, hzs, fun H14 s14 => ⟨_, rfl, ?_⟩⟩
      rw [ne_l]
      refine iteF ?_
      have s614 := s613.trans s14
      refine ⟨_, rfl, _, rfl, z, b, .pr t u, u, rfl, rfl, hzt.same s614, hb6.same s614, hzs, fun H15 s15 => ⟨_, rfl, ?_⟩⟩
      rw [ne_r]
      refine iteF ?_
      have s615 := s614.trans s15
      refine ⟨_, rfl, _, rfl, _, rfl, by show 2 ≤ sizeLine; decide, fun M nM => ?_⟩
      have s16 := s615.trans (Same.new nM (o := .lst [.ref a, .ref b]))
      refine ⟨z, .pr t u, M, _, [t, u], rfl, hzt.same s16, rfl, upd_same, .cons ⟨a, rfl, ha6.same s16⟩ (.cons ⟨b, rfl, hb6.same s16⟩ .nil), by simp; omega, fun H17 s17 => ⟨_, rfl, ?_⟩⟩
      have ea : ([t, u].any fun x => decide (x = Tr.pr t u)) = false := by
        have e1 : decide (t = Tr.pr t u) = false := decide_eq_false fun zz => by
          have := congrArg Tr.size zz
          simp only [Tr.size] at this
          omega
        have e2 : decide (u = Tr.pr t u) = false := decide_eq_false fun zz => by
          have := congrArg Tr.size zz
          simp only [Tr.size] at this
          omega
        simp only [List.any_cons, e1, e2, List.any_nil]
        rfl
      rw [ea]
      refine iteF ?_
      exact ⟨_, _, rfl, (sH6.trans s16).trans s17⟩
    · rintro σ H3 ⟨x4, x5, rfl, s3⟩
      exact k H3 s3
end
end Js

set_option Elab.async false
set_option linter.all false
set_option maxRecDepth 100000
set_option maxHeartbeats 2000000
namespace Js
open PySem L2 PyProof.Rows
theorem mk_non {C : Addr} {H : Hp} {Q : VK} {E : XK} (k : ∀ x H', Same H H' → H x = none → Th C H' x .nil → Q (.ref x) H') :
    ∀ x dx, H x = none → H dx = none → dx ≠ x → spInit C (.ref x :: ([.non, .non] ++ [])) (upd (upd H dx (.own x)) x (.ins C dx [])) (fun v H3 => v = .non ∧ Q (.ref x) H3) E := fun x dx h1 h2 h3 => mk_nil (E := E) k x dx h1 h2 h3
/-- Thing(None, None), Thing(first=None, second=None) -/
def tTN (C : Addr) (t : TA) : TE := fun σ H Q => t σ H fun vs H1 => vs = [.non, .non] ∧ ∀ z H', Same H1 H' → H1 z = none → Th C H' z .nil → Q (.ref z) H'
section
variable {X : Cx} {C fI : Addr} {fdI : FuncData} {p pos : Pos} {e : Expr} {es : List Expr} {kws : List Keyword} {t tk : TA} {g : List Value → List Value → List Value}
theorem pe_TN (mk : Maker X.prog X.w X.K X.mg X.base C fI fdI) (hr : Room 3 X.A) (hg : Gl X "Thing") (ha : PA X (e :: es) t)
    (he : starEach (e :: es) X.env = (false, eval e X.env) :: starEach es X.env := by rfl) (hpl : (backTo pos (starEach es X.env)).any (·.1) = false := by rfl) : PE X (.Call (.Name "Thing" p) (e :: es) [] pos) (tTN C t) := by
  refine ⟨fun pins s σ H Q I h => ?_⟩
  refine wpAny_Call_Name_kw (ld_glob I hg mk.mgC ?_ (by decide))
  refine PySem.W.callWith_K (h₀ := X.base) I.ok.mod.kin mk.M.kp (thn (ha.run pos pins s σ H _ I h) fun us s1 ⟨vs, H1, I1, r, q⟩ => ⟨I1.kIn, ?_⟩) he hpl
  obtain ⟨rfl, k⟩ := q
  exact run_make mk.M mk.G hr mk.b2 .nil pass0 I1 r (mk_non k)
theorem pe_TNk (mk : Maker X.prog X.w X.K X.mg X.base C fI fdI) (hb : KBn X.K fdI ["self", "first", "second"] 1 ["first", "second"] g (fun vs zs => vs ++ zs)) (hr : Room 3 X.A) (hg : Gl X "Thing") (hkw : PK X kws tk)
    (hall : (backToKw pos (keywordEach kws X.env)).all (·.1.isSome) = true := by rfl) (hks : (backToKw pos (keywordEach kws X.env)).filterMap (·.1) = (["first", "second"] : List Str) := by rfl)
    (hpl : ((backTo pos (starEach [] X.env)).any (·.1) || (backToKw pos (keywordEach kws X.env)).any (·.1.isNone)) = false := by rfl) : PE X (.Call (.Name "Thing" p) [] kws pos) (tTN C tk) := by
  refine ⟨fun pins s σ H Q I h => ?_⟩
  refine wpAny_Call_Name_kw (ld_glob I hg mk.mgC ?_ (by decide))
  refine PySem.W.callWith_KW0 (h₀ := X.base) I.ok.mod.kin mk.M.kp hall (thn (hkw.run pos pins s σ H _ I h) ?_) hpl
  rintro ws s2 ⟨zs, H2, I2, rz, rfl, k⟩
  refine ⟨I2.kIn, ?_⟩
  rw [hks]
  exact run_makeK (us := []) (vs := []) mk.M mk.G hr hb pass0 I2 .nil rz rfl rfl (mk_non k)
end
end Js

set_option Elab.async false
set_option linter.all false
set_option maxRecDepth 100000
set_option maxHeartbeats 2000000
namespace Js
open PySem L2
abbrev sLaw : Stmt := top 23
def spLaw (K : PySem.W.Frag) : Sp := fun vs H Q _ => ∃ (a : Addr) (ns : List Int), vs = [.ref a] ∧ SqL K H a (ns.map V.int) ∧ ns.length ≤ 63 ∧ ∀ H', Q (.bl true) H'
structure Lib1 (P : Program) (w : World) (K : PySem.W.Frag) (mg : Str → Option Value) (base : Heap) (C fI : Addr) (fdI : FuncData) (g : List Value → List Value → List Value) : Prop extends Lib P w K mg base C fI fdI where
  kd : KdC K C
  kb : KBn K fdI ["self", "first", "second"] 1 ["first", "second"] g (fun vs zs => vs ++ zs)
  thing : Def P w K mg base "_law_thing" 4 ["_law_bag_here", "_law_many"] (spThing C)
  pair : Def P w K mg base "_law_pair" 8 ["_law_ahead", "_law_beyond"] (spPair C)
  is_ : Def P w K mg base "_law_is" 7 ["_law_thing_here", "_law_text"] (spIs C)
  ref : Def P w K mg base "_law_refused" 5 ["_law_ahead", "_law_beyond"] (spRef C)
  size : Def P w K mg base "_law_of_size" 16 ["_law_many", "_law_known"] (spSize C 12)
theorem mult25 (n : Nat) : 2 ≤ (if (if ((n : Nat) : Int) < 5 then ((n : Nat) : Int) else 5) > 2 then (if ((n : Nat) : Int) < 5 then ((n : Nat) : Int) else 5) else 2) ∧ (if (if ((n : Nat) : Int) < 5 then ((n : Nat) : Int) else 5) > 2 then (if ((n : Nat) : Int) < 5 then ((n : Nat) : Int) else 5) else 2) ≤ 5 := by
  constructor
  · split <;> omega
  · split <;> split <;> omega
theorem menu_at (d : Int) (h0 : 0 ≤ d) (h1 : d < 3) (a b c : Int) : ∃ x : Int, atI [V.int a, V.int b, V.int c] d = some (.int x) ∧ (x = a ∨ x = b ∨ x = c) := by
  obtain ⟨n, rfl⟩ := Int.eq_ofNat_of_zero_le h0
  match n, h1 with
  | 0, _ => exact ⟨a, rfl, .inl rfl⟩
  | 1, _ => exact ⟨b, rfl, .inr (.inl rfl)⟩
  | 2, _ => exact ⟨c, rfl, .inr (.inr rfl)⟩
  | n + 3, h => exact absurd h (by omega)
theorem Kn.same {C : Addr} {H H' : Hp} {kvs : List (Key × V)} (h : Kn C H kvs) (s : Same H H') : Kn C H' kvs := ⟨h.nil, fun n v e => by
  obtain ⟨m, a, t, e1, e2, h1, h2⟩ := h.all n v e
  exact ⟨m, a, t, e1, e2, h1.same s, h2⟩⟩
theorem kn0 {C n0 : Addr} {H : Hp} (hn : Th C H n0 .nil) : Kn C H [((.inl 0 : Key), V.ref n0)] := ⟨rfl, fun n v e => by
  by_cases h : (.inl 0 : Key) = .inl n
  · rw [valV_pos h] at e
    cases Option.some.inj e
    exact ⟨0, n0, .nil, (Sum.inl.inj h).symm, rfl, hn, rfl⟩
  · rw [valV_neg h, valV_nil] at e
    cases e⟩
theorem nil_dotV : (V.str ".") = V.str Tr.nil.text := by decide +kernel
theorem dec_text (t u : Tr) : decide (V.str t.text = V.str u.text) = decide (t = u) := by
  by_cases h : t = u
  · rw [h, decide_eq_true rfl, decide_eq_true rfl]
  · rw [decide_eq_false h, decide_eq_false]
    intro z
    exact h (Tr.text_inj (V.str.inj z))
section
variable {P : Program} {w : World} {K : PySem.W.Frag} {mg : Str → Option Value} {base : Heap} {C fI : Addr} {fdI : FuncData} {g : List Value → List Value → List Value}
theorem scL : FnScope ["_law_script", "_law_k", "_law_bag_here", "_law_one", "_law_other", "_law_nil", "_law_known", "_law_great", "_law_half"] ["_law_script"] (defScope sLaw) := ⟨rfl, rfl, rfl, by decide +kernel, rfl, by decide +kernel, by decide +kernel⟩
theorem ok_law {f : Addr} {fd : FuncData} (F : Fun K "law" "law" sLaw f fd) (L : Lib1 P w K mg base C fI fdI g) : FnOk P w K mg base CX0 17 f fd ["_law_script"] (spLaw K) := by
  refine F.ok scL (fun vs H Q E h => ?_) (fun cdv A outer s H vs Q E hr h => ?_)
  · obtain ⟨a, ns, rfl, _⟩ := h
    rfl
  · obtain ⟨a, ns, rfl, hS, hlen, k⟩ := h
    have hr1 : Room 1 _ := hr.mono (by decide)
    have hr2 : Room 2 _ := hr.mono (by decide)
    have hr3 : Room 3 _ := hr.mono (by decide)
    have hr4 : Room 4 _ := hr.mono (by decide)
    have hr5 : Room 5 _ := hr.mono (by decide)
    have hr7 : Room 7 _ := hr.mono (by decide)
    have hr8 : Room 8 _ := hr.mono (by decide)
    refine ⟨_, pss_cons (ps_for PassesOwn.never rfl (pi_range1 rfl L.B.range (pa_cons (pe_callB (call_max2 rfl) (by rfl) L.B.max (by decide +kernel) (pa_cons pe_int (pa_cons (pe_callB (call_min2 rfl) (by rfl) L.B.min (by decide +kernel) (pa_cons pe_int (pa_cons (pe_callB call_len_seq (by rfl) L.B.len PySem.boot_len (pa_cons (pv 0) pa_nil)) pa_nil))) pa_nil))) pa_nil)) (pg_name (i := 1) scL.nd rfl (Or.inl rfl)) (pss_cons (ps_set (i := 2) scL.nd rfl (Or.inl rfl) (pe_def L.bag hr1 rfl (pa_cons (pv 0) (pa_cons (pv 1) pa_nil)))) (pss_cons (ps_set (i := 3) scL.nd rfl (Or.inl rfl) (pe_def L.thing hr4 rfl (pa_cons (pv 2) (pa_cons (pe_def L.take hr1 rfl (pa_cons (pv 2) (pa_cons (pe_ix (r := rIxL K) ix_list (pe_lst (pa_cons pe_int (pa_cons pe_int (pa_cons pe_int pa_nil)))) (pe_def L.take hr1 rfl (pa_cons (pv 2) (pa_cons pe_int pa_nil))) (fun _ _ => rfl)) pa_nil))) pa_nil)))) (pss_cons (ps_set (i := 4) scL.nd rfl (Or.inl rfl) (pe_def L.thing hr4 rfl (pa_cons (pv 2) (pa_cons (pe_def L.take hr1 rfl (pa_cons (pv 2) (pa_cons (pe_ix (r := rIxL K) ix_list (pe_lst (pa_cons pe_int (pa_cons pe_int (pa_cons pe_int pa_nil)))) (pe_def L.take hr1 rfl (pa_cons (pv 2) (pa_cons pe_int pa_nil))) (fun _ _ => rfl)) pa_nil))) pa_nil)))) (pss_cons (ps_if (PW.pt (pw_or (pt_not (pt_val (pe_def L.pair hr8 rfl (pa_cons (pv 3) (pa_cons (pv 4) pa_nil))))) (pw_or (pt_not (pt_val (pe_def L.pair hr8 rfl (pa_cons (pv 3) (pa_cons (pv 3) pa_nil))))) (pw_or1 (pt_not (pt_val (pe_def L.pair hr8 rfl (pa_cons (pe_T0 L.made hr3 rfl) (pa_cons (pv 4) pa_nil))))))))) (pss_one (ps_ret pe_bl)) pss_nil) (pss_one (ps_if (PW.pt (pw_or (pt_cmpR op_ne (pe_cmpR (op_eqT L.eq hr2) (pv 3) (pv 4) (nomark _)) (pe_cmpR op_eq (pe_callTy (call_strT L.str hr4) (by rfl) L.B.str PyProof.Rows.boot_str (pa_cons (pv 3) pa_nil)) (pe_callTy (call_strT L.str hr4) (by rfl) L.B.str PyProof.Rows.boot_str (pa_cons (pv 4) pa_nil)) (nomark _)) (nomark _)) (pw_or1 (pt_cmpR op_ne (pe_cmpR (op_neT L.eq L.T hr3) (pv 3) (pv 4) (nomark _)) (pe_cmpR op_ne (pe_callTy (call_strT L.str hr4) (by rfl) L.B.str PyProof.Rows.boot_str (pa_cons (pv 3) pa_nil)) (pe_callTy (call_strT L.str hr4) (by rfl) L.B.str PyProof.Rows.boot_str (pa_cons (pv 4) pa_nil)) (nomark _)) (nomark _))))) (pss_one (ps_ret pe_bl)) pss_nil))))))) (pss_cons (ps_set (i := 5) scL.nd rfl (Or.inl rfl) (pe_T0 L.made hr3 rfl)) (pss_cons (ps_if (PW.pt (pw_or (pt_cmpR (op_neT L.eq L.T hr3) (pe_TN L.made hr3 rfl (pa_cons pe_non (pa_cons pe_non pa_nil))) (pv 5) (nomark _)) (pw_or1 (pt_cmpR (op_neT L.eq L.T hr3) (pe_TNk L.made L.kb hr3 rfl (pk_cons pe_non (pk_cons pe_non pk_nil))) (pv 5) (nomark _))))) (pss_one (ps_ret pe_bl)) pss_nil) (pss_cons (ps_if (PW.pt (pw_or (pt_not (pt_val (pe_def L.is_ hr7 rfl (pa_cons (pv 5) (pa_cons pe_str pa_nil))))) (pw_or (pt_not (pt_val (pe_def L.is_ hr7 rfl (pa_cons (pe_mth L.head L.T hr1 (pv 5)) (pa_cons pe_str pa_nil))))) (pw_or (pt_not (pt_val (pe_def L.is_ hr7 rfl (pa_cons (pe_mth L.tail L.T hr1 (pv 5)) (pa_cons pe_str pa_nil))))) (pw_or1 (pt_truthR (pv 5) (tru_T L.len L.kd.nb hr2) (by intro _; rfl))))))) (pss_one (ps_ret pe_bl)) pss_nil) (pss_cons (ps_set (i := 6) scL.nd rfl (Or.inl rfl) (pe_disp (pps_cons pe_int (pv 5) pps_nil) (by rfl) (by rfl) (fun z => by cases z) (by decide))) (pss_cons (ps_par (i := 7) (j := 8) (by rfl) scL.nd rfl rfl (by decide) rfl rfl (pa_cons (pe_def (k := 16) L.size hr rfl (pa_cons pe_int (pa_cons (pv 6) pa_nil))) (pa_cons (pe_def (k := 16) L.size hr rfl (pa_cons pe_int (pa_cons (pv 6) pa_nil))) pa_nil)) (by rfl)) (pss_cons (ps_if (PW.pt (pw_or (pt_cmpR op_ne (pe_callB (call_lenT L.len hr2) (by rfl) L.B.len PySem.boot_len (pa_cons (pv 7) pa_nil)) pe_int (nomark _)) (pw_or (pt_not (pt_val (pe_def L.ref hr5 rfl (pa_cons (pv 7) (pa_cons (pv 5) pa_nil))))) (pw_or1 (pt_not (pt_val (pe_def L.ref hr5 rfl (pa_cons (pv 8) (pa_cons (pv 8) pa_nil))))))))) (pss_one (ps_ret pe_bl)) pss_nil) (pss_cons (ps_if (pt_not (pt_val (pe_def L.ref hr5 rfl (pa_cons (pv 5) (pa_cons (pv 7) pa_nil))))) (pss_one (ps_ret pe_bl)) pss_nil) (pss_one (ps_ret (pe_cmpR op_eq (pe_callB (call_lenT L.len hr2) (by rfl) L.B.len PySem.boot_len (pa_cons (pe_T2 L.made hr3 rfl (pa_cons (pv 8) (pa_cons (pe_def (k := 16) L.size hr rfl (pa_cons pe_int (pa_cons (pv 6) pa_nil))) pa_nil))) pa_nil)) pe_int (nomark _))))))))))), ?_⟩
    have hsl := line4
    refine ⟨_, rfl, a, _, rfl, .inl hS, _, _, rfl, _, _, rfl, ?_⟩
    rw [List.length_map]
    have hj := mult25 ns.length
    revert hj
    generalize (if (if ((ns.length : Nat) : Int) < 5 then ((ns.length : Nat) : Int) else 5) > 2 then (if ((ns.length : Nat) : Int) < 5 then ((ns.length : Nat) : Int) else 5) else 2) = j
    intro hj
    refine ⟨j, rfl, by omega, by omega, for_range (n := j.toNat) (fun i σ H' => ∃ x1 x2 x3 x4 : Option V, σ = [some (.ref a), x1, x2, x3, x4, none, none, none, none] ∧ Same H H') ⟨none, none, none, none, rfl, Same.refl H⟩ ?_ ?_⟩
    · rintro i σ H0 hi ⟨x1, x2, x3, x4, rfl, s0⟩
      refine ⟨_, rfl, _, rfl, a, ns, i, by rw [Int.zero_add]; rfl, s0.seq hS, by omega, fun p H1 s1 np hbag => ?_⟩
      have hp0 : H p = none := s0.free np
      have s01 : Same H H1 := s0.trans s1
      have kb0 : KB p H1 H1 := KB.refl p H1
      refine ⟨_, rfl, _, rfl, (by show 3 ≤ sizeLine; decide), fun pl1 npl1 => ?_⟩
      have hpp1 : pl1 ≠ p := fun z => by
        obtain ⟨bx, hbx⟩ := hbag.some
        rw [z, hbx] at npl1
        cases npl1
      have kba1 : KB p H1 (upd H1 pl1 (.lst [.int 201, .int 20, .int 4])) := kb0.trans (KB.of (Same.new npl1))
      have baga1 := hbag.same (Same.new (o := .lst [.int 201, .int 20, .int 4]) npl1)
      have hpl1 : (upd H1 pl1 (.lst [.int 201, .int 20, .int 4])) pl1 = some (.lst [.int 201, .int 20, .int 4]) := upd_same
      have kta1 : KT H1 (upd H1 pl1 (.lst [.int 201, .int 20, .int 4])) := KT.new npl1
      revert kba1 baga1 hpl1 kta1
      generalize upd H1 pl1 (.lst [.int 201, .int 20, .int 4]) = A1
      intro kba1 baga1 hpl1 kta1
      refine ⟨_, rfl, p, 3, rfl, baga1, by decide, by decide, fun d1 B1 kbb1 bagb1 hd0 hd1 => ?_⟩
      obtain ⟨x1, hx1, hx'1⟩ := menu_at d1 hd0 hd1 201 20 4
      refine ⟨pl1, _, _, _, rfl, rfl, SqL.of (kbb1 _ _ hpp1 hpl1), hx1, p, x1, rfl, bagb1, by omega, by omega, fun e1 E1 kbe1 bage1 he0 he1 => ?_⟩
      obtain ⟨n1, rfl⟩ := Int.eq_ofNat_of_zero_le he0
      refine ⟨p, n1, rfl, bage1, by omega, fun z1 t1 D1 kbd1 bagD1 hz1 hs1 => ?_⟩
      have kbD1 : KB p H1 D1 := ((kba1.trans kbb1).trans kbe1).trans kbd1
      have ktD1 : KT H1 D1 := ((kta1.trans (baga1.kt kbb1)).trans (bagb1.kt kbe1)).trans (bage1.kt kbd1)
      have hl1 : t1.size ≤ 200 := by omega
      refine ⟨_, rfl, _, rfl, (by show 3 ≤ sizeLine; decide), fun pl2 npl2 => ?_⟩
      have hpp2 : pl2 ≠ p := fun z => by
        obtain ⟨bx, hbx⟩ := bagD1.some
        rw [z, hbx] at npl2
        cases npl2
      have kba2 : KB p H1 (upd D1 pl2 (.lst [.int 201, .int 20, .int 4])) := kbD1.trans (KB.of (Same.new npl2))
      have baga2 := bagD1.same (Same.new (o := .lst [.int 201, .int 20, .int 4]) npl2)
      have hpl2 : (upd D1 pl2 (.lst [.int 201, .int 20, .int 4])) pl2 = some (.lst [.int 201, .int 20, .int 4]) := upd_same
      have kta2 : KT D1 (upd D1 pl2 (.lst [.int 201, .int 20, .int 4])) := KT.new npl2
      revert kba2 baga2 hpl2 kta2
      generalize upd D1 pl2 (.lst [.int 201, .int 20, .int 4]) = A2
      intro kba2 baga2 hpl2 kta2
      refine ⟨_, rfl, p, 3, rfl, baga2, by decide, by decide, fun d2 B2 kbb2 bagb2 hd0 hd1 => ?_⟩
      obtain ⟨x2, hx2, hx'2⟩ := menu_at d2 hd0 hd1 201 20 4
      refine ⟨pl2, _, _, _, rfl, rfl, SqL.of (kbb2 _ _ hpp2 hpl2), hx2, p, x2, rfl, bagb2, by omega, by omega, fun e2 E2 kbe2 bage2 he0 he1 => ?_⟩
      obtain ⟨n2, rfl⟩ := Int.eq_ofNat_of_zero_le he0
      refine ⟨p, n2, rfl, bage2, by omega, fun z2 t2 D2 kbd2 bagD2 hz2 hs2 => ?_⟩
      have kbD2 : KB p H1 D2 := ((kba2.trans kbb2).trans kbe2).trans kbd2
      have ktD2 : KT D1 D2 := ((kta2.trans (baga2.kt kbb2)).trans (bagb2.kt kbe2)).trans (bage2.kt kbd2)
      have hl2 : t2.size ≤ 200 := by omega
      have g1 : Th C D2 z1 t1 := hz1.kt ktD2
      have g2 : Th C D2 z2 t2 := hz2
      have sD : Same H D2 := fun b o hb => kbD2 _ _ (ne_of_none hb hp0) (s01 _ _ hb)
      -- the pairs
      refine ⟨_, rfl, _, rfl, z1, z2, t1, t2, rfl, g1, g2, by omega, fun H3 s3 => ⟨_, rfl, iteF ?_⟩⟩
      refine ⟨_, rfl, _, rfl, z1, z1, t1, t1, rfl, g1.same s3, g1.same s3, by omega, fun H4 s4 => ⟨_, rfl, iteF ?_⟩⟩
      refine fun y H5 s5 _ hy => ⟨_, rfl, y, z2, .nil, t2, rfl, hy, ((g2.same s3).same s4).same s5, by simp only [Tr.size]; omega, fun H6 s6 => ⟨_, rfl, iteF ?_⟩⟩
      have s26 := ((s3.trans s4).trans s5).trans s6
      have k1 := g1.same s26
      have k2 := g2.same s26
      refine ⟨_, rfl, _, rfl, z1, z2, t1, t2, rfl, rfl, k1, k2, by omega, fun H7 s7 => ?_⟩
      refine ⟨_, rfl, z1, t1, rfl, k1.same s7, by omega, fun H8 s8 => ?_⟩
      refine ⟨_, rfl, z2, t2, rfl, (k2.same s7).same s8, by omega, fun H9 s9 => ?_⟩
      refine ⟨rfl, rfl, _, rfl, ?_⟩
      rw [dec_text, neB]
      refine iteF ?_
      have s69 := (s7.trans s8).trans s9
      have m1 := k1.same s69
      have m2 := k2.same s69
      refine ⟨_, rfl, _, rfl, z1, z2, t1, t2, rfl, rfl, m1, m2, by omega, fun H10 s10 => ?_⟩
      refine ⟨_, rfl, z1, t1, rfl, m1.same s10, by omega, fun H11 s11 => ?_⟩
      refine ⟨_, rfl, z2, t2, rfl, (m2.same s10).same s11, by omega, fun H12 s12 => ?_⟩
      refine ⟨rfl, rfl, _, rfl, ?_⟩
      rw [dec_text, neB]
      refine iteF ?_
      exact ⟨_, _, _, _, rfl, (sD.trans s26).trans (s69.trans ((s10.trans s11).trans s12))⟩
    · rintro σ H0 ⟨x1, x2, x3, x4, rfl, s0⟩
      refine fun n0 H1 s1 _ hn => ?_
      have eN : (!decide (Tr.nil = Tr.nil)) = false := by decide
      refine ⟨rfl, fun y1 H2 s2 _ hy1 => ⟨_, rfl, y1, n0, .nil, .nil, rfl, rfl, hy1, hn.same s2, by decide, fun H3 s3 => ⟨_, rfl, ?_⟩⟩⟩
      rw [eN]
      refine iteF ?_
      have hn3 := (hn.same s2).same s3
      refine ⟨rfl, fun y2 H4 s4 _ hy2 => ⟨_, rfl, y2, n0, .nil, .nil, rfl, rfl, hy2, hn3.same s4, by decide, fun H5 s5 => ⟨_, rfl, ?_⟩⟩⟩
      rw [eN]
      refine iteF ?_
      have hn5 := (hn3.same s4).same s5
      refine ⟨_, rfl, n0, .nil, congrArg (fun z => [V.ref n0, z]) nil_dotV, hn5, by decide, fun H6 s6 => ⟨_, rfl, iteF ?_⟩⟩
      have hn6 := hn5.same s6
      obtain ⟨dx6, f6, g6, h6⟩ := hn6.obj
      refine ⟨_, rfl, n0, dx6, _, rfl, h6, tf_head _ _ _, n0, _, rfl, hn6, fun y hy => ?_⟩
      refine ⟨y, .nil, congrArg (fun z => [V.ref y, z]) nil_dotV, hy, by decide, fun H7 s7 => ⟨_, rfl, iteF ?_⟩⟩
      have hn7 := hn6.same s7
      obtain ⟨dx7, f7, g7, h7⟩ := hn7.obj
      refine ⟨_, rfl, n0, dx7, _, rfl, h7, tf_tail _ _ _, n0, _, rfl, hn7, fun y3 hy3 => ?_⟩
      refine ⟨y3, .nil, congrArg (fun z => [V.ref y3, z]) nil_dotV, hy3, by decide, fun H8 s8 => ⟨_, rfl, iteF ?_⟩⟩
      have hn8 := hn7.same s8
      refine ⟨_, rfl, n0, .nil, rfl, hn8, by decide, ?_⟩
      have eZ : (((Tr.nil.size : Nat) : Int) != 0) = false := by decide
      rw [eZ]
      refine iteF ?_
      -- the dict
      refine fun D nD => ⟨_, rfl, upd_same, [(.inl 0, .ref n0)], rfl, by show 1 ≤ 15; decide, ?_⟩
      rw [upd_upd]
      have e9 : mergeK [] [((.inl 0 : Key), V.ref n0)] = [(.inl 0, .ref n0)] := rfl
      rw [e9]
      have hn9 : Th C (upd H8 D (.dK [(.inl 0, .ref n0)])) n0 .nil := hn8.same (Same.new nD)
      have hD9 : (upd H8 D (.dK [(.inl 0, .ref n0)])) D = some (.dK [(.inl 0, .ref n0)]) := upd_same
      revert hn9 hD9
      generalize upd H8 D (.dK [(.inl 0, .ref n0)]) = H9
      intro hn9 hD9
      refine ⟨_, rfl, 4000, D, _, rfl, hD9, kn0 hn9, by show 1 + 4096 ≤ 50000; decide, by decide, by decide, fun a1 t1 kv1 H10 kb1 hD10 hK10 hl10 ha1 hs1 => ?_⟩
      refine ⟨_, rfl, 2000, D, _, rfl, hD10, hK10, ?_, by decide, by decide, fun a2 t2 kv2 H11 kb2 hD11 hK11 hl11 ha2 hs2 => ?_⟩
      · have : (2 : Nat) ^ 12 = 4096 := by decide
        simp only [List.length_cons, List.length_nil] at hl10
        omega
      refine ⟨_, _, rfl, ?_⟩
      have hn11 := th_kb hD10 kb2 (th_kb hD9 kb1 hn9)
      have ha11 := th_kb hD10 kb2 ha1
      refine ⟨_, rfl, a1, t1, rfl, ha11, by omega, rfl, _, rfl, ?_⟩
      have e4 : (!decide (V.int ((t1.size : Nat) : Int) = V.int 4000)) = false := by
        rw [hs1]
        decide
      rw [e4]
      refine iteF ?_
      have zn : Tr.nil.size = 0 := rfl
      refine ⟨_, rfl, _, rfl, a1, n0, t1, .nil, rfl, ha11, hn11, by omega, by omega, fun H12 s12 => ⟨_, rfl, iteF ?_⟩⟩
      refine ⟨_, rfl, _, rfl, a2, a2, t2, t2, rfl, ha2.same s12, ha2.same s12, by omega, by omega, fun H13 s13 => ⟨_, rfl, iteF ?_⟩⟩
      refine ⟨_, rfl, _, rfl, n0, a1, .nil, t1, rfl, (hn11.same s12).same s13, (ha11.same s12).same s13, by omega, by omega, fun H14 s14 => ⟨_, rfl, iteF ?_⟩⟩
      have s1114 := (s12.trans s13).trans s14
      refine ⟨_, rfl, _, rfl, 1999, D, _, rfl, s1114 _ _ hD11, hK11.same s1114, ?_, by decide, by decide, fun a3 t3 kv3 H15 kb3 hD15 hK15 hl15 ha3 hs3 => ?_⟩
      · have : (2 : Nat) ^ 12 = 4096 := by decide
        simp only [List.length_cons, List.length_nil] at hl10
        omega
      have ha215 := th_kb (s1114 _ _ hD11) kb3 (ha2.same s1114)
      refine ⟨a2, a3, t2, t3, rfl, ha215, ha3, by omega, fun z H16 s16 _ hz => ?_⟩
      refine ⟨z, .pr t2 t3, rfl, hz, by simp only [Tr.size]; omega, rfl, ?_⟩
      have eL : decide (V.int (((Tr.pr t2 t3).size : Nat) : Int) = V.int 4000) = true := by
        have : (Tr.pr t2 t3).size = 4000 := by simp only [Tr.size]; omega
        rw [this]
        decide
      rw [eL]
      exact k H16
end
end Js

set_option Elab.async false
set_option linter.all false
set_option maxRecDepth 100000
set_option maxHeartbeats 2000000
namespace Js
open PySem L2 PyProof.Rows
theorem all_mk {P : Program} {w : World} {K : PySem.W.Frag} {h : Heap} {mg : Str → Option Value} {fa C : Addr} (X : K.In h) (G : h.Ns mainGlobals mg) (hfa : mg "law" = some (.ref fa))
    {tM : Tok}
    {oI : Value} {odI anI odT : Option Addr} {slI slT : Array (Option Value)} {kVI dcI pmI cdI ctI ocT : Value} {fI TI : Addr} {nT : Nat}
    {fHd : Addr} {ocHd kVHd dcHd pmHd cdHd ctHd : Value} {odHd anHd : Option Addr} {slHd : Array (Option Value)}
    {fTl : Addr} {ocTl kVTl dcTl pmTl cdTl ctTl : Value} {odTl anTl : Option Addr} {slTl : Array (Option Value)}
    {fLn : Addr} {ocLn kVLn dcLn pmLn cdLn ctLn : Value} {odLn anLn : Option Addr} {slLn : Array (Option Value)}
    {fEq : Addr} {ocEq kVEq dcEq pmEq cdEq ctEq : Value} {odEq anEq : Option Addr} {slEq : Array (Option Value)}
    {fSt : Addr} {ocSt kVSt dcSt pmSt cdSt ctSt : Value} {odSt anSt : Option Addr} {slSt : Array (Option Value)}
    {fRp : Addr} {ocRp kVRp dcRp pmRp cdRp ctRp : Value} {odRp anRp : Option Addr} {slRp : Array (Option Value)}
    {fPa : Addr} {ocPa kVPa dcPa pmPa cdPa ctPa : Value} {odPa anPa : Option Addr} {slPa : Array (Option Value)}
    {fAl : Addr} {ocAl kVAl dcAl pmAl cdAl ctAl : Value} {odAl anAl : Option Addr} {slAl : Array (Option Value)}
    {fSg : Addr} {ocSg kVSg dcSg pmSg cdSg ctSg : Value} {odSg anSg : Option Addr} {slSg : Array (Option Value)}
    {fBa : Addr} {ocBa kVBa dcBa pmBa cdBa ctBa : Value} {odBa anBa : Option Addr} {slBa : Array (Option Value)}
    {fTa : Addr} {ocTa kVTa dcTa pmTa cdTa ctTa : Value} {odTa anTa : Option Addr} {slTa : Array (Option Value)}
    {fTh : Addr} {ocTh kVTh dcTh pmTh cdTh ctTh : Value} {odTh anTh : Option Addr} {slTh : Array (Option Value)}
    {fAg : Addr} {ocAg kVAg dcAg pmAg cdAg ctAg : Value} {odAg anAg : Option Addr} {slAg : Array (Option Value)}
    {fSz : Addr} {ocSz kVSz dcSz pmSz cdSz ctSz : Value} {odSz anSz : Option Addr} {slSz : Array (Option Value)}
    {fRf : Addr} {ocRf kVRf dcRf pmRf cdRf ctRf : Value} {odRf anRf : Option Addr} {slRf : Array (Option Value)}
    {fIs : Addr} {ocIs kVIs dcIs pmIs cdIs ctIs : Value} {odIs anIs : Option Addr} {slIs : Array (Option Value)}
    {fPr : Addr} {ocPr kVPr dcPr pmPr cdPr ctPr : Value} {odPr anPr : Option Addr} {slPr : Array (Option Value)}
    {fLaw : Addr} {ocLaw kVLaw dcLaw pmLaw cdLaw ctLaw : Value} {odLaw anLaw : Option Addr} {slLaw : Array (Option Value)}
    {N fN n1 n2 n3 n4 n5 n6 : Addr} {nmN qN : Str} {NN : Addr} {bsN : List Value} {snN : List Str} {subN : List Value} {abN : Bool} {colN : Option Bool} {ddN : Option Addr} {m0N m1N m2N m3N m5N : Option Value}
    {ocN kVN dcN pmN cdN ctN : Value} {odN anN : Option Addr} {slN : Array (Option Value)}
    (aC : PySem.W.nsIn K mainGlobals "Thing" = some (some (.ref C)))
    (pg : PySem.W.plainGet K C Str.empty = true)
    (hd : PySem.W.hasDictIn K C = true)
    (po : PySem.W.plainOver K C = true)
    (sa : PySem.W.findIn K (.ref C) "__setattr__" = some (some (.builtin "object.__setattr__")))
    (mkC : PySem.W.makesIn K C = true)
    (kc : PySem.W.keepIn K (.ref C) = true)
    (nF : PySem.W.findIn K (.ref C) "first" = some none)
    (nS : PySem.W.findIn K (.ref C) "second" = some none)
    (nZ : PySem.W.findIn K (.ref C) "size" = some none)
    (ca : PySem.W.findIn K (.ref C) "__class__" = some (some (.builtin "object.__class__")))
    (cn : PySem.W.specialIn K (.builtin "object.__class__") "__get__" = some (some (.builtin "getset_descriptor.__get__")))
    (ct : PySem.W.takesIn K (.builtin "object.__class__") = some true)
    (cm : PySem.W.mroIn K C (.type "object") = some true)
    (neC : PySem.W.findIn K (.ref C) "__ne__" = some (some (.builtin "object.__ne__")))
    (aM : PySem.W.nsIn K mainGlobals "MOST_PAIRS" = some (some (.int 4000 tM)))
    (aI : PySem.W.findIn K (.ref C) "__init__" = some (some (.ref fI)))
    (iI : PySem.W.isFn K (.ref fI) = true)
    (lI : K.lookup fI = some ⟨oI, odI, .func (PySem.W.fnOf "__init__" "Thing.__init__" (defArgs sInit) (defBody sInit) (defScope sInit) (.ref TI) kVI dcI pmI anI cdI ctI), slI⟩)
    (cI : PySem.W.codeIn K cdI "Thing.__init__" = true)
    (kI : PySem.W.keepIn K (.ref fI) = true)
    (lT : K.lookup TI = some ⟨ocT, odT, .seq #[.none, .none] nT, slT⟩)
    (aHd : PySem.W.findIn K (.ref C) "head" = some (some (.ref fHd)))
    (iHd : PySem.W.isFn K (.ref fHd) = true)
    (lHd : K.lookup fHd = some ⟨ocHd, odHd, .func (PySem.W.fnOf "head" "Thing.head" (defArgs sHead) (defBody sHead) (defScope sHead) .none kVHd dcHd pmHd anHd cdHd ctHd), slHd⟩)
    (cHd : PySem.W.codeIn K cdHd "Thing.head" = true)
    (kHd : PySem.W.keepIn K (.ref fHd) = true)
    (aTl : PySem.W.findIn K (.ref C) "tail" = some (some (.ref fTl)))
    (iTl : PySem.W.isFn K (.ref fTl) = true)
    (lTl : K.lookup fTl = some ⟨ocTl, odTl, .func (PySem.W.fnOf "tail" "Thing.tail" (defArgs sTail) (defBody sTail) (defScope sTail) .none kVTl dcTl pmTl anTl cdTl ctTl), slTl⟩)
    (cTl : PySem.W.codeIn K cdTl "Thing.tail" = true)
    (kTl : PySem.W.keepIn K (.ref fTl) = true)
    (aLn : PySem.W.findIn K (.ref C) "__len__" = some (some (.ref fLn)))
    (iLn : PySem.W.isFn K (.ref fLn) = true)
    (lLn : K.lookup fLn = some ⟨ocLn, odLn, .func (PySem.W.fnOf "__len__" "Thing.__len__" (defArgs sLen) (defBody sLen) (defScope sLen) .none kVLn dcLn pmLn anLn cdLn ctLn), slLn⟩)
    (cLn : PySem.W.codeIn K cdLn "Thing.__len__" = true)
    (kLn : PySem.W.keepIn K (.ref fLn) = true)
    (aEq : PySem.W.findIn K (.ref C) "__eq__" = some (some (.ref fEq)))
    (iEq : PySem.W.isFn K (.ref fEq) = true)
    (lEq : K.lookup fEq = some ⟨ocEq, odEq, .func (PySem.W.fnOf "__eq__" "Thing.__eq__" (defArgs sEq) (defBody sEq) (defScope sEq) .none kVEq dcEq pmEq anEq cdEq ctEq), slEq⟩)
    (cEq : PySem.W.codeIn K cdEq "Thing.__eq__" = true)
    (kEq : PySem.W.keepIn K (.ref fEq) = true)
    (aSt : PySem.W.findIn K (.ref C) "__str__" = some (some (.ref fSt)))
    (iSt : PySem.W.isFn K (.ref fSt) = true)
    (lSt : K.lookup fSt = some ⟨ocSt, odSt, .func (PySem.W.fnOf "__str__" "Thing.__str__" (defArgs sStr) (defBody sStr) (defScope sStr) .none kVSt dcSt pmSt anSt cdSt ctSt), slSt⟩)
    (cSt : PySem.W.codeIn K cdSt "Thing.__str__" = true)
    (kSt : PySem.W.keepIn K (.ref fSt) = true)
    (aRp : PySem.W.findIn K (.ref C) "__repr__" = some (some (.ref fRp)))
    (iRp : PySem.W.isFn K (.ref fRp) = true)
    (lRp : K.lookup fRp = some ⟨ocRp, odRp, .func (PySem.W.fnOf "__repr__" "Thing.__repr__" (defArgs sRepr) (defBody sRepr) (defScope sRepr) .none kVRp dcRp pmRp anRp cdRp ctRp), slRp⟩)
    (cRp : PySem.W.codeIn K cdRp "Thing.__repr__" = true)
    (kRp : PySem.W.keepIn K (.ref fRp) = true)
    (aPa : PySem.W.nsIn K mainGlobals "pairs_in" = some (some (.ref fPa)))
    (lPa : K.lookup fPa = some ⟨ocPa, odPa, .func (PySem.W.fnOf "pairs_in" "pairs_in" (defArgs sPairs) (defBody sPairs) (defScope sPairs) .none kVPa dcPa pmPa anPa cdPa ctPa), slPa⟩)
    (cPa : PySem.W.codeIn K cdPa "pairs_in" = true)
    (kPa : PySem.W.keepIn K (.ref fPa) = true)
    (aAl : PySem.W.nsIn K mainGlobals "alike" = some (some (.ref fAl)))
    (lAl : K.lookup fAl = some ⟨ocAl, odAl, .func (PySem.W.fnOf "alike" "alike" (defArgs sAlike) (defBody sAlike) (defScope sAlike) .none kVAl dcAl pmAl anAl cdAl ctAl), slAl⟩)
    (cAl : PySem.W.codeIn K cdAl "alike" = true)
    (kAl : PySem.W.keepIn K (.ref fAl) = true)
    (aSg : PySem.W.nsIn K mainGlobals "signs" = some (some (.ref fSg)))
    (lSg : K.lookup fSg = some ⟨ocSg, odSg, .func (PySem.W.fnOf "signs" "signs" (defArgs sSigns) (defBody sSigns) (defScope sSigns) .none kVSg dcSg pmSg anSg cdSg ctSg), slSg⟩)
    (cSg : PySem.W.codeIn K cdSg "signs" = true)
    (kSg : PySem.W.keepIn K (.ref fSg) = true)
    (aBa : PySem.W.nsIn K mainGlobals "_law_bag" = some (some (.ref fBa)))
    (lBa : K.lookup fBa = some ⟨ocBa, odBa, .func (PySem.W.fnOf "_law_bag" "_law_bag" (defArgs sBag) (defBody sBag) (defScope sBag) .none kVBa dcBa pmBa anBa cdBa ctBa), slBa⟩)
    (cBa : PySem.W.codeIn K cdBa "_law_bag" = true)
    (kBa : PySem.W.keepIn K (.ref fBa) = true)
    (aTa : PySem.W.nsIn K mainGlobals "_law_take" = some (some (.ref fTa)))
    (lTa : K.lookup fTa = some ⟨ocTa, odTa, .func (PySem.W.fnOf "_law_take" "_law_take" (defArgs sTake) (defBody sTake) (defScope sTake) .none kVTa dcTa pmTa anTa cdTa ctTa), slTa⟩)
    (cTa : PySem.W.codeIn K cdTa "_law_take" = true)
    (kTa : PySem.W.keepIn K (.ref fTa) = true)
    (aTh : PySem.W.nsIn K mainGlobals "_law_thing" = some (some (.ref fTh)))
    (lTh : K.lookup fTh = some ⟨ocTh, odTh, .func (PySem.W.fnOf "_law_thing" "_law_thing" (defArgs sThing) (defBody sThing) (defScope sThing) .none kVTh dcTh pmTh anTh cdTh ctTh), slTh⟩)
    (cTh : PySem.W.codeIn K cdTh "_law_thing" = true)
    (kTh : PySem.W.keepIn K (.ref fTh) = true)
    (aAg : PySem.W.nsIn K mainGlobals "_law_again" = some (some (.ref fAg)))
    (lAg : K.lookup fAg = some ⟨ocAg, odAg, .func (PySem.W.fnOf "_law_again" "_law_again" (defArgs sAgain) (defBody sAgain) (defScope sAgain) .none kVAg dcAg pmAg anAg cdAg ctAg), slAg⟩)
    (cAg : PySem.W.codeIn K cdAg "_law_again" = true)
    (kAg : PySem.W.keepIn K (.ref fAg) = true)
    (aSz : PySem.W.nsIn K mainGlobals "_law_of_size" = some (some (.ref fSz)))
    (lSz : K.lookup fSz = some ⟨ocSz, odSz, .func (PySem.W.fnOf "_law_of_size" "_law_of_size" (defArgs sSize) (defBody sSize) (defScope sSize) .none kVSz dcSz pmSz anSz cdSz ctSz), slSz⟩)
    (cSz : PySem.W.codeIn K cdSz "_law_of_size" = true)
    (kSz : PySem.W.keepIn K (.ref fSz) = true)
    (aRf : PySem.W.nsIn K mainGlobals "_law_refused" = some (some (.ref fRf)))
    (lRf : K.lookup fRf = some ⟨ocRf, odRf, .func (PySem.W.fnOf "_law_refused" "_law_refused" (defArgs sRef) (defBody sRef) (defScope sRef) .none kVRf dcRf pmRf anRf cdRf ctRf), slRf⟩)
    (cRf : PySem.W.codeIn K cdRf "_law_refused" = true)
    (kRf : PySem.W.keepIn K (.ref fRf) = true)
    (aIs : PySem.W.nsIn K mainGlobals "_law_is" = some (some (.ref fIs)))
    (lIs : K.lookup fIs = some ⟨ocIs, odIs, .func (PySem.W.fnOf "_law_is" "_law_is" (defArgs sIs) (defBody sIs) (defScope sIs) .none kVIs dcIs pmIs anIs cdIs ctIs), slIs⟩)
    (cIs : PySem.W.codeIn K cdIs "_law_is" = true)
    (kIs : PySem.W.keepIn K (.ref fIs) = true)
    (aPr : PySem.W.nsIn K mainGlobals "_law_pair" = some (some (.ref fPr)))
    (lPr : K.lookup fPr = some ⟨ocPr, odPr, .func (PySem.W.fnOf "_law_pair" "_law_pair" (defArgs sPair) (defBody sPair) (defScope sPair) .none kVPr dcPr pmPr anPr cdPr ctPr), slPr⟩)
    (cPr : PySem.W.codeIn K cdPr "_law_pair" = true)
    (kPr : PySem.W.keepIn K (.ref fPr) = true)
    (aLaw : PySem.W.nsIn K mainGlobals "law" = some (some (.ref fLaw)))
    (lLaw : K.lookup fLaw = some ⟨ocLaw, odLaw, .func (PySem.W.fnOf "law" "law" (defArgs sLaw) (defBody sLaw) (defScope sLaw) .none kVLaw dcLaw pmLaw anLaw cdLaw ctLaw), slLaw⟩)
    (cLaw : PySem.W.codeIn K cdLaw "law" = true)
    (kLaw : PySem.W.keepIn K (.ref fLaw) = true)
    (aN : PySem.W.nsIn K mainGlobals "TooGreat" = some (some (.ref N)))
    (xN : K.lookup N = some (excClassObj nmN qN N NN bsN [.type "OverflowError", .type "ArithmeticError", .type "Exception", .type "BaseException", .type "object"] true snN subN abN colN ddN m0N m1N m2N m3N m5N "OverflowError.__new__"))
    (ovN : PySem.W.excOver K N [.type "OverflowError", .type "ArithmeticError", .type "Exception", .type "BaseException", .type "object"] = true)
    (saN : PySem.W.findIn K (.ref N) "__setattr__" = some (some (.builtin "object.__setattr__")))
    (exN : PySem.W.subIn K (.ref N) (.type "BaseException") = some true)
    (tyN : PySem.W.typeIn K (.ref N) = some (.type "type"))
    (kN : PySem.W.keepIn K (.ref N) = true)
    (plN : PySem.W.findIn K (.ref N) "bound" = some none)
    (vV : PySem.W.findCls K (.type "OverflowError") (.type "type") "__init__" = some (.val (.builtin "OverflowError.__init__")))
    (iN : PySem.W.findIn K (.ref N) "__init__" = some (some (.ref fN)))
    (tfN : PySem.W.typeIn K (.ref fN) = some (.type "function"))
    (lN : K.lookup fN = some ⟨ocN, odN, .func (PySem.W.fnOf "__init__" "TooGreat.__init__" (defArgs sTg) (defBody sTg) (defScope sTg) .none kVN dcN pmN anN cdN ctN), slN⟩)
    (cN : PySem.W.codeIn K cdN "TooGreat.__init__" = true)
    (kfN : PySem.W.keepIn K (.ref fN) = true)
    (gaN : PySem.W.findIn K (.ref N) "__getattribute__" = some (some (.builtin "BaseException.__getattribute__")))
    (ggN : PySem.W.findIn K (.ref N) "__getattr__" = some none)
    (hdN : PySem.W.hasDictIn K N = true)
    (icN : PySem.W.isClsIn K N = true)
    (scN : PySem.W.subIn K (.ref N) (.ref N) = some true)
    (caN : PySem.W.findIn K (.ref N) "__class__" = some (some (.builtin "object.__class__")))
    (cmN : PySem.W.mroIn K N (.type "object") = some true)
    (oeN : PySem.W.kitOne K (.ref N) (.type "OverflowError") = some true)
    (o1 : PySem.W.nsIn K mainGlobals "NoName" = some (some (.ref n1)))
    (o2 : PySem.W.nsIn K mainGlobals "NoProgram" = some (some (.ref n2)))
    (o3 : PySem.W.nsIn K mainGlobals "NoRoom" = some (some (.ref n3)))
    (o4 : PySem.W.nsIn K mainGlobals "NoSaying" = some (some (.ref n4)))
    (o5 : PySem.W.nsIn K mainGlobals "NoStep" = some (some (.ref n5)))
    (o6 : PySem.W.nsIn K mainGlobals "NoText" = some (some (.ref n6)))
    (kaN : PySem.W.kitAny K (.ref N) [.ref n1, .ref n2, .ref n3, .ref n4, .ref n5, .ref n6] = some false)
    (nf_NoneType : PySem.W.notFirst K C (.type "NoneType") = true)
    (ko_NoneType : PySem.W.kitOne K (.type "NoneType") (.ref C) = some false)
    (nf_str : PySem.W.notFirst K C (.type "str") = true)
    (ko_str : PySem.W.kitOne K (.type "str") (.ref C) = some false)
    (nf_int : PySem.W.notFirst K C (.type "int") = true)
    (ko_int : PySem.W.kitOne K (.type "int") (.ref C) = some false)
    (nf_tuple : PySem.W.notFirst K C (.type "tuple") = true)
    (ko_tuple : PySem.W.kitOne K (.type "tuple") (.ref C) = some false)
    (nf_list : PySem.W.notFirst K C (.type "list") = true)
    (ko_list : PySem.W.kitOne K (.type "list") (.ref C) = some false)
    (nf_bool : PySem.W.notFirst K C (.type "bool") = true)
    (ko_bool : PySem.W.kitOne K (.type "bool") (.ref C) = some false)
    (sN : PySem.W.subIn K (.ref C) (.type "NoneType") = some false)
    (sS : PySem.W.subIn K (.ref C) (.type "str") = some false)
    (nb : PySem.W.findIn K (.ref C) "__bool__" = some none)
    (z_len : PySem.W.nsIn K mainGlobals "len" = some none)
    (z_range : PySem.W.nsIn K mainGlobals "range" = some none)
    (z_isinstance : PySem.W.nsIn K mainGlobals "isinstance" = some none)
    (z_abs : PySem.W.nsIn K mainGlobals "abs" = some none)
    (z_int : PySem.W.nsIn K mainGlobals "int" = some none)
    (z_str : PySem.W.nsIn K mainGlobals "str" = some none)
    (z_max : PySem.W.nsIn K mainGlobals "max" = some none)
    (z_min : PySem.W.nsIn K mainGlobals "min" = some none)
    (z_all : PySem.W.nsIn K mainGlobals "all" = some none)
    (z_reversed : PySem.W.nsIn K mainGlobals "reversed" = some none)
    (z_repr : PySem.W.nsIn K mainGlobals "repr" = some none)
    (z_bool : PySem.W.nsIn K mainGlobals "bool" = some none)
    (z_any : PySem.W.nsIn K mainGlobals "any" = some none)
    (z_OverflowError : PySem.W.nsIn K mainGlobals "OverflowError" = some none)
    : ∃ fd : FuncData, (∀ (s : Shared) (v : Value), BindsTo s fd ⟨[v], []⟩ [("_law_script", v)]) ∧ ∀ base : Heap, K.In base → base.Ns mainGlobals mg → FnOk P w K mg base CX0 17 fa fd ["_law_script"] (spLaw K) := by
  have e := hfa.symm.trans (PySem.W.mg_of X G aLaw)
  cases e
  have FHd := fun_mk (st := sHead) lHd cHd kHd
  have bHd := FHd.binds (ps := ["self"]) fun _ _ _ _ _ _ us hl => match us, hl with | [_], _ => rfl
  have FTl := fun_mk (st := sTail) lTl cTl kTl
  have bTl := FTl.binds (ps := ["self"]) fun _ _ _ _ _ _ us hl => match us, hl with | [_], _ => rfl
  have FLn := fun_mk (st := sLen) lLn cLn kLn
  have bLn := FLn.binds (ps := ["self"]) fun _ _ _ _ _ _ us hl => match us, hl with | [_], _ => rfl
  have FEq := fun_mk (st := sEq) lEq cEq kEq
  have bEq := FEq.binds (ps := ["self", "other"]) fun _ _ _ _ _ _ us hl => match us, hl with | [_, _], _ => rfl
  have FSt := fun_mk (st := sStr) lSt cSt kSt
  have bSt := FSt.binds (ps := ["self"]) fun _ _ _ _ _ _ us hl => match us, hl with | [_], _ => rfl
  have FRp := fun_mk (st := sRepr) lRp cRp kRp
  have bRp := FRp.binds (ps := ["self"]) fun _ _ _ _ _ _ us hl => match us, hl with | [_], _ => rfl
  have FPa := fun_mk (st := sPairs) lPa cPa kPa
  have bPa := FPa.binds (ps := ["first", "second"]) fun _ _ _ _ _ _ us hl => match us, hl with | [_, _], _ => rfl
  have FAl := fun_mk (st := sAlike) lAl cAl kAl
  have bAl := FAl.binds (ps := ["one", "other"]) fun _ _ _ _ _ _ us hl => match us, hl with | [_, _], _ => rfl
  have FSg := fun_mk (st := sSigns) lSg cSg kSg
  have bSg := FSg.binds (ps := ["thing"]) fun _ _ _ _ _ _ us hl => match us, hl with | [_], _ => rfl
  have FBa := fun_mk (st := sBag) lBa cBa kBa
  have bBa := FBa.binds (ps := ["_law_script", "_law_at"]) fun _ _ _ _ _ _ us hl => match us, hl with | [_, _], _ => rfl
  have FTa := fun_mk (st := sTake) lTa cTa kTa
  have bTa := FTa.binds (ps := ["_law_bag_here", "_law_many"]) fun _ _ _ _ _ _ us hl => match us, hl with | [_, _], _ => rfl
  have FTh := fun_mk (st := sThing) lTh cTh kTh
  have bTh := FTh.binds (ps := ["_law_bag_here", "_law_many"]) fun _ _ _ _ _ _ us hl => match us, hl with | [_, _], _ => rfl
  have FAg := fun_mk (st := sAgain) lAg cAg kAg
  have bAg := FAg.binds (ps := ["_law_text"]) fun _ _ _ _ _ _ us hl => match us, hl with | [_], _ => rfl
  have FSz := fun_mk (st := sSize) lSz cSz kSz
  have bSz := FSz.binds (ps := ["_law_many", "_law_known"]) fun _ _ _ _ _ _ us hl => match us, hl with | [_, _], _ => rfl
  have FRf := fun_mk (st := sRef) lRf cRf kRf
  have bRf := FRf.binds (ps := ["_law_ahead", "_law_beyond"]) fun _ _ _ _ _ _ us hl => match us, hl with | [_, _], _ => rfl
  have FIs := fun_mk (st := sIs) lIs cIs kIs
  have bIs := FIs.binds (ps := ["_law_thing_here", "_law_text"]) fun _ _ _ _ _ _ us hl => match us, hl with | [_, _], _ => rfl
  have FPr := fun_mk (st := sPair) lPr cPr kPr
  have bPr := FPr.binds (ps := ["_law_ahead", "_law_beyond"]) fun _ _ _ _ _ _ us hl => match us, hl with | [_, _], _ => rfl
  have FLaw := fun_mk (st := sLaw) lLaw cLaw kLaw
  have bLaw := FLaw.binds (ps := ["_law_script"]) fun _ _ _ _ _ _ us hl => match us, hl with | [_], _ => rfl
  have APa : At K mg "pairs_in" sPairs ["first", "second"] fPa _ := ⟨FPa, PySem.W.mg_of X G aPa, bPa⟩
  have AAl : At K mg "alike" sAlike ["one", "other"] fAl _ := ⟨FAl, PySem.W.mg_of X G aAl, bAl⟩
  have ASg : At K mg "signs" sSigns ["thing"] fSg _ := ⟨FSg, PySem.W.mg_of X G aSg, bSg⟩
  have ABa : At K mg "_law_bag" sBag ["_law_script", "_law_at"] fBa _ := ⟨FBa, PySem.W.mg_of X G aBa, bBa⟩
  have ATa : At K mg "_law_take" sTake ["_law_bag_here", "_law_many"] fTa _ := ⟨FTa, PySem.W.mg_of X G aTa, bTa⟩
  have ATh : At K mg "_law_thing" sThing ["_law_bag_here", "_law_many"] fTh _ := ⟨FTh, PySem.W.mg_of X G aTh, bTh⟩
  have AAg : At K mg "_law_again" sAgain ["_law_text"] fAg _ := ⟨FAg, PySem.W.mg_of X G aAg, bAg⟩
  have ASz : At K mg "_law_of_size" sSize ["_law_many", "_law_known"] fSz _ := ⟨FSz, PySem.W.mg_of X G aSz, bSz⟩
  have ARf : At K mg "_law_refused" sRef ["_law_ahead", "_law_beyond"] fRf _ := ⟨FRf, PySem.W.mg_of X G aRf, bRf⟩
  have AIs : At K mg "_law_is" sIs ["_law_thing_here", "_law_text"] fIs _ := ⟨FIs, PySem.W.mg_of X G aIs, bIs⟩
  have APr : At K mg "_law_pair" sPair ["_law_ahead", "_law_beyond"] fPr _ := ⟨FPr, PySem.W.mg_of X G aPr, bPr⟩
  have DI : FunD K "__init__" "Thing.__init__" (defArgs sInit) (defBody sInit) (defScope sInit) [.non, .non] [] fI _ := ⟨⟨oI, odI, .ref TI, kVI, dcI, pmI, anI, cdI, ctI, slI, rfl, lI, cI, .inr ⟨by simp, TI, _, [.none, .none], nT, rfl, lT, rfl, .cons rfl (.cons rfl .nil)⟩, .inl rfl⟩, kI⟩
  have b0 := DI.binds1 (ps := ["self", "first", "second"]) 1 0 (by simp) rfl fun T kV doc pm an cdv ct us its h1 h2 => by
    match us, its, h1, h2 with
    | [a], [b, c], _, _ => exact ⟨_, rfl, rfl⟩
  have b3 := DI.binds1 (ps := ["self", "first", "second"]) 3 2 (by simp) rfl fun T kV doc pm an cdv ct us its h1 h2 => by
    match us, its, h1, h2 with
    | [a, b, c], [d, e], _, _ => exact ⟨_, rfl, rfl⟩
  obtain ⟨ds3, hv3, hb3⟩ := b3
  cases hv3
  have T : Txt K mg C := ⟨⟨pg, hd, po, sa⟩, nF, nS, nZ, PySem.W.mg_of X G aC, ⟨tM, PySem.W.mg_of X G aM⟩, PySem.W.mg_none_of X G z_len, PySem.W.mg_none_of X G z_range, PySem.W.mg_none_of X G z_isinstance, ca, cn, ct, cm, neC⟩
  have B : Blt mg := ⟨PySem.W.mg_none_of X G z_len, PySem.W.mg_none_of X G z_range, PySem.W.mg_none_of X G z_abs, PySem.W.mg_none_of X G z_int, PySem.W.mg_none_of X G z_str, PySem.W.mg_none_of X G z_max, PySem.W.mg_none_of X G z_min, PySem.W.mg_none_of X G z_all⟩
  have kno : ∀ n ∈ ["NoneType", "str", "int", "tuple", "list", "bool"], PySem.W.notFirst K C (.type n) = true ∧ PySem.W.kitOne K (.type n) (.ref C) = some false := fun n hn => by
    simp only [List.mem_cons, List.not_mem_nil, or_false] at hn
    rcases hn with rfl | rfl | rfl | rfl | rfl | rfl
    · exact ⟨nf_NoneType, ko_NoneType⟩
    · exact ⟨nf_str, ko_str⟩
    · exact ⟨nf_int, ko_int⟩
    · exact ⟨nf_tuple, ko_tuple⟩
    · exact ⟨nf_list, ko_list⟩
    · exact ⟨nf_bool, ko_bool⟩
  have kd : KdC K C := ⟨kno, sN, sS, nb⟩
  obtain ⟨i1, kb1⟩ := DI.kbindsD (ps := ["self", "first", "second"]) 1 ["first", "second"] (fun us _ ws => us ++ ws) (by simp) (fun r1 _ r2 => r1.append r2) fun T kV doc pm an cdv ct us its ws h1 h2 h3 => by
    match us, its, ws, h1, h2, h3 with
    | [a], [b, c], [d, e], _, _, _ => exact ⟨_, rfl, rfl⟩
  obtain ⟨i2, kb2⟩ := DI.kbindsD (ps := ["self", "first", "second"]) 1 ["second", "first"] (fun us _ ws => us ++ ws.reverse) (by simp) (fun r1 _ r2 => r1.append r2.reverse) fun T kV doc pm an cdv ct us its ws h1 h2 h3 => by
    match us, its, ws, h1, h2, h3 with
    | [a], [b, c], [d, e], _, _, _ => exact ⟨_, rfl, rfl⟩
  obtain ⟨i3, kb3⟩ := DI.kbindsD (ps := ["self", "first", "second"]) 2 ["second"] (fun us _ ws => us ++ ws) (by simp) (fun r1 _ r2 => r1.append r2) fun T kV doc pm an cdv ct us its ws h1 h2 h3 => by
    match us, its, ws, h1, h2, h3 with
    | [a, f], [b, c], [d], _, _, _ => exact ⟨_, rfl, rfl⟩
  refine ⟨PySem.W.fnOf "law" "law" (defArgs sLaw) (defBody sLaw) (defScope sLaw) .none kVLaw dcLaw pmLaw anLaw cdLaw ctLaw, fun s v => .of_eq rfl, fun base _ _ => ?_⟩
  have GI : FnOk P w K mg base CX0 2 fI _ ["self", "first", "second"] (spInit C) := ok_init DI T APa
  have M : Maker P w K mg base C fI _ := ⟨⟨mkC, aI, iI, kc⟩, GI, T.mgC, hb3, b0⟩
  have SE : Spc P w K mg base C "__eq__" 2 ["self", "other"] (spEqT C) := ⟨fEq, _, ⟨aEq, iEq⟩, ok_eq FEq T AAl, bEq⟩
  have SN : Spc P w K mg base C "__eq__" 2 ["self", "other"] (spEqN K C) := ⟨fEq, _, ⟨aEq, iEq⟩, ok_eqN FEq T AAl, bEq⟩
  have SS : Spc P w K mg base C "__str__" 2 ["self"] (spStr C) := ⟨fSt, _, ⟨aSt, iSt⟩, ok_str FSt T ASg, bSt⟩
  have SL : Spc P w K mg base C "__len__" 1 ["self"] (spLen C) := ⟨fLn, _, ⟨aLn, iLn⟩, ok_len FLn T, bLn⟩
  have SR : Spc P w K mg base C "__repr__" 5 ["self"] (spRepr C) := ⟨fRp, _, ⟨aRp, iRp⟩, ok_repr FRp B SS, bRp⟩
  have MH : Mth P w K mg base C "head" 1 ["self"] (spHead C) := ⟨fHd, _, ⟨aHd, iHd, kHd⟩, ok_head FHd T, bHd⟩
  have MT : Mth P w K mg base C "tail" 1 ["self"] (spTail C) := ⟨fTl, _, ⟨aTl, iTl, kTl⟩, ok_tail FTl T, bTl⟩
  have L : Lib P w K mg base C fI _ := ⟨T, B, M, SE, SS, SL, MH, MT, ⟨fBa, _, ABa.mgf, kBa, ok_bag FBa B, bBa⟩, ⟨fTa, _, ATa.mgf, kTa, ok_take FTa, bTa⟩⟩
  have FN := fun_mk (st := sTg) lN cN kfN
  have bN := FN.binds (ps := ["self", "bound"]) fun _ _ _ _ _ _ us hl => match us, hl with | [_, _], _ => rfl
  have gO : GexO K N := ⟨PySem.F.excBase_OverflowError, PySem.F.store_OverflowError, ⟨nmN, qN, NN, bsN, _, snN, subN, abN, colN, ddN, m0N, m1N, m2N, m3N, m5N, xN, fun _ => rfl⟩, ovN, saN, exN, tyN, kN⟩
  have tgC : TgC K mg N := ⟨PySem.W.mg_of X G aN, gO, plN, PySem.W.mg_none_of X G z_OverflowError, vV⟩
  have NM : TgM P w K mg base N fN _ := ⟨tgC, iN, tfN, ok_tg FN tgC, bN⟩
  have MX : MakerX P w K mg base C fI N _ := ⟨⟨mkC, aI, iI, kc⟩, ok_initX DI T APa NM, T.mgC, hb3⟩
  have exm : PySem.W.exmOne K (.ref N) (.ref N) = some true := PySem.W.exm_ref exN hdN tyN scN
  have RC : RfC K mg N := ⟨tgC, ⟨gaN, ggN, exN, hdN⟩, ⟨icN, gaN, ggN, exN, caN, cn, ct, cmN⟩, exm, oeN, ⟨n1, n2, n3, n4, n5, n6, PySem.W.mg_of X G o1, PySem.W.mg_of X G o2, PySem.W.mg_of X G o3, PySem.W.mg_of X G o4, PySem.W.mg_of X G o5, PySem.W.mg_of X G o6, kaN⟩⟩
  have DA : Def P w K mg base "_law_again" 4 ["_law_text"] (spAgain C) := ⟨fAg, _, AAg.mgf, kAg, ok_again FAg (PySem.W.mg_none_of X G z_reversed) M kb1, bAg⟩
  have DIs : Def P w K mg base "_law_is" 7 ["_law_thing_here", "_law_text"] (spIs C) := ⟨fIs, _, AIs.mgf, kIs, ok_is FIs T B (PySem.W.mg_none_of X G z_repr) (PySem.W.mg_none_of X G z_bool) (PySem.W.mg_none_of X G z_any) kd SS SR SL SE SN DA, bIs⟩
  have L1 : Lib1 P w K mg base C fI _ _ := ⟨L, kd, kb1, ⟨fTh, _, ATh.mgf, kTh, ok_thing FTh B M ATa, bTh⟩, ⟨fPr, _, APr.mgf, kPr, ok_pair FPr T B M kb2 SS SE MH MT DIs, bPr⟩, DIs, ⟨fRf, _, ARf.mgf, kRf, ok_ref FRf T MX RC, bRf⟩, ⟨fSz, _, ASz.mgf, kSz, ok_size FSz ASz.mgf bSz M kb3 12, bSz⟩⟩
  exact ok_law FLaw L1
theorem walk {l : PySem.W.OpenLaw} {q : Program} {loose : List Str} {XP : (Str → Option Value) → Heap → Prop} {YP : World → Heap → Prop} {d : DefRec} {K : Params → PySem.W.Frag} (hn : l.most = some 63) (hdf : d.params.defaults = [])
    (hY : ∀ (w : World) (h : Heap), YP w h → (K w.params).In h)
    (F : ∀ (w : World) (mg : Str → Option Value) (fa : Addr) (h : Heap), (K w.params).In h → h.Ns mainGlobals mg → mg d.name = some (.ref fa) →
      ∃ fd : FuncData, (∀ (s : Shared) (u : Value), BindsTo s fd ⟨[u], []⟩ [("_law_script", u)]) ∧ ∀ base : Heap, (K w.params).In base → base.Ns mainGlobals mg → FnOk l.prog w (K w.params) mg base CX0 17 fa fd ["_law_script"] (spLaw (K w.params))) :
    PySem.W.WalkO q loose XP YP l.row.toRowW d [] (fun f vs => PySem.call f vs) :=
  L2.walk_of (n := 63) (k := 17) (x := "_law_script") (CX := fun _ => CX0) (sp := fun w => spLaw (K w.params)) hn (by decide) hdf ⟨rfl, by decide, by decide⟩ hY F (fun _ _ a ns hl _ hS => ⟨a, ns, rfl, hS, hl, fun _ => rfl⟩) fun _ _ _ _ _ z => z
end Js

open PySem PySem.W PyProof.Rows in
set_option maxRecDepth 100000 in
set_option maxHeartbeats 0 in
theorem PySem.Challenge.cw_judgeslip_k01_things_holds : PySem.Challenge.rw_judgeslip_k01_things.Holds := by
  w_on; o_law; k_head; (case hw => w_witness2)
  k_fill
  refine Js.walk (l := PySem.Challenge.rw_judgeslip_k01_things) rfl rfl (fun w h Y => PySem.W.kIn_of Y) ?F
  case F =>
    intro w mg fa h KX G hmg
    refine' Js.all_mk KX G hmg ?aC ?pg ?hd ?po ?sa ?mkC ?kc ?nF ?nS ?nZ ?ca ?cn ?ct ?cm ?neC ?aM ?aI ?iI ?lI ?cI ?kI ?lT ?aHd ?iHd ?lHd ?cHd ?kHd ?aTl ?iTl ?lTl ?cTl ?kTl ?aLn ?iLn ?lLn ?cLn ?kLn ?aEq ?iEq ?lEq ?cEq ?kEq ?aSt ?iSt ?lSt ?cSt ?kSt ?aRp ?iRp ?lRp ?cRp ?kRp ?aPa ?lPa ?cPa ?kPa ?aAl ?lAl ?cAl ?kAl ?aSg ?lSg ?cSg ?kSg ?aBa ?lBa ?cBa ?kBa ?aTa ?lTa ?cTa ?kTa ?aTh ?lTh ?cTh ?kTh ?aAg ?lAg ?cAg ?kAg ?aSz ?lSz ?cSz ?kSz ?aRf ?lRf ?cRf ?kRf ?aIs ?lIs ?cIs ?kIs ?aPr ?lPr ?cPr ?kPr ?aLaw ?lLaw ?cLaw ?kLaw ?aN ?xN ?ovN ?saN ?exN ?tyN ?kN ?plN ?vV ?iN ?tfN ?lN ?cN ?kfN ?gaN ?ggN ?hdN ?icN ?scN ?caN ?cmN ?oeN ?o1 ?o2 ?o3 ?o4 ?o5 ?o6 ?kaN ?nf_NoneType ?ko_NoneType ?nf_str ?ko_str ?nf_int ?ko_int ?nf_tuple ?ko_tuple ?nf_list ?ko_list ?nf_bool ?ko_bool ?sN ?sS ?nb ?z_len ?z_range ?z_isinstance ?z_abs ?z_int ?z_str ?z_max ?z_min ?z_all ?z_reversed ?z_repr ?z_bool ?z_any ?z_OverflowError
    (case aC => k_is)
    (case pg => k_is)
    (case hd => k_is)
    (case po => k_is)
    (case sa => k_is)
    (case mkC => k_is)
    (case kc => k_is)
    (case nF => k_is)
    (case nS => k_is)
    (case nZ => k_is)
    (case ca => k_is)
    (case cn => k_is)
    (case ct => k_is)
    (case cm => k_is)
    (case neC => k_is)
    (case aM => k_is)
    (case aI => k_is)
    (case iI => k_is)
    (case lI => k_is)
    (case cI => k_is)
    (case kI => k_is)
    (case lT => k_is)
    (case aHd => k_is)
    (case iHd => k_is)
    (case lHd => k_is)
    (case cHd => k_is)
    (case kHd => k_is)
    (case aTl => k_is)
    (case iTl => k_is)
    (case lTl => k_is)
    (case cTl => k_is)
    (case kTl => k_is)
    (case aLn => k_is)
    (case iLn => k_is)
    (case lLn => k_is)
    (case cLn => k_is)
    (case kLn => k_is)
    (case aEq => k_is)
    (case iEq => k_is)
    (case lEq => k_is)
    (case cEq => k_is)
    (case kEq => k_is)
    (case aSt => k_is)
    (case iSt => k_is)
    (case lSt => k_is)
    (case cSt => k_is)
    (case kSt => k_is)
    (case aRp => k_is)
    (case iRp => k_is)
    (case lRp => k_is)
    (case cRp => k_is)
    (case kRp => k_is)
    (case aPa => k_is)
    (case lPa => k_is)
    (case cPa => k_is)
    (case kPa => k_is)
    (case aAl => k_is)
    (case lAl => k_is)
    (case cAl => k_is)
    (case kAl => k_is)
    (case aSg => k_is)
    (case lSg => k_is)
    (case cSg => k_is)
    (case kSg => k_is)
    (case aBa => k_is)
    (case lBa => k_is)
    (case cBa => k_is)
    (case kBa => k_is)
    (case aTa => k_is)
    (case lTa => k_is)
    (case cTa => k_is)
    (case kTa => k_is)
    (case aTh => k_is)
    (case lTh => k_is)
    (case cTh => k_is)
    (case kTh => k_is)
    (case aAg => k_is)
    (case lAg => k_is)
    (case cAg => k_is)
    (case kAg => k_is)
    (case aSz => k_is)
    (case lSz => k_is)
    (case cSz => k_is)
    (case kSz => k_is)
    (case aRf => k_is)
    (case lRf => k_is)
    (case cRf => k_is)
    (case kRf => k_is)
    (case aIs => k_is)
    (case lIs => k_is)
    (case cIs => k_is)
    (case kIs => k_is)
    (case aPr => k_is)
    (case lPr => k_is)
    (case cPr => k_is)
    (case kPr => k_is)
    (case aLaw => k_is)
    (case lLaw => k_is)
    (case cLaw => k_is)
    (case kLaw => k_is)
    (case aN => k_is)
    (case xN => k_is)
    (case ovN => (first | kx_is | k_is | rfl | decide +kernel))
    (case saN => k_is)
    (case exN => k_is)
    (case tyN => k_is)
    (case kN => k_is)
    (case plN => k_is)
    (case vV => k_is)
    (case iN => k_is)
    (case tfN => k_is)
    (case lN => k_is)
    (case cN => k_is)
    (case kfN => k_is)
    (case gaN => k_is)
    (case ggN => k_is)
    (case hdN => k_is)
    (case icN => k_is)
    (case scN => (first | rfl | k_is))
    (case caN => k_is)
    (case cmN => k_is)
    (case oeN => (first | k_is | rfl | decide +kernel))
    (case o1 => k_is)
    (case o2 => k_is)
    (case o3 => k_is)
    (case o4 => k_is)
    (case o5 => k_is)
    (case o6 => k_is)
    (case kaN => (first | k_is | rfl | decide +kernel))
    (case nf_NoneType => (first | k_is | rfl | decide +kernel))
    (case ko_NoneType => (first | k_is | rfl | decide +kernel))
    (case nf_str => (first | k_is | rfl | decide +kernel))
    (case ko_str => (first | k_is | rfl | decide +kernel))
    (case nf_int => (first | k_is | rfl | decide +kernel))
    (case ko_int => (first | k_is | rfl | decide +kernel))
    (case nf_tuple => (first | k_is | rfl | decide +kernel))
    (case ko_tuple => (first | k_is | rfl | decide +kernel))
    (case nf_list => (first | k_is | rfl | decide +kernel))
    (case ko_list => (first | k_is | rfl | decide +kernel))
    (case nf_bool => (first | k_is | rfl | decide +kernel))
    (case ko_bool => (first | k_is | rfl | decide +kernel))
    (case sN => (first | k_is | rfl | decide +kernel))
    (case sS => (first | k_is | rfl | decide +kernel))
    (case nb => k_is)
    (case z_len => k_is)
    (case z_range => k_is)
    (case z_isinstance => k_is)
    (case z_abs => k_is)
    (case z_int => k_is)
    (case z_str => k_is)
    (case z_max => k_is)
    (case z_min => k_is)
    (case z_all => k_is)
    (case z_reversed => k_is)
    (case z_repr => k_is)
    (case z_bool => k_is)
    (case z_any => k_is)
    (case z_OverflowError => k_is)
