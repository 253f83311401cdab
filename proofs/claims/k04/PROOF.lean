import PyProof.Rows.All
import Wide.All
import OpenK.AllK
import Wide.FinOn
import PyProof.EqAt
import PyProof.EqKinds
import PyProof.TupleCall
import HandS.ForMost
import HandS.ForExc
import HandS.IsInst
import HandS.NoneIn
import HandS.Defaults
import HandS.MakeKw
import HandS.OwnEq
import HandS.Walk
import HandS.Rev
import HandS.FStr
import HandS.More
import KE.KCallOwn
import HandS.Conv
import HandS.Replace
import HandS.ExcInit
import HandS.ExcField
import HandS.ExcOwn
import HandS.WordsExc
import KE.KExcIs
import HandS.ExcIs
import PySem.Challenge.RW_judgeslip_k04_no_texts_of_things
set_option Elab.async false
set_option linter.all false
set_option maxRecDepth 100000
set_option maxHeartbeats 2000000
/-! rules of our own: len, str, ==, != of an instance by its class's defs; x in a list of such -/
namespace JsLow
open PySem PySem.Spec PyProof.Rows PySem.W
section
variable {prog : Program} {w : World} {A : Around} {E : Value → Shared → Prop} {s : Shared} {K : Frag} {x C f : Addr} {ox : Obj} {od : Option Obj} {y tb : Value}
theorem ifBound_ne {M : Model} {args : List Value} {Q : Option Value → Shared → Prop} (X : K.In s.heap) (I : InstAt s.heap x ox C od) (hs : findIn K (.ref C) "__ne__" = some (some (.builtin "object.__ne__")))
    (h : wpAny M A (call (.builtin "object.__ne__") (.ref x :: args)) (fun v => Q (some v)) E s) : wpAny M A (callSpecialIfBound? (.ref x) "__ne__" args) Q E s := by
  simp only [callSpecialIfBound?, bindSpecialIfBound?]
  refine wpAny_holding (wpAny_bind (wpAny_bind (wpAny_bind (I.type.here ((looks_findIn X hs).here ?_)))))
  refine wpAny_bind (wpAny_askSetting (wpAny_ite ?_))
  have fin : wpAny M A (call (.builtin "object.__ne__") ([.ref x] ++ args) >>= fun v => pure (some v)) Q E s := wpAny_bind (wpAny_mono h (fun v s' h' => wpAny_pure h') fun _ _ h' => h')
  split
  · exact wpAny_bind (wpAny_of_eq (F.cmp_object.ne.bind _) (wpAny_pure (by exact fin)))
  · exact wpAny_tryCatch (wpAny_bind (wpAny_of_eq (F.cmp_object.ne.bind _) (wpAny_pure (by exact fin))))
theorem objNe_K {Q : Fin → Shared → Prop} (hu : A.units < cLine) (X : K.In s.heap) (I : InstAt s.heap x ox C od) (he : findIn K (.ref C) "__eq__" = some (some (.ref f))) (hf : isFn K (.ref f) = true)
    (hcall : wpAny (model prog w) A (call (.ref f) [.ref x, y]) (fun v s' => ∃ b, v = .bool b ∧ Q (.done (.ret (.bool (!b)))) s') E s) :
    wpAny (model prog w) A (Builtin.«object.__ne__» ⟨[.ref x, y], []⟩) Q E s := by
  unfold Builtin.«object.__ne__»
  repeat (first
    | with_reducible refine wpAny_cRoomFor hu ?_
    | (refine wpAny_bind (m := callSpecialIfBound? (.ref x) (Str.ofString "__eq__") [y])
        (ifBound_K X I he hf (wpAny_mono hcall (fun r s' hr => by
          obtain ⟨b, rfl, hq⟩ := hr
          repeat (first | exact hq | exact wpAny_pure hq | exact wpAny_truthy_bool hq | (refine wpAny_bind (m := truthy (.bool _)) (wpAny_truthy_bool ?_)) | wp_step)) fun _ _ e => e)))
    | wp_step)
/-- x != y by the class's __eq__ -/
theorem ne_K {Q : Value → Shared → Prop} (hu : A.units + 1 < cLine) (X : K.In s.heap) (I : InstAt s.heap x ox C od) (hb : Looks (model prog w) s.heap (typeOf y) tb) (hn : notFirst K C tb = true)
    (hm : mroIn K C (.type "object") = some true) (hne : findIn K (.ref C) "__ne__" = some (some (.builtin "object.__ne__"))) (he : findIn K (.ref C) "__eq__" = some (some (.ref f))) (hf : isFn K (.ref f) = true)
    (h : wpAny (model prog w) A.in1 (call (.ref f) [.ref x, y]) (fun v s' => ∃ b, v = .bool b ∧ Q (.bool (!b)) s') E s) : wpAny (model prog w) A (richCompare .NotEq (.ref x) y) Q E s := by
  have hu1 : A.in1.units < cLine := by show A.units + 1 < cLine; exact hu
  have one : wpAny (model prog w) A (tryCompare (.ref x) "__ne__" y) (fun r s' => ∃ v, r = some v ∧ Q v s') E s := by
    unfold tryCompare
    refine wpAny_bind (ifBound_ne X I hne ?_)
    refine wpAny_call (codeAny_call_builtin F.cmp_object.ne.plain F.cmpEntry_ne (check_slot F.cmpKind_ne F.cmpSplit_ne (I.type.andThen (looks_mroIn X hm)) (F.cmpArgs_ne _ _) (objNe_K (A := A.in1) hu1 X I he hf (wpAny_mono h (fun v s' hv => ?_) fun _ _ e => e))))
    obtain ⟨b, rfl, hq⟩ := hv
    first | exact ⟨b, rfl, wpAny_pure ⟨_, rfl, hq⟩⟩ | exact ⟨b, rfl, ⟨_, rfl, hq⟩⟩
  have hu0 : A.units < cLine := Nat.lt_of_succ_lt hu
  unfold richCompare
  simp only [oneThing_ref]
  refine wpAny_holding (wpAny_bind (wpAny_cRoomFor hu0 ?_))
  rw [cmpInfo_NotEq]
  dsimp only
  refine wpAny_bind (I.type.here (wpAny_bind (hb.here ?_)))
  split
  · rename_i q
    have e : subIn K tb (.ref C) = some false := by
      rcases Bool.or_eq_true_iff.mp hn with e | e
      · rw [beq_iff_eq.mp e] at q; simp at q
      · exact beq_iff_eq.mp e
    refine wpAny_bind ((looks_subIn X e).here ?_)
    simp only [Bool.false_eq_true, if_false]
    refine wpAny_bind (wpAny_mono one (fun r s' z => ?_) fun _ _ e => e)
    obtain ⟨v, rfl, hq⟩ := z
    exact wpAny_pure hq
  · refine wpAny_bind (wpAny_pure ?_)
    simp only [Bool.false_eq_true, if_false]
    refine wpAny_bind (wpAny_mono one (fun r s' z => ?_) fun _ _ e => e)
    obtain ⟨v, rfl, hq⟩ := z
    exact wpAny_pure hq
end
end JsLow

namespace L2
open PySem PySem.Spec PyProof.Rows
section
variable {X : Cx} {CX : CXT} {n : Nat} {C f : Addr} {fd : FuncData} {ps : List Str} {sp : Sp} {E : XK} {pins : List (Addr × Obj)} {σ : St} {H : Hp} {s : Shared}
/-- the callee runs somewhere below the body -/
theorem run_fnA {A : Around} {Q : VK} {us : List Value} {vs : List V} (F : FnOk X.prog X.w X.K X.mg X.base CX n f fd ps sp) (hr : Room n A) (e0 : Env0 X.prog X.w X.K X.mg X.base A X.stack s H) (hb : Binds X.K fd ps []) (hx : Passes CX X E)
    (I : Inv X pins σ H s) (r : Vals vs us) (h : sp vs H Q E) : wpAny (model X.prog X.w) A (call (.ref f) us) (EP X pins σ Q) X.xe s := by
  have hl : (us ++ []).length = ps.length := by rw [List.append_nil, ← r.length]; exact F.len _ _ _ _ h
  have hb' := hb s us I.kIn hl
  rw [List.append_nil] at hb'
  refine wpAny_call (codeAny_mono (F.run A X.stack s H ⟨us, []⟩ us vs Q E hr e0 hb' r h) fun r s' hq => ?_)
  cases r with
  | error e => exact hx pins σ H s e s' I hq
  | ok fl =>
    cases fl with
    | ret u => exact I.after hq
    | next => exact False.elim hq
    | brk => exact False.elim hq
    | cont => exact False.elim hq
theorem inst_of {a dx : Addr} {fs : List (Str × V)} (I : Inv X pins σ H s) (ha : H a = some (.ins C dx fs)) : ∃ od, PySem.W.InstAt s.heap a (PySem.W.instObj C dx) C (some od) := by
  obtain ⟨mA, J, _⟩ := ins_get I.hok ha
  obtain ⟨od, J, _⟩ := J.look
  exact ⟨od, J⟩
/-- what the text says of a class with a special def of its own -/
structure Own (K : PySem.W.Frag) (C : Addr) (name : Str) (f : Addr) : Prop where
  at_ : PySem.W.findIn K (.ref C) name = some (some (.ref f))
  fn : PySem.W.isFn K (.ref f) = true
/-- len(x) -/
def rLenOwn (C : Addr) (sp : Sp) (E : XK) : List V → Hp → VK → Prop := fun xs H Q => ∃ a dx fs, xs = [V.ref a] ∧ H a = some (.ins C dx fs) ∧ sp [.ref a] H (fun z H' => ∃ i : Int, z = .int i ∧ (0 ≤ i ∧ i < 2 ^ 63) ∧ Q (.int i) H') E
theorem call_lenOwn (o : Own X.K C "__len__" f) (F : FnOk X.prog X.w X.K X.mg X.base CX n f fd ps sp) (hb : Binds X.K fd ps []) (hr : Room (n + 1) X.A) (hx : Passes CX X E) : CallR X (.builtin "len") (rLenOwn C sp E) := by
  intro pins s σ H xs us Q I r h
  obtain ⟨a, dx, fs, rfl, ha, q⟩ := h
  obtain ⟨u, rfl, ru⟩ := vals1 r
  cases (show u = Value.ref a from ru)
  obtain ⟨od, J⟩ := inst_of I ha
  obtain ⟨m, hF⟩ := I.fr
  refine PySem.W.len_K hF I.ok.mod.kin J o.at_ o.fn (wpAny_mono (run_fnA (us := [.ref a]) (vs := [.ref a]) F hr.in1 I.env0.in1 hb hx I (.cons rfl .nil) q) (fun w s' z => ?_) fun _ _ x => x)
  obtain ⟨z', H', I', rz, i, ei, hi, qz⟩ := z
  subst ei
  obtain ⟨t, e⟩ := (show ∃ t, w = Value.int i t from rz)
  cases e
  exact ⟨hi, .int i, H', I'.tok _, ⟨_, rfl⟩, qz⟩
/-- str(x) -/
def rStrOwn (C : Addr) (sp : Sp) (E : XK) : List V → Hp → VK → Prop := fun xs H Q => ∃ a dx fs, xs = [V.ref a] ∧ H a = some (.ins C dx fs) ∧ sp [.ref a] H (fun z H' => ∃ i : Str, z = .str i ∧ Q (.str i) H') E
theorem call_strOwn (o : Own X.K C "__str__" f) (F : FnOk X.prog X.w X.K X.mg X.base CX n f fd ps sp) (hb : Binds X.K fd ps []) (hr : Room (n + 2) X.A) (hx : Passes CX X E) : CallR X (.type "str") (rStrOwn C sp E) := by
  intro pins s σ H xs us Q I r h
  obtain ⟨a, dx, fs, rfl, ha, q⟩ := h
  obtain ⟨u, rfl, ru⟩ := vals1 r
  cases (show u = Value.ref a from ru)
  obtain ⟨od, J⟩ := inst_of I ha
  have hr2 : Room n X.A.in1.in1 := (show Room (n + 1) X.A.in1 from Room.in1 hr).in1
  refine PySem.W.kso_call hr2.units0 I.kIn J o.at_ o.fn (wpAny_mono (run_fnA (us := [.ref a]) (vs := [.ref a]) F hr2 I.env0.in1.in1 hb hx I (.cons rfl .nil) q) (fun w s' z => ?_) fun _ _ x => x)
  obtain ⟨z', H', I', rz, i, ei, qz⟩ := z
  subst ei
  obtain ⟨t, e⟩ := (show ∃ t, w = Value.str i t from rz)
  cases e
  exact ⟨.str i, H', I', ⟨_, rfl⟩, qz⟩
/-- repr(x) -/
theorem call_reprOwn (o : Own X.K C "__repr__" f) (F : FnOk X.prog X.w X.K X.mg X.base CX n f fd ps sp) (hb : Binds X.K fd ps []) (hr : Room (n + 1) X.A) (hx : Passes CX X E) : CallR X (.builtin "repr") (rStrOwn C sp E) := by
  intro pins s σ H xs us Q I r h
  obtain ⟨a, dx, fs, rfl, ha, q⟩ := h
  obtain ⟨u, rfl, ru⟩ := vals1 r
  cases (show u = Value.ref a from ru)
  obtain ⟨od, J⟩ := inst_of I ha
  obtain ⟨m, hF⟩ := I.fr
  have hr2 : Room n X.A.in1 := Room.in1 hr
  refine PySem.W.repr_K hr2.units0 hF I.ok.mod.kin J o.at_ o.fn (wpAny_mono (run_fnA (us := [.ref a]) (vs := [.ref a]) F hr2 I.env0.in1 hb hx I (.cons rfl .nil) q) (fun w s' z => ?_) fun _ _ x => x)
  obtain ⟨z', H', I', rz, i, ei, qz⟩ := z
  subst ei
  obtain ⟨t, e⟩ := (show ∃ t, w = Value.str i t from rz)
  cases e
  exact ⟨.str i, H', I', ⟨_, rfl⟩, qz⟩
/-- x == y, both of the class at C, by its __eq__ -/
def rEqOwn (C : Addr) (sp : Sp) (E : XK) : R2 := fun x y H Q => ∃ a dx fs b dy gs, x = .ref a ∧ y = .ref b ∧ H a = some (.ins C dx fs) ∧ H b = some (.ins C dy gs) ∧ sp [x, y] H (fun z H' => ∃ b, z = .bl b ∧ Q (.bl b) H') E
def rNeOwn (C : Addr) (sp : Sp) (E : XK) : R2 := fun x y H Q => ∃ a dx fs b dy gs, x = .ref a ∧ y = .ref b ∧ H a = some (.ins C dx fs) ∧ H b = some (.ins C dy gs) ∧ sp [x, y] H (fun z H' => ∃ b, z = .bl b ∧ Q (.bl (!b)) H') E
/-- == of two of the class at A, below the body -/
theorem rc_own {A : Around} {Q : Bool → Hp → Prop} {a b dx dy : Addr} {fs gs : List (Str × V)} (o : Own X.K C "__eq__" f) (F : FnOk X.prog X.w X.K X.mg X.base CX n f fd ps sp) (hb : Binds X.K fd ps []) (hr : Room n A) (e0 : Env0 X.prog X.w X.K X.mg X.base A X.stack s H) (hx : Passes CX X E)
    (I : Inv X pins σ H s) (ha : H a = some (.ins C dx fs)) (hb' : H b = some (.ins C dy gs)) (q : sp [.ref a, .ref b] H (fun z H' => ∃ b, z = .bl b ∧ Q b H') E) :
    wpAny (model X.prog X.w) A (richCompare .Eq (.ref a) (.ref b)) (fun v s' => ∃ r, v = .bool r ∧ ∃ H', Inv X pins σ H' s' ∧ Q r H') X.xe s := by
  obtain ⟨od, J⟩ := inst_of I ha
  obtain ⟨od', J'⟩ := inst_of I hb'
  obtain ⟨m, hF⟩ := I.fr
  refine PySem.W.cmp_K (op := .Eq) (tb := .ref C) hr.units0 hF I.ok.mod.kin J J'.type (by simp [PySem.W.notFirst]) o.at_ o.fn (wpAny_mono (run_fnA (us := [.ref a, .ref b]) (vs := [.ref a, .ref b]) F hr e0 hb hx I (.cons rfl (.cons rfl .nil)) q) (fun w s' z => ?_) fun _ _ x => x)
  obtain ⟨z', H', I', rz, i, ei, qz⟩ := z
  subst ei
  cases (show w = Value.bool i from rz)
  exact ⟨i, rfl, H', I', qz⟩
theorem op_eqOwn (o : Own X.K C "__eq__" f) (F : FnOk X.prog X.w X.K X.mg X.base CX n f fd ps sp) (hb : Binds X.K fd ps []) (hr : Room n X.A) (hx : Passes CX X E) : OpR X (compareOp .Eq) (rEqOwn C sp E) := by
  intro pins s σ H x y v u Q I rx ry h
  obtain ⟨a, dx, fs, b, dy, gs, rfl, rfl, ha, hb', q⟩ := h
  cases (show v = Value.ref a from rx)
  cases (show u = Value.ref b from ry)
  show wpAny _ _ (richCompare .Eq (.ref a) (.ref b)) _ _ _
  refine wpAny_mono (rc_own (Q := fun r H' => Q (.bl r) H') o F hb hr I.env0 hx I ha hb' q) (fun w s' z => ?_) fun _ _ x => x
  obtain ⟨r, rfl, H', I', qz⟩ := z
  exact ⟨.bl r, H', I', rfl, qz⟩
/-- what != asks besides -/
structure OwnNe (K : PySem.W.Frag) (C : Addr) : Prop where
  ne : PySem.W.findIn K (.ref C) "__ne__" = some (some (.builtin "object.__ne__"))
  mro : PySem.W.mroIn K C (.type "object") = some true
theorem op_neOwn (o : Own X.K C "__eq__" f) (on : OwnNe X.K C) (F : FnOk X.prog X.w X.K X.mg X.base CX n f fd ps sp) (hb : Binds X.K fd ps []) (hr : Room (n + 1) X.A) (hx : Passes CX X E) : OpR X (compareOp .NotEq) (rNeOwn C sp E) := by
  intro pins s σ H x y v u Q I rx ry h
  obtain ⟨a, dx, fs, b, dy, gs, rfl, rfl, ha, hb', q⟩ := h
  cases (show v = Value.ref a from rx)
  cases (show u = Value.ref b from ry)
  show wpAny _ _ (richCompare .NotEq (.ref a) (.ref b)) _ _ _
  obtain ⟨od, J⟩ := inst_of I ha
  obtain ⟨od', J'⟩ := inst_of I hb'
  refine JsLow.ne_K (tb := .ref C) (hu_of hr) I.kIn J J'.type (by simp [PySem.W.notFirst]) on.mro on.ne o.at_ o.fn (wpAny_mono (run_fnA (us := [.ref a, .ref b]) (vs := [.ref a, .ref b]) F hr.in1 I.env0.in1 hb hx I (.cons rfl (.cons rfl .nil)) q) (fun w s' z => ?_) fun _ _ x => x)
  obtain ⟨z', H', I', rz, i, ei, qz⟩ := z
  subst ei
  cases (show w = Value.bool i from rz)
  exact ⟨i, rfl, .bl (!i), H', I', rfl, qz⟩
end
end L2

set_option Elab.async false
set_option linter.all false
set_option maxRecDepth 100000
set_option maxHeartbeats 2000000
namespace GQ
open PySem PySem.SeqAt
open AutoSeq1 (wpAny_loadPart')
open MeetsSeq MeetsSeq2 MeetsSeq3 SeqRoads2
section
variable {prog : Program} {w : World} {A : Around} {R : Result → Shared → Prop}
/-- x in a list: at each turn the list is read anew -/
def InI (prog : Program) (w : World) (A : Around) (R : Result → Shared → Prop) (l : Addr) (x : Value) (N : Nat) (I : Nat → Shared → Prop) : Prop :=
  ∀ i s, I i s → ∃ (items : Array Value) (n : Nat), s.heap.get? l = some { cls := .type "list", data := .seq items n } ∧ items.size = N ∧
    ∀ (h1 : i < items.size), wpAny (model prog w) A.in1 (eqBool items[i] x) (fun r s' => if r = true then R (.ok (.ret (.bool true))) s' else I (i + 1) s') (fun e s' => R (.error e) s') s
theorem in_loopG (l : Addr) (x : Value) (N : Nat) (I : Nat → Shared → Prop) (hl : InI prog w A R l x N I)
    (fin : ∀ s, I N s → R (.ok (.ret (.bool false))) s) (k : Nat) :
    ∀ i : Nat, N - i = k → i ≤ N → ∀ s, I i s →
      wpAny (model prog w) A.in1 (Builtin.«list.__contains__.loop» ⟨[.ref l, x, rawInt i], []⟩) (FinOf prog w A R) (fun e s' => R (.error e) s') s := by
  induction k with
  | zero =>
    intro i hk hi s h
    obtain ⟨items, n, hl1, hs1, _⟩ := hl _ _ h
    have hi' : i = N := by omega
    have hR : R (.ok (.ret (.bool false))) s := fin s (hi' ▸ h)
    obtain ⟨hp, g, d, tk, os⟩ := s
    wp_walk using wpAny_loadPart' hl1
    have hi1 : items[((i : Nat) : Int).toNat]? = none := by simp; omega
    rw [hi1]
    wp_walk
    exact hR
  | succ k ih =>
    intro i hk hi s h
    obtain ⟨items, n, hl1, hs1, turn⟩ := hl _ _ h
    have hlt : i < items.size := by omega
    have ht := turn hlt
    obtain ⟨hp, g, d, tk, os⟩ := s
    wp_walk using wpAny_loadPart' hl1
    have hi1 : items[((i : Nat) : Int).toNat]? = some items[i] := by simp [hlt]
    have hc : ((i : Int) + 1) = ((i + 1 : Nat) : Int) := by omega
    rw [hi1]
    refine wpAny_bind (wpAny_mono ht (fun r s2 h2 => ?_) fun _ _ x => x)
    cases r with
    | true =>
      rw [if_pos rfl] at h2
      obtain ⟨hp2, g2, d2, tk2, os2⟩ := s2
      wp_walk
      exact h2
    | false =>
      rw [if_neg Bool.false_ne_true] at h2
      have hrec := ih (i + 1) (by omega) (by omega) s2 h2
      obtain ⟨hp2, g2, d2, tk2, os2⟩ := s2
      wp_walk
      rw [hc]
      exact ⟨plainId_quiet plain_contains_loop _, codeAny_builtin entry_contains_loop (by
        rw [Around.under_plainId plain_contains_loop _]
        exact hrec)⟩
theorem list_inG (l : Addr) (x : Value) (N : Nat) (I : Nat → Shared → Prop) (hl : InI prog w A R l x N I)
    (fin : ∀ s, I N s → R (.ok (.ret (.bool false))) s) {s : Shared} (h : I 0 s) :
    wpAny (model prog w) A.in1 (Builtin.«list.__contains__» ⟨[.ref l, x], []⟩) (FinOf prog w A R) (fun e s' => R (.error e) s') s := by
  obtain ⟨items, n, hl1, hs1, _⟩ := hl _ _ h
  have hrec := in_loopG (A := A) (R := R) l x N I hl fin _ 0 rfl (Nat.zero_le _) s h
  obtain ⟨hp, g, d, tk, os⟩ := s
  wp_walk using wpAny_loadPart' hl1
  exact ⟨plainId_quiet plain_contains_loop _, codeAny_builtin entry_contains_loop (by
    rw [Around.under_plainId plain_contains_loop _]
    exact hrec)⟩
theorem op_in_listG {E : Value → Shared → Prop} {s : Shared} {l : Addr} {x : Value} {N : Nat} {Q : Value → Shared → Prop} (I : Nat → Shared → Prop)
    (hl : InI prog w A (wants (fun v s' => ∃ b, v = .bool b ∧ Q (.bool b) s') E) l x N I)
    (fin : ∀ s, I N s → Q (.bool false) s) (h : I 0 s) : wpAny (model prog w) A (compareOp .In x (.ref l)) Q E s := by
  obtain ⟨items, n, hl1, hs1, _⟩ := hl _ _ h
  show wpAny _ A (do return .bool (← contains (.ref l) x)) Q E s
  refine wpAny_bind (wpAny_contains_slot ⟨_, hl1, rfl⟩ F.slot_list_contains (wpAny_mono (call_here F.slot_list_contains ⟨_, hl1, rfl⟩ F.entry_list_contains (F.args_list_contains_2 _ _)
    (list_inG (R := wants (fun v s' => ∃ b, v = .bool b ∧ Q (.bool b) s') E) l x N I hl (fun s' q => ⟨false, rfl, fin s' q⟩) h)) (fun v s' hv => ?_) fun _ _ e => e))
  obtain ⟨b, rfl, hq⟩ := hv
  exact wpAny_truthy_bool (wpAny_pure hq)
end
end GQ
namespace L2
open PySem PySem.Spec PyProof.Rows
/-- how == answers, by the abstract heap -/
abbrev Tells := V → V → Bool → Hp → Prop
def EqT (X : Cx) (n : Nat) (D : Tells) : Prop :=
  ∀ (A : Around) (pins : List (Addr × Obj)) (s : Shared) (σ : St) (H : Hp) (x y : V) (u v : Value) (r : Bool), Sub X n A → Inv X pins σ H s → RelV x u → RelV y v → D x y r H →
    wpAny (model X.prog X.w) A (eqBool u v) (fun r' s' => r' = r ∧ ∃ H', Inv X pins σ H' s' ∧ Same H H') X.xe s
def rInT (D : Tells) : R2 := fun x y H Q => ∃ (p : Addr) (xs : List V) (bs : List Bool), y = .ref p ∧ H p = some (.lst xs) ∧ bs.length = xs.length ∧ (∀ (i : Nat) z b, xs[i]? = some z → bs[i]? = some b → D z x b H) ∧ ∀ H', Same H H' → Q (.bl (bs.any id)) H'
theorem op_inT {X : Cx} {n : Nat} {D : Tells} (h : EqT X n D) (mon : ∀ x y r H H', Same H H' → D x y r H → D x y r H') (hr : Room (n + 1) X.A) : OpR X (compareOp .In) (rInT D) := by
  intro pins s σ H x y v u Q I rx ry hq
  obtain ⟨p, xs, bs, rfl, hp, hl, hd, q⟩ := hq
  cases (show u = Value.ref p from ry)
  refine GQ.op_in_listG (N := xs.length) (fun i s' => (∃ H', Inv X pins σ H' s' ∧ Same H H') ∧ (bs.take i).any id = false) (fun i s' z => ?_) (fun s' z => ?_) ⟨⟨H, I, Same.refl H⟩, by simp⟩
  · obtain ⟨⟨H1, I1, e1⟩, nb⟩ := z
    obtain ⟨z, its, k, r, e⟩ := I1.hok p _ (e1 _ _ hp)
    refine ⟨its.toArray, k, e, by rw [List.size_toArray, ← r.length], fun h1 => ?_⟩
    have h1' : i < its.length := by simpa using h1
    have k1 : i < xs.length := by rw [r.length]; exact h1'
    have k2 : i < bs.length := by rw [hl]; exact k1
    obtain ⟨w', hw, rw'⟩ := r.get (List.getElem?_eq_getElem k1)
    have g1 : its[i]? = some its.toArray[i] := by rw [List.getElem?_eq_getElem h1'] <;> simp
    rw [g1] at hw
    rw [Option.some.inj hw]
    refine wpAny_mono (h X.A.in1 pins s' σ H1 _ x w' v _ ⟨hr.in1, rfl⟩ I1 rw' rx (mon _ _ _ _ _ e1 (hd i _ _ (List.getElem?_eq_getElem k1) (List.getElem?_eq_getElem k2)))) (fun r' s2 q2 => ?_) fun _ _ x => x
    obtain ⟨er, H2, I2, e2⟩ := q2
    subst er
    have tk : (bs.take (i + 1)).any id = bs[i] := by
      rw [List.take_succ_eq_append_getElem k2, List.any_append, nb]
      simp
    cases hb : bs[i] with
    | true =>
      rw [if_pos rfl]
      refine ⟨true, rfl, .bl true, H2, I2, rfl, ?_⟩
      have qq := q H2 (e1.trans e2)
      have : bs.any id = true := List.any_eq_true.mpr ⟨bs[i], List.getElem_mem k2, by rw [hb]; rfl⟩
      rw [this] at qq
      exact qq
    | false =>
      rw [if_neg Bool.false_ne_true]
      exact ⟨⟨H2, I2, e1.trans e2⟩, by rw [tk, hb]⟩
  · obtain ⟨⟨H1, I1, e1⟩, nb⟩ := z
    rw [← hl, List.take_length] at nb
    have qq := q H1 e1
    rw [nb] at qq
    exact ⟨.bl false, H1, I1, rfl, qq⟩
/-- == inside a list of two of the class at C -/
theorem eqT_own {X : Cx} {CX : CXT} {n : Nat} {C f : Addr} {fd : FuncData} {ps : List Str} {sp : Sp} {E : XK} {D : Tells} (o : Own X.K C "__eq__" f) (F : FnOk X.prog X.w X.K X.mg X.base CX n f fd ps sp) (hb : Binds X.K fd ps []) (hx : Passes CX X E)
    (hD : ∀ x y r H, D x y r H → ∃ a b dx dy fs gs, x = .ref a ∧ y = .ref b ∧ H a = some (.ins C dx fs) ∧ H b = some (.ins C dy gs) ∧ (a = b → r = true) ∧ sp [.ref a, .ref b] H (fun z H' => ∃ b, z = .bl b ∧ b = r ∧ Same H H') E) : EqT X n D := by
  intro A pins s σ H x y u v r sb I rx ry d
  obtain ⟨a, b, dx, dy, fs, gs, rfl, rfl, ha, hb', hab, q⟩ := hD _ _ _ _ d
  cases (show u = Value.ref a from rx)
  cases (show v = Value.ref b from ry)
  by_cases hc : a = b
  · subst hc
    rw [hab rfl]
    exact SeqAt.EqAt.same (A := A) (s := s) (.ref a) X.prog X.w X.xe _ ⟨rfl, H, I, Same.refl H⟩
  · have e0 : Env0 X.prog X.w X.K X.mg X.base A X.stack s H := by
      have e := I.env0
      exact ⟨by rw [sb.fr]; exact e.frames, e.mod, e.bs, e.bsz, e.funs, e.frf, e.hok, e.bare⟩
    refine GQ.eqBool_refG hc (wpAny_mono (rc_own (Q := fun r' H' => r' = r ∧ Same H H') o F hb sb.room e0 hx I ha hb' q) (fun w s' z => ?_) fun _ _ x => x)
    obtain ⟨r', hw, H', I', er, sm⟩ := z
    exact ⟨r', hw, er, H', I', sm⟩

/-! ### o[a:c] = ys -/
def gSlice (to : TE) (tl th : TO) : TG := fun v σ H Q => to σ H fun o H1 => tl σ H1 fun l H2 => th σ H2 fun u H3 => ∃ (p q : Addr) (xs ys : List V) (a c : Int), o = .ref p ∧ v = .ref q ∧ l = some a ∧ u = some c ∧ H3 p = some (.lst xs) ∧ H3 q = some (.lst ys) ∧ p ≠ q ∧
  0 ≤ a ∧ a ≤ c ∧ c ≤ xs.length ∧ xs.length + ys.length ≤ sizeLine ∧ Q σ (upd H3 p (.lst (xs.take a.toNat ++ ys ++ xs.drop c.toNat)))
theorem pg_slice {X : Cx} {o : Expr} {lo hi : Option Expr} {to : TE} {tl th : TO} {p2 pos : Pos} (ho : PE X o to) (hl : PO X lo tl) (hu : PO X hi th)
    (ha : ∀ v, assign (.Subscript o (.Slice lo hi none p2) pos) X.env v = (do
      let ov ← holding [v] (eval o X.env)
      let iv ← holding [v, ov] (eval (.Slice lo hi none p2) X.env)
      standAt pos
      holding [v, ov, iv] (setItem ov iv v)
      release [iv, v, ov] []) := by intro _; rfl) : PG X (.Subscript o (.Slice lo hi none p2) pos) (gSlice to tl th) := by
  refine ⟨fun pins s σ H v u Q I r h => ?_⟩
  rw [ha]
  refine wpAny_bind (wpAny_holding (thn (ho.run pins s σ H _ I h) fun ov s1 ⟨x, H1, I1, r1, q1⟩ => ?_))
  refine wpAny_bind (wpAny_holding (wpAny_Slice (thn (hl.run pins s1 σ H1 _ I1 q1) fun vl s2 ⟨l, H2, I2, pl, q2⟩ => thn (hu.run pins s2 σ H2 _ I2 q2) fun vu s3 ⟨m, H3, I3, pu, q3⟩ => ?_)))
  rw [evalPart_none]
  refine wpAny_pure ?_
  have I4 : Inv X pins σ H3 { s3 with heap := s3.heap.push { cls := .type "slice", data := .fields #[vl, vu, .none] } } := I3.kept (t' := s3.toks) fun b ob q => Heap.get?_push_of_some _ q
  obtain ⟨p, q, xs, ys, a, c, rfl, rfl, rfl, rfl, hp, hq, hne, h0, hac, hc, hz, k⟩ := q3
  cases (show ov = Value.ref p from r1)
  cases (show u = Value.ref q from r)
  refine wpAny_bind (wpAny_standAt (wpAny_bind (wpAny_holding ?_)))
  have ra : RelV (.int a) vl := by cases pl; exact ⟨_, rfl⟩
  have rc : RelV (.int c) vu := by cases pu; exact ⟨_, rfl⟩
  exact set_slice I4 hp hq hne (Heap.IsSliceOf.new ..) ra rc h0 hac hc hz fun s' I5 => wpAny_release ⟨σ, _, I5, k⟩

/-! ### enumerate(text) -/
def Itse (x : Str) : It := ⟨fun i _ => i < x.cps.size, fun i H v H' => ∃ T c, v = .ref T ∧ H T = none ∧ H' = upd H T (.tup [.int (i : Nat), .str ⟨#[c]⟩]) ∧ x.cps[i]? = some c, fun i _ => i = x.cps.size⟩
theorem draws_str {prog : Program} {w : World} {A : Around} (hh : A.handled = none) (it : Addr) (x : Str) (t : Tok) :
    Draws prog w A it [it] x.cps.size (fun i v => ∃ c u, x.cps[i]? = some c ∧ v = .str ⟨#[c]⟩ u) (fun i h => h.IsStrIter it (strIterType x) x t i) := by
  unfold strIterType
  split
  · exact Draws.strAscii hh it x t
  · exact Draws.strWide hh it x t
theorem turn_enumS {P : Program} {w : World} {K : PySem.W.Frag} {elts : List Expr} {kk : Nat} {tpos : Pos} (x : Str) (t : Tok) (e it : Addr) :
    Turn P w K (.Tuple elts kk tpos) (Itse x) [e, it] e (fun i h => (∃ old, IsEnum h e it ((i : Nat) : Int) old) ∧ h.IsStrIter it (strIterType x) x t i ∧ e ≠ it) where
  mem := by simp
  obj := fun i h st b hb => by
    obtain ⟨⟨old, he⟩, ⟨o, ho, hc, hd⟩, _⟩ := st
    have e' : b = e ∨ b = it := by simpa using hb
    rcases e' with z | z
    · rw [z]; exact ⟨_, he, fun v q => nomatch q⟩
    · rw [z]; exact ⟨o, ho, fun v q => by rw [hd] at q; cases q⟩
  keep := fun i h h' st k => let ⟨⟨old, he⟩, ⟨o, ho, r⟩, hne⟩ := st; ⟨⟨old, k e (by simp) _ he⟩, ⟨o, k it (by simp) o ho, r⟩, hne⟩
  item := by
    intro X hP hw hK hc i pins s σ H E I hf st hg
    subst hP hw hK
    obtain ⟨⟨old, he⟩, hit, hne⟩ := st
    have hel : e < s.heap.objs.size := Heap.lt_size he
    have hil : it < s.heap.objs.size := by obtain ⟨_, q, _⟩ := hit; exact Heap.lt_size q
    refine wpAny_pyNext_enum_itemD (draws_str (A := X.A.in1) (show X.A.in1.handled = none from I.ok.hd hc) it x t) he hit hg hne (by simpa using hne) fun u h' tk hPx ho hit' hT hsz hk => ?_
    obtain ⟨c, tu, hcx, rfl⟩ := hPx
    refine ⟨_, rfl, wpAny_letOwnedTupleGo_enum (s := { s with heap := h', toks := tk + 1 }) ho fun h'' he' sb => ?_⟩
    have hT2 : h''.get? s.heap.objs.size = some { cls := .type "tuple", data := .seq #[.int i tk, .str ⟨#[c]⟩ tu] } := (sb.2 _ (Nat.ne_of_gt hel)).trans hT
    have new : ObjOk X.prog X.w (upd H s.heap.objs.size (.tup [.int (i : Nat), .str ⟨#[c]⟩])) h'' s.heap.objs.size (.tup [.int (i : Nat), .str ⟨#[c]⟩]) :=
      ⟨by show 2 ≤ sizeLine; decide, [.int i tk, .str ⟨#[c]⟩ tu], .cons ⟨_, rfl⟩ (.cons ⟨_, rfl⟩ .nil), ⟨_, hT2, rfl, _, rfl⟩⟩
    have I1 : Inv X pins σ (upd H s.heap.objs.size (.tup [.int (i : Nat), .str ⟨#[c]⟩])) { s with heap := h'', toks := tk + 1 } :=
      I.turnedNew (ch := [e, it]) (fun b ob hb q => (sb.2 b (fun z => hb (by simp [z]))).trans (hk b ob (fun z => hb (by simp [z])) (fun z => hb (by simp [z])) q)) hf (Nat.le_refl _) new
    refine ⟨.ref s.heap.objs.size, _, I1, rfl, ⟨_, c, rfl, I.hok.fresh (Nat.le_refl _), rfl, hcx⟩, ⟨⟨.str ⟨#[c]⟩ tu, ?_⟩, ?_, hne⟩, fun b hb => ?_⟩
    · have e1 : ((i + 1 : Nat) : Int) = (i : Int) + 1 := by omega
      rw [e1]; exact he'
    · obtain ⟨o, q, r⟩ := hit'
      exact ⟨o, (sb.2 it (Ne.symm hne)).trans q, r⟩
    · have hb' : b < s.heap.objs.size := by
        have e' : b = e ∨ b = it := by simpa using hb
        rcases e' with z | z
        · rw [z]; exact hel
        · rw [z]; exact hil
      rw [upd_ne (Nat.ne_of_lt hb')]
      exact (hf b hb).1
  done := by
    intro X hP hw hK hc i pins s σ H E I hf st hg
    subst hP hw hK
    obtain ⟨⟨old, he⟩, hit, hne⟩ := st
    obtain ⟨f0, f1, f2, f3, f4, f5⟩ := hf it (by simp)
    have hin : i = x.cps.size := hg
    subst hin
    exact wpAny_pyNext_enum_endD (draws_str (A := X.A.in1) (show X.A.in1.handled = none from I.ok.hd hc) it x t) he hit fun h' eb => ⟨rfl, I.turned (t' := s.toks) (fun b o hb q => eb b o hb q) f0 f1 f3 f4 f5⟩
  self := fun A i s Q E st h => let ⟨⟨_, he⟩, _⟩ := st; wpAny_pyIter_enum he h
def iEnumS (ta : TA) : TI := fun σ H R => ta σ H fun vs H1 => ∃ x, vs = [.str x] ∧ R (Itse x) H1
theorem pi_enumS {X : Cx} {e : Expr} {ta : TA} {p pos tpos : Pos} {elts : List Expr} {kk : Nat} (hg : Gl X "enumerate") (hm : X.mg "enumerate" = none) (ha : PA X [e] ta) (hs : starEach [e] X.env = [(false, eval e X.env)] := by rfl) :
    PI X (.Tuple elts kk tpos) (.Call (.Name "enumerate" p) [e] [] pos) (iEnumS ta) := by
  refine ⟨fun pins s σ H R I h => ?_⟩
  refine Call_ (ld_blt I hg hm boot_enumerate (PyProof.Rows.callWith_type1 (thn (ha.run pos pins s σ H _ I h) fun us s1 ⟨vs, H1, I1, r1, q1⟩ => ?_) hs rfl))
  obtain ⟨x, ex, q⟩ := q1
  subst ex
  obtain ⟨u, rfl, ru⟩ := vals1 r1
  obtain ⟨t, rfl⟩ := ru
  refine call_enumerate_str fun h' he hit hsz hk => wpAny_pyIter_enum he ?_
  have I2 : Inv X pins σ H1 { s1 with heap := h' } := I1.kept (t' := s1.toks) hk
  refine ⟨s1.heap.objs.size + 1, [s1.heap.objs.size + 1, s1.heap.objs.size], _, _, H1, rfl, I2, turn_enumS x t (s1.heap.objs.size + 1) s1.heap.objs.size, ⟨⟨.none, he⟩, hit, Nat.succ_ne_self _⟩, fun b hb => ?_, q⟩
  have e' : b = s1.heap.objs.size + 1 ∨ b = s1.heap.objs.size := by simpa using hb
  have hle : s1.heap.objs.size ≤ b := by
    rcases e' with z | z
    · rw [z]; exact Nat.le_add_right _ _
    · rw [z]; exact Nat.le_refl _
  exact I1.fpOk hle (I1.hok.fresh hle)
theorem walk_enumS {z : Str} : Walk (Itse z) z.cps.size (fun _ => True) (fun i H v H' => ∃ T c, v = .ref T ∧ H T = none ∧ H' = upd H T (.tup [.int (i : Nat), .str ⟨#[c]⟩]) ∧ z.cps[i]? = some c) :=
  ⟨fun _ _ h _ => h, fun _ _ => rfl, fun _ _ _ _ _ _ y => y⟩
end L2

set_option Elab.async false
set_option linter.all false
set_option maxRecDepth 100000
set_option maxHeartbeats 2000000
namespace L2
open PySem PySem.Spec PyProof.Rows
/-! ### len(range(n)) -/
theorem call_len_range {prog : Program} {w : World} {A : Around} {E : Value → Shared → Prop} {s : Shared} {r : Addr} {a b : Int} {t u v : Tok} {Q : Value → Shared → Prop} (hr : IsRange s.heap r a b 1 t u v) (h : (b - a).toNat < 2 ^ 62)
    (hq : Q (.int ((b - a).toNat : Nat) (s.toks + 1)) { s with toks := s.toks + 1 + 1 }) : wpAny (model prog w) A (call (.builtin "len") [.ref r]) Q E s := by
  have hT : s.TypeIs (.ref r) "range" := ⟨_, hr, rfl⟩
  have hn : Builtin.Range.rangeSize a b 1 = ((b - a).toNat : Nat) := rangeSize_nat a b
  refine call_len_slot (n := ((b - a).toNat : Nat)) hT F.slot_range_len (fun Q' hq' => wpAny_call_entry F.slot_range_len hT F.entry_range_len ?_ (F.args_range_len_1 _)) (by omega) (by omega) hq
  obtain ⟨hp, g, d, tk, os⟩ := s
  unfold Builtin.«range.__len__»
  have h2 : ¬ ((((b - a).toNat : Nat) : Int) ≥ 2 ^ 63) := by omega
  refine wpAny_bind (wpAny_pure ?_)
  show wpAny _ _ (Builtin.Range.rangeFields (.ref r) >>= _) _ _ _
  unfold Builtin.Range.rangeFields
  repeat (first
    | (with_reducible refine wpAny_bind ?_)
    | (with_reducible refine wpAny_field hr rfl rfl ?_)
    | (with_reducible refine wpAny_pure ?_)
    | (simp only [hn, if_neg h2])
    | wp_step)
  all_goals first | exact ⟨_, rfl, hq'⟩ | exact hq' | skip
def tLenRg (te : St → Hp → (Int → Int → Hp → Prop) → Prop) : TE := fun σ H Q => te σ H fun a b H1 => (b - a).toNat < 2 ^ 62 ∧ Q (.int ((b - a).toNat : Nat)) H1
theorem pe_lenRg {X : Cx} {e : Expr} {te : St → Hp → (Int → Int → Hp → Prop) → Prop} {p pos : Pos} (hg : Gl X "len") (hm : X.mg "len" = none) (he : PRg X e te) (na : starEach [e] X.env = (false, eval e X.env) :: starEach [] X.env := by rfl) :
    PE X (.Call (.Name "len" p) [e] [] pos) (tLenRg te) := by
  refine ⟨fun pins s σ H Q I h => ?_⟩
  refine Call_ (ld_blt I hg hm PySem.boot_len (PyProof.Rows.callWith_builtin1 (args_cons (thn (he pins s σ H _ I h) fun x s1 ⟨r, a, b, t, u, v, H1, ex, hr, I1, ok, q⟩ => args_nil ?_) na) na rfl))
  subst ex
  exact call_len_range hr ok ⟨.int _, H1, I1.tok _, ⟨_, rfl⟩, q⟩
end L2

set_option Elab.async false
set_option linter.all false
set_option maxRecDepth 100000
set_option maxHeartbeats 2000000
/-! trees: what a thing is; their texts; how they stand in the heap -/
namespace Js
open PySem L2
inductive Tr where
  | nil
  | pr (l r : Tr)
  deriving DecidableEq
namespace Tr
def size : Tr → Nat
  | nil => 0
  | pr l r => 1 + l.size + r.size
def codes : Tr → List Nat
  | nil => [46]
  | pr l r => 40 :: (l.codes ++ (r.codes ++ [41]))
def text (t : Tr) : Str := ⟨t.codes.toArray⟩
theorem text_list (t : Tr) : t.text.cps.toList = t.codes := rfl
theorem codes_len : ∀ t : Tr, t.codes.length = 3 * t.size + 1
  | nil => rfl
  | pr l r => by
    have h1 := codes_len l
    have h2 := codes_len r
    simp only [codes, size, List.length_cons, List.length_append, List.length_nil]
    omega
theorem text_len (t : Tr) : t.text.length = 3 * t.size + 1 := by
  have h : t.text.length = t.codes.length := by
    show t.codes.toArray.size = _
    rw [List.size_toArray]
  rw [h, codes_len]
/-- codes are read in one way -/
theorem codes_pre : ∀ (t u : Tr) (p q : List Nat), t.codes ++ p = u.codes ++ q → t = u ∧ p = q
  | nil, nil, p, q, h => ⟨rfl, by simpa [codes] using h⟩
  | nil, pr l r, p, q, h => by simp [codes] at h
  | pr l r, nil, p, q, h => by simp [codes] at h
  | pr l r, pr l' r', p, q, h => by
    simp only [codes, List.cons_append, List.append_assoc, List.cons.injEq, true_and] at h
    obtain ⟨e1, h1⟩ := codes_pre l l' _ _ h
    obtain ⟨e2, h2⟩ := codes_pre r r' _ _ h1
    subst e1 e2
    simp only [List.nil_append, List.cons.injEq, true_and] at h2
    exact ⟨rfl, h2⟩
theorem codes_inj {t u : Tr} (h : t.codes = u.codes) : t = u := (codes_pre t u [] [] (by simpa using h)).1
theorem text_inj {t u : Tr} (h : t.text = u.text) : t = u := codes_inj (by rw [← text_list, ← text_list, h])
theorem size_nil {t : Tr} (h : t.size = 0) : t = nil := by
  cases t with
  | nil => rfl
  | pr l r => simp [size] at h
theorem small_eq {t u : Tr} (h : t.size = u.size) (h1 : t.size ≤ 1) : t = u := by
  cases t with
  | nil => exact (size_nil h.symm).symm
  | pr l r =>
    cases u with
    | nil => simp [size] at h
    | pr l' r' =>
      simp only [size] at h h1
      have e1 := size_nil (t := l) (by omega)
      have e2 := size_nil (t := r) (by omega)
      have e3 := size_nil (t := l') (by omega)
      have e4 := size_nil (t := r') (by omega)
      rw [e1, e2, e3, e4]
def head : Tr → Tr
  | nil => nil
  | pr l _ => l
def tail : Tr → Tr
  | nil => nil
  | pr _ r => r
end Tr
open Tr (small_eq)
/-! ### the attributes -/
theorem n_fs : ¬ (("first" : Str) = "second") := by decide +kernel
theorem n_fz : ¬ (("first" : Str) = "size") := by decide +kernel
theorem n_sf : ¬ (("second" : Str) = "first") := by decide +kernel
theorem n_sz : ¬ (("second" : Str) = "size") := by decide +kernel
def tf (f s : V) (n : Int) : List (Str × V) := putF "size" (.int n) (putF "second" s (putF "first" f []))
theorem tf_len (f s : V) (n : Int) : (tf f s n).length ≤ 3 := by
  unfold tf
  have h1 := length_putF "first" f []
  have h2 := length_putF "second" s (putF "first" f [])
  have h3 := length_putF "size" (.int n) (putF "second" s (putF "first" f []))
  simp only [List.length_nil] at h1
  omega
theorem tf_first (f s : V) (n : Int) : (tf f s n).lookup ("first" : Str) = some f := by
  unfold tf
  rw [lookup_putF, if_neg n_fz, lookup_putF, if_neg n_fs, lookup_putF, if_pos rfl]
theorem tf_second (f s : V) (n : Int) : (tf f s n).lookup ("second" : Str) = some s := by
  unfold tf
  rw [lookup_putF, if_neg n_sz, lookup_putF, if_pos rfl]
theorem tf_size (f s : V) (n : Int) : (tf f s n).lookup ("size" : Str) = some (.int n) := by
  unfold tf
  rw [lookup_putF, if_pos rfl]
theorem tf_no (f s : V) (n : Int) {m : Str} (h1 : ¬ m = "size") (h2 : ¬ m = "second") (h3 : ¬ m = "first") : (tf f s n).lookup m = none := by
  unfold tf
  rw [lookup_putF, if_neg h1, lookup_putF, if_neg h2, lookup_putF, if_neg h3]
  all_goals rfl
/-- a thing stands at a -/
inductive Th (C : Addr) (H : Hp) : Addr → Tr → Prop where
  | nil {a dx : Addr} (h : H a = some (.ins C dx (tf .non .non 0))) : Th C H a .nil
  | pr {a dx b c : Addr} {l r : Tr} (h : H a = some (.ins C dx (tf (.ref b) (.ref c) ((Tr.pr l r).size : Nat)))) (hl : Th C H b l) (hr : Th C H c r) : Th C H a (.pr l r)
/-- all that is no list stays -/
def KT (H H' : Hp) : Prop := ∀ a o, H a = some o → (∀ xs, o ≠ HO.lst xs) → H' a = some o
theorem KT.of {H H' : Hp} (s : Same H H') : KT H H' := fun _ _ h _ => s _ _ h
theorem KT.refl (H : Hp) : KT H H := fun _ _ h _ => h
theorem KT.trans {H H1 H2 : Hp} (a : KT H H1) (b : KT H1 H2) : KT H H2 := fun x o h n => b x o (a x o h n) n
theorem KT.lst {H : Hp} {p : Addr} {o : HO} {xs : List V} (hp : H p = some (.lst xs)) : KT H (upd H p o) := fun a u h n => by
  rw [upd_ne]
  · exact h
  · intro e
    subst e
    exact n _ (Option.some.inj (h.symm.trans hp))
theorem KT.new {H : Hp} {p : Addr} {o : HO} (hp : H p = none) : KT H (upd H p o) := fun a u h n => by
  rw [upd_ne (ne_of_none h hp)]
  exact h
theorem _root_.L2.Same.new {H : Hp} {p : Addr} {o : HO} (hp : H p = none) : Same H (upd H p o) := fun a u h => by
  rw [upd_ne (ne_of_none h hp)]
  exact h
/-- a list that is new since H0 changes -/
theorem _root_.L2.Same.set {H0 H : Hp} {p : Addr} {o : HO} (s : Same H0 H) (hp : H0 p = none) : Same H0 (upd H p o) := fun a u h => by
  rw [upd_ne (ne_of_none h hp)]
  exact s _ _ h
theorem Th.kt {C : Addr} {H H' : Hp} (k : KT H H') {a : Addr} {t : Tr} (h : Th C H a t) : Th C H' a t := by
  induction h with
  | nil h => exact .nil (k _ _ h (fun _ e => nomatch e))
  | pr h _ _ ih1 ih2 => exact .pr (k _ _ h (fun _ e => nomatch e)) ih1 ih2
theorem Th.same {C : Addr} {H H' : Hp} (s : Same H H') {a : Addr} {t : Tr} (h : Th C H a t) : Th C H' a t := h.kt (KT.of s)
theorem Th.obj {C : Addr} {H : Hp} {a : Addr} {t : Tr} (h : Th C H a t) : ∃ dx f s, H a = some (.ins C dx (tf f s (t.size : Nat))) := by
  cases h with
  | nil h => exact ⟨_, _, _, h⟩
  | pr h _ _ => exact ⟨_, _, _, h⟩
theorem tf_ref_inj {C dx dx' : Addr} {f s f' s' : V} {n n' : Int} (h : HO.ins C dx (tf f s n) = HO.ins C dx' (tf f' s' n')) : f = f' ∧ s = s' ∧ n = n' := by
  injection h with _ _ h3
  have e1 := congrArg (List.lookup ("first" : Str)) h3
  have e2 := congrArg (List.lookup ("second" : Str)) h3
  have e3 := congrArg (List.lookup ("size" : Str)) h3
  rw [tf_first, tf_first] at e1
  rw [tf_second, tf_second] at e2
  rw [tf_size, tf_size] at e3
  exact ⟨Option.some.inj e1, Option.some.inj e2, V.int.inj (Option.some.inj e3)⟩
theorem Th.inj {C : Addr} {H : Hp} {a : Addr} {t u : Tr} (h : Th C H a t) (h' : Th C H a u) : t = u := by
  induction h generalizing u with
  | nil h =>
    cases h' with
    | nil _ => rfl
    | pr h' _ _ =>
      have e := Option.some.inj (h.symm.trans h')
      exact V.noConfusion (tf_ref_inj e).1
  | pr h _ _ ih1 ih2 =>
    cases h' with
    | nil h' =>
      have e := Option.some.inj (h.symm.trans h')
      exact V.noConfusion (tf_ref_inj e).1
    | pr h' h1 h2 =>
      have e := tf_ref_inj (Option.some.inj (h.symm.trans h'))
      have e1 := V.ref.inj e.1
      have e2 := V.ref.inj e.2.1
      subst e1 e2
      rw [ih1 h1, ih2 h2]
/-- a pair: what its attributes hold -/
theorem Th.pair {C : Addr} {H : Hp} {a : Addr} {l r : Tr} (h : Th C H a (.pr l r)) : ∃ dx b c, H a = some (.ins C dx (tf (.ref b) (.ref c) ((Tr.pr l r).size : Nat))) ∧ Th C H b l ∧ Th C H c r := by
  cases h with
  | pr h hl hr => exact ⟨_, _, _, h, hl, hr⟩
theorem pr_tru (l r : Tr) : true = ((((Tr.pr l r).size : Nat) : Int) != 0) := by
  have : (((Tr.pr l r).size : Nat) : Int) ≠ 0 := by simp only [Tr.size]; omega
  exact (bne_iff_ne.mpr this).symm
/-! ### stacks: the top comes first -/
theorem last_rev {α : Type} (v : α) (r : List α) : (v :: r).reverse[(v :: r).reverse.length - 1]? = some v := by
  rw [List.reverse_cons, List.length_append, List.length_reverse]
  show (r.reverse ++ [v])[r.length + 1 - 1]? = some v
  rw [Nat.add_sub_cancel, List.getElem?_append_right (by rw [List.length_reverse]; exact Nat.le_refl _), List.length_reverse, Nat.sub_self]
  rfl
theorem drop_rev {α : Type} (v : α) (r : List α) : (v :: r).reverse.dropLast = r.reverse := by
  rw [List.reverse_cons, List.dropLast_concat]
theorem push_rev {α : Type} (v : α) (r : List α) : r.reverse ++ [v] = (v :: r).reverse := by
  rw [List.reverse_cons]
/-! ### two stacks of things -/
/-- a pair of things, in a tuple -/
def PrAt (C : Addr) (H : Hp) (v : V) (p : Tr × Tr) : Prop := ∃ q a b, v = .ref q ∧ H q = some (.tup [.ref a, .ref b]) ∧ Th C H a p.1 ∧ Th C H b p.2
theorem PrAt.kt {C : Addr} {H H' : Hp} (k : KT H H') {v : V} {p : Tr × Tr} (h : PrAt C H v p) : PrAt C H' v p := by
  obtain ⟨q, a, b, e, hq, h1, h2⟩ := h
  exact ⟨q, a, b, e, k _ _ hq (fun _ e => nomatch e), h1.kt k, h2.kt k⟩
theorem prs_kt {C : Addr} {H H' : Hp} (k : KT H H') : ∀ {rs : List V} {ps : List (Tr × Tr)}, Paired (PrAt C H) rs ps → Paired (PrAt C H') rs ps
  | _, _, .nil => .nil
  | _, _, .cons h t => .cons (h.kt k) (prs_kt k t)
def pm (ps : List (Tr × Tr)) : Nat := (ps.map fun p => 2 * p.1.size + 1).sum
theorem pm_cons (p : Tr × Tr) (ps : List (Tr × Tr)) : pm (p :: ps) = 2 * p.1.size + 1 + pm ps := by simp [pm]
theorem pm_len : ∀ ps : List (Tr × Tr), ps.length ≤ pm ps
  | [] => Nat.zero_le _
  | p :: ps => by
    have := pm_len ps
    rw [pm_cons, List.length_cons]
    omega
/-- a thing that waits, or a bracket to shut -/
def WtAt (C : Addr) (H : Hp) (v : V) (o : Option Tr) : Prop := (v = .non ∧ o = none) ∨ ∃ a t, v = .ref a ∧ o = some t ∧ Th C H a t
theorem WtAt.kt {C : Addr} {H H' : Hp} (k : KT H H') {v : V} {o : Option Tr} (h : WtAt C H v o) : WtAt C H' v o := by
  rcases h with h | ⟨a, t, e1, e2, h⟩
  · exact .inl h
  · exact .inr ⟨a, t, e1, e2, h.kt k⟩
theorem wts_kt {C : Addr} {H H' : Hp} (k : KT H H') : ∀ {rs : List V} {ps : List (Option Tr)}, Paired (WtAt C H) rs ps → Paired (WtAt C H') rs ps
  | _, _, .nil => .nil
  | _, _, .cons h t => .cons (h.kt k) (wts_kt k t)
def wout : Option Tr → List Nat
  | none => [41]
  | some t => t.codes
def wouts (ps : List (Option Tr)) : List Nat := (ps.map wout).flatten
theorem wouts_cons (p : Option Tr) (ps : List (Option Tr)) : wouts (p :: ps) = wout p ++ wouts ps := by simp [wouts]
def wm1 : Option Tr → Nat
  | none => 1
  | some t => 3 * t.size + 1
def wm (ps : List (Option Tr)) : Nat := (ps.map wm1).sum
theorem wm_cons (p : Option Tr) (ps : List (Option Tr)) : wm (p :: ps) = wm1 p + wm ps := by simp [wm]
theorem wm_len : ∀ ps : List (Option Tr), ps.length ≤ wm ps
  | [] => Nat.zero_le _
  | p :: ps => by
    have := wm_len ps
    rw [wm_cons, List.length_cons]
    cases p with
    | none => simp only [wm1]; omega
    | some t => simp only [wm1]; omega
theorem line4 : 100000 < sizeLine := by rw [sizeLine_eq]; decide
end Js

set_option Elab.async false
set_option linter.all false
set_option maxRecDepth 100000
set_option maxHeartbeats 2000000
namespace Js
open PySem L2
def top (i : Nat) : Stmt := PySem.Challenge.pw_judgeslip_k04_no_texts_of_things.main.body.getD i (.Pass ⟨0, 0, 0, 0⟩)
abbrev sInit : Stmt := inClass (top 11) 0
abbrev sHead : Stmt := inClass (top 11) 1
abbrev sTail : Stmt := inClass (top 11) 2
abbrev sLen : Stmt := inClass (top 11) 3
abbrev sEq : Stmt := inClass (top 11) 4
abbrev sStr : Stmt := inClass (top 11) 5
abbrev sRepr : Stmt := inClass (top 11) 6
abbrev sPairs : Stmt := top 12
abbrev sAlike : Stmt := top 13
abbrev sSigns : Stmt := top 14
/-- what the text says of Thing, and which built-ins are as they were -/
structure Txt (K : PySem.W.Frag) (mg : Str → Option Value) (C : Addr) : Prop where
  cl : Cls K C
  nF : NoAttr K C "first"
  nS : NoAttr K C "second"
  nZ : NoAttr K C "size"
  mgC : mg "Thing" = some (.ref C)
  mgM : ∃ t, mg "MOST_PAIRS" = some (.int 4000 t)
  len : mg "len" = none
  range : mg "range" = none
  isi : mg "isinstance" = none
  ca : PySem.W.findIn K (.ref C) "__class__" = some (some (.builtin "object.__class__"))
  cn : PySem.W.specialIn K (.builtin "object.__class__") "__get__" = some (some (.builtin "getset_descriptor.__get__"))
  ct : PySem.W.takesIn K (.builtin "object.__class__") = some true
  cm : PySem.W.mroIn K C (.type "object") = some true
  ne : PySem.W.findIn K (.ref C) "__ne__" = some (some (.builtin "object.__ne__"))
/-- a def of the top: where it stands -/
structure At (K : PySem.W.Frag) (mg : Str → Option Value) (x : Str) (st : Stmt) (ps : List Str) (f : Addr) (fd : FuncData) : Prop where
  F : Fun K x x st f fd
  mgf : mg x = some (.ref f)
  b : Binds K fd ps []
/-! ### promises -/
def PairsOf (C : Addr) (H : Hp) (x y : V) (n : Nat) : Prop := (x = .non ∧ y = .non ∧ n = 0) ∨ ∃ a b t u, x = .ref a ∧ y = .ref b ∧ Th C H a t ∧ Th C H b u ∧ n = 1 + t.size + u.size
def spPairs (C : Addr) : Sp := fun vs H Q _ => ∃ x y n, vs = [x, y] ∧ PairsOf C H x y n ∧ Q (.int (n : Nat)) H
def spInit (C : Addr) : Sp := fun vs H Q _ => ∃ (p dx : Addr) (x y : V) (n : Nat), vs = [.ref p, x, y] ∧ H p = some (.ins C dx []) ∧ PairsOf C H x y n ∧ n ≤ 4000 ∧ Q .non (upd H p (.ins C dx (tf x y (n : Nat))))
def spHead (C : Addr) : Sp := fun vs H Q _ => ∃ a t, vs = [.ref a] ∧ Th C H a t ∧ ∀ b, Th C H b t.head → Q (.ref b) H
def spTail (C : Addr) : Sp := fun vs H Q _ => ∃ a t, vs = [.ref a] ∧ Th C H a t ∧ ∀ b, Th C H b t.tail → Q (.ref b) H
def spLen (C : Addr) : Sp := fun vs H Q _ => ∃ a t, vs = [.ref a] ∧ Th C H a t ∧ t.size ≤ 4000 ∧ Q (.int (t.size : Nat)) H
def spEqT (C : Addr) : Sp := fun vs H Q _ => ∃ a b t u, vs = [.ref a, .ref b] ∧ Th C H a t ∧ Th C H b u ∧ t.size ≤ 4000 ∧ ∀ H', Same H H' → Q (.bl (decide (t = u))) H'
def sgn (c : Nat) : V := .str ⟨#[c]⟩
def spSigns (C : Addr) : Sp := fun vs H Q _ => ∃ a t, vs = [.ref a] ∧ Th C H a t ∧ t.size ≤ 4000 ∧ ∀ p H', Same H H' → H p = none → H' p = some (.lst (t.codes.map sgn)) → Q (.ref p) H'
def spStr (C : Addr) : Sp := fun vs H Q _ => ∃ a t, vs = [.ref a] ∧ Th C H a t ∧ t.size ≤ 4000 ∧ ∀ H', Same H H' → Q (.str t.text) H'
theorem mk_pr {C a b : Addr} {H : Hp} {t u : Tr} {Q : VK} {E : XK} (ha : Th C H a t) (hb : Th C H b u) (hz : 1 + t.size + u.size ≤ 4000) (k : ∀ x H', Same H H' → H x = none → Th C H' x (.pr t u) → Q (.ref x) H') :
    ∀ x dx, H x = none → H dx = none → dx ≠ x → spInit C (.ref x :: ([.ref a, .ref b] ++ [])) (upd (upd H dx (.own x)) x (.ins C dx [])) (fun v H3 => v = .non ∧ Q (.ref x) H3) E := by
  intro x dx nx ndx ne
  have s0 : Same H (upd (upd H dx (.own x)) x (.ins C dx [])) := fun b o e => by
    rw [upd_ne (ne_of_none e nx), upd_ne (ne_of_none e ndx)]
    exact e
  refine ⟨x, dx, _, _, 1 + t.size + u.size, rfl, upd_same, .inr ⟨a, b, t, u, rfl, rfl, ha.same s0, hb.same s0, rfl⟩, hz, rfl, ?_⟩
  rw [upd_upd]
  have s1 : Same H (upd (upd H dx (.own x)) x (.ins C dx (tf (.ref a) (.ref b) ((1 + t.size + u.size : Nat) : Int)))) := fun b o e => by
    rw [upd_ne (ne_of_none e nx), upd_ne (ne_of_none e ndx)]
    exact e
  exact k x _ s1 nx (.pr upd_same (ha.same s1) (hb.same s1))
theorem mk_nil {C : Addr} {H : Hp} {Q : VK} {E : XK} (k : ∀ x H', Same H H' → H x = none → Th C H' x .nil → Q (.ref x) H') :
    ∀ x dx, H x = none → H dx = none → dx ≠ x → spInit C (.ref x :: ([] ++ [.non, .non])) (upd (upd H dx (.own x)) x (.ins C dx [])) (fun v H3 => v = .non ∧ Q (.ref x) H3) E := by
  intro x dx nx ndx ne
  refine ⟨x, dx, _, _, 0, rfl, upd_same, .inl ⟨rfl, rfl, rfl⟩, by decide, rfl, ?_⟩
  rw [upd_upd]
  have s1 : Same H (upd (upd H dx (.own x)) x (.ins C dx (tf .non .non ((0 : Nat) : Int)))) := fun b o e => by
    rw [upd_ne (ne_of_none e nx), upd_ne (ne_of_none e ndx)]
    exact e
  exact k x _ s1 nx (.nil upd_same)
section
variable {P : Program} {w : World} {K : PySem.W.Frag} {mg : Str → Option Value} {base : Heap} {C : Addr}
theorem scP : FnScope ["first", "second"] ["first", "second"] (defScope sPairs) := ⟨rfl, rfl, rfl, by decide +kernel, rfl, by decide +kernel, by decide +kernel⟩
theorem ok_pairs {f : Addr} {fd : FuncData} (F : Fun K "pairs_in" "pairs_in" sPairs f fd) (T : Txt K mg C) : FnOk P w K mg base CX0 1 f fd ["first", "second"] (spPairs C) := by
  refine F.ok scP (fun vs H Q E h => ?_) (fun cdv A outer s H vs Q E hr h => ?_)
  · obtain ⟨x, y, n, rfl, _⟩ := h
    rfl
  · obtain ⟨x, y, n, rfl, hp, k⟩ := h
    refine ⟨_, pss_cons (ps_if (PW.pt (pw_and (pt_cmp (pc_isN (pv 0))) (pw_and1 (pt_cmp (pc_isN (pv 1)))))) (pss_one (ps_ret pe_int)) pss_nil)
      (pss_one (ps_ret (pe_op op_add (pe_op op_add pe_int (pe_fld (pv 0) rfl)) (pe_fld (pv 1) rfl)))), ?_⟩
    rcases hp with ⟨rfl, rfl, rfl⟩ | ⟨a, b, t, u, rfl, rfl, ha, hb, rfl⟩
    · refine ⟨_, rfl, _, rfl, ?_⟩
      refine iteT ⟨_, rfl, _, rfl, ?_⟩
      exact iteT k
    · refine ⟨_, rfl, _, rfl, ?_⟩
      refine iteF ?_
      refine iteF ?_
      obtain ⟨dx, f1, s1, h1⟩ := ha.obj
      obtain ⟨dy, f2, s2, h2⟩ := hb.obj
      refine ⟨_, rfl, _, _, _, _, _, rfl, h1, T.cl, T.nZ, tf_size _ _ _, _, _, rfl, rfl, _, rfl, _, _, _, _, _, rfl, h2, T.cl, T.nZ, tf_size _ _ _, _, _, rfl, rfl, ?_⟩
      have e : ((1 : Int) + (t.size : Nat) + (u.size : Nat)) = ((1 + t.size + u.size : Nat) : Int) := by omega
      show Q (V.int ((1 : Int) + (t.size : Nat) + (u.size : Nat))) H
      rw [e]
      exact k
theorem scI : FnScope ["self", "first", "second", "size"] ["self", "first", "second"] (defScope sInit) := ⟨rfl, rfl, rfl, by decide +kernel, rfl, by decide +kernel, by decide +kernel⟩
theorem ok_init {f fP : Addr} {fd fdP : FuncData} (F : FunD K "__init__" "Thing.__init__" (defArgs sInit) (defBody sInit) (defScope sInit) [.non, .non] [] f fd) (T : Txt K mg C) (AP : At K mg "pairs_in" sPairs ["first", "second"] fP fdP) : FnOk P w K mg base CX0 2 f fd ["self", "first", "second"] (spInit C) := by
  have GP : FnOk P w K mg base CX0 1 fP fdP ["first", "second"] (spPairs C) := ok_pairs AP.F T
  obtain ⟨tm, mgM⟩ := T.mgM
  refine F.ok scI (fun vs H Q E h => ?_) (fun cdv A outer s H vs Q E hr h => ?_)
  · obtain ⟨p, dx, x, y, n, rfl, _⟩ := h
    rfl
  · obtain ⟨p, dx, x, y, n, rfl, hp, hxy, hn, k⟩ := h
    refine ⟨_, PSs.nox (pss_cons (ps_set (i := 3) scI.nd rfl (Or.inl rfl) (pe_call GP hr rfl AP.mgf AP.F.kp AP.b .nil pass0 (pa_cons (pv 1) (pa_cons (pv 2) pa_nil))))
      (pss_cons (ps_if (pt_cmpR op_gt (pv 3) (pe_glob (v := .int 4000) rfl mgM ⟨_, rfl⟩) (nomark _)) (pss_one ps_never) pss_nil)
      (pss_cons (ps_fld (pv 0) (pv 1) rfl) (pss_cons (ps_fld (pv 0) (pv 2) rfl) (pss_one (ps_fld (pv 0) (pv 3) rfl)))))), ?_⟩
    refine ⟨_, rfl, _, rfl, x, y, n, rfl, hxy, ?_⟩
    refine ⟨_, rfl, _, _, rfl, rfl, _, rfl, ?_⟩
    have ed : decide ((4000 : Int) < (n : Nat)) = false := decide_eq_false (by omega)
    rw [ed]
    refine iteF ?_
    refine ⟨_, rfl, _, rfl, p, C, dx, [], rfl, hp, T.cl, T.nF, (by show 0 < 1000; decide), ?_⟩
    refine ⟨_, rfl, _, rfl, p, C, dx, _, rfl, upd_same, T.cl, T.nS, Nat.lt_of_le_of_lt (length_putF _ _ _) (by show 0 + 1 < 1000; decide), ?_⟩
    refine ⟨_, rfl, _, rfl, p, C, dx, _, rfl, upd_same, T.cl, T.nZ, ?_, ?_⟩
    · have h1 := length_putF "first" x []
      have h2 := length_putF "second" y (putF "first" x [])
      simp only [List.length_nil] at h1
      omega
    · show Q .non (upd (upd (upd H p _) p _) p (.ins C dx (tf x y (n : Nat))))
      rw [upd_upd, upd_upd]
      exact k
theorem scLn : FnScope ["self"] ["self"] (defScope sLen) := ⟨rfl, rfl, rfl, by decide +kernel, rfl, by decide +kernel, by decide +kernel⟩
theorem ok_len {f : Addr} {fd : FuncData} (F : Fun K "__len__" "Thing.__len__" sLen f fd) (T : Txt K mg C) : FnOk P w K mg base CX0 1 f fd ["self"] (spLen C) := by
  refine F.ok scLn (fun vs H Q E h => ?_) (fun cdv A outer s H vs Q E hr h => ?_)
  · obtain ⟨a, t, rfl, _⟩ := h
    rfl
  · obtain ⟨a, t, rfl, ha, hz, k⟩ := h
    refine ⟨_, pss_one (ps_ret (pe_lenRg rfl T.len (prg_1 rfl T.range (pe_fld (pv 0) rfl)))), ?_⟩
    obtain ⟨dx, f1, s1, h⟩ := ha.obj
    refine ⟨_, rfl, _, _, _, _, _, rfl, h, T.cl, T.nZ, tf_size _ _ _, _, rfl, ?_, ?_⟩
    · omega
    · have e : (((((t.size : Nat) : Int) - 0).toNat : Nat) : Int) = (t.size : Nat) := by omega
      show Q (.int (((((t.size : Nat) : Int) - 0).toNat : Nat) : Int)) H
      rw [e]
      exact k
end
end Js

set_option Elab.async false
set_option linter.all false
set_option maxRecDepth 100000
set_option maxHeartbeats 2000000
namespace Js
open PySem L2
def spAlike (C : Addr) : Sp := spEqT C
section
variable {P : Program} {w : World} {K : PySem.W.Frag} {mg : Str → Option Value} {base : Heap} {C : Addr}
theorem scA : FnScope ["one", "other", "waiting", "left", "right"] ["one", "other"] (defScope sAlike) := ⟨rfl, rfl, rfl, by decide +kernel, rfl, by decide +kernel, by decide +kernel⟩
theorem ok_alike {f : Addr} {fd : FuncData} (F : Fun K "alike" "alike" sAlike f fd) (T : Txt K mg C) : FnOk P w K mg base CX0 1 f fd ["one", "other"] (spAlike C) := by
  refine F.ok scA (fun vs H Q E h => ?_) (fun cdv A outer s H vs Q E hr h => ?_)
  · obtain ⟨a, b, t, u, rfl, _⟩ := h
    rfl
  · obtain ⟨a, b, t, u, rfl, ha, hb, hz, k⟩ := h
    refine ⟨_, pss_cons (ps_set (i := 2) scA.nd rfl (Or.inl rfl) (pe_lst (pa_cons (pe_tup (pa_cons (pv 0) (pa_cons (pv 1) pa_nil))) pa_nil)))
      (pss_cons (ps_while PassesOwn.never (pt_truth (pv 2) (by intro _; rfl))
        (pss_cons (ps_asg (pe_bm0 PySem.F.plainAttrs_list PySem.F.slot_list_pop PySem.F.type_list_pop mt_pop (pv 2)) (pg_tup rfl (pgs_cons (pg_name (i := 3) scA.nd rfl (Or.inl rfl)) (pgs_cons (pg_name (i := 4) scA.nd rfl (Or.inl rfl)) pgs_nil))))
        (pss_cons (ps_if (pt_cmpR op_ne (pe_fld (pv 3) rfl) (pe_fld (pv 4) rfl) (nomark _)) (pss_one (ps_ret pe_bl)) pss_nil)
        (pss_one (ps_if (pt_cmpR op_gt (pe_fld (pv 3) rfl) pe_int (nomark _))
          (pss_cons (ps_expr (pe_bm PySem.F.plainAttrs_list PySem.F.slot_list_append PySem.F.type_list_append mt_append (pv 2) (pa_cons (pe_tup (pa_cons (pe_fld (pv 3) rfl) (pa_cons (pe_fld (pv 4) rfl) pa_nil))) pa_nil)))
          (pss_one (ps_expr (pe_bm PySem.F.plainAttrs_list PySem.F.slot_list_append PySem.F.type_list_append mt_append (pv 2) (pa_cons (pe_tup (pa_cons (pe_fld (pv 3) rfl) (pa_cons (pe_fld (pv 4) rfl) pa_nil))) pa_nil))))) pss_nil)))))
      (pss_one (ps_ret pe_bl))), ?_⟩
    refine ⟨_, rfl, _, rfl, (by show 2 ≤ sizeLine; decide), fun q0 nq0 => ?_⟩
    refine ⟨(by show 1 ≤ sizeLine; decide), fun wl nwl => ?_⟩
    have hwl : H wl = none := by
      have := nwl
      unfold upd at this
      split at this
      · cases this
      · exact this
    have nqw : q0 ≠ wl := ne_of_none (o := .tup [.ref a, .ref b]) upd_same nwl
    -- the loop
    refine ⟨fun m σ H' => ∃ (rs : List V) (ps : List (Tr × Tr)) (x3 x4 : Option V), σ = [some (.ref a), some (.ref b), some (.ref wl), x3, x4] ∧ Same H H' ∧ H' wl = some (.lst rs.reverse) ∧ Paired (PrAt C H') rs ps ∧
      ((∀ p ∈ ps, p.1 = p.2) ↔ t = u) ∧ m = pm ps ∧ m ≤ 2 * t.size + 1, ?_, ?_⟩
    · have s1 : Same H (upd (upd H q0 (.tup [.ref a, .ref b])) wl (.lst [.ref q0])) := (Same.new nq0).set hwl
      refine ⟨_, [.ref q0], [(t, u)], none, none, rfl, s1, upd_same, .cons ⟨q0, a, b, rfl, ?_, ha.same s1, hb.same s1⟩ .nil, ?_, rfl, ?_⟩
      · exact (upd_ne nqw).trans upd_same
      · simp
      · simp [pm]
    · rintro m σ H' ⟨rs, ps, x3, x4, rfl, s1, hw, hps, hiff, rfl, hm⟩
      refine ⟨_, rfl, !rs.reverse.isEmpty, .inl ⟨_, SqL.of hw, rfl⟩, ?_⟩
      cases hps with
      | nil =>
        refine iteF ?_
        have : t = u := hiff.mp (fun p hp => by cases hp)
        have z := k H' s1
        rw [decide_eq_true this] at z
        exact z
      | @cons v p rs ps hv hps =>
        have e1 : (!(v :: rs).reverse.isEmpty) = true := by simp
        rw [e1]
        refine iteT ⟨fun σ' H2 => ∃ m', m' < pm (p :: ps) ∧ _, fun σ' H2 z => z, ?_⟩
        obtain ⟨q, x, y, rfl, hq, hx, hy⟩ := hv
        have hlen : rs.length ≤ pm ps := by rw [Paired.length hps]; exact pm_len ps
        rw [pm_cons] at hm
        refine ⟨_, rfl, .inl ⟨rfl, _, SqL.of hw⟩, wl, _, _, rfl, rfl, hw, last_rev _ _, ?_⟩
        rw [drop_rev]
        have nqwl : q ≠ wl := ne_of hq hw (by intro z; cases z)
        have k1 : KT H' (upd H' wl (.lst rs.reverse)) := KT.lst hw
        have s2 : Same H (upd H' wl (.lst rs.reverse)) := s1.set hwl
        have hx2 := hx.kt k1
        have hy2 := hy.kt k1
        have hps2 := prs_kt k1 hps
        obtain ⟨dx, f1, g1, h1⟩ := hx2.obj
        obtain ⟨dy, f2, g2, h2⟩ := hy2.obj
        refine ⟨q, _, rfl, SqT.of ((upd_ne nqwl).trans hq), rfl, _, _, rfl, _, _, rfl, rfl, ?_⟩
        refine ⟨_, rfl, _, _, _, _, _, rfl, h1, T.cl, T.nZ, tf_size _ _ _, _, rfl, _, _, _, _, _, rfl, h2, T.cl, T.nZ, tf_size _ _ _, rfl, _, rfl, ?_⟩
        by_cases hsz : p.1.size = p.2.size
        · have ed : (!decide (V.int (p.1.size : Nat) = V.int (p.2.size : Nat))) = false := by rw [hsz]; simp
          rw [ed]
          refine iteF ?_
          refine ⟨_, rfl, _, _, _, _, _, rfl, h1, T.cl, T.nZ, tf_size _ _ _, _, _, rfl, rfl, _, rfl, ?_⟩
          by_cases h1z : 1 < p.1.size
          · have ed2 : decide ((1 : Int) < (p.1.size : Nat)) = true := decide_eq_true (by omega)
            rw [ed2]
            refine iteT ?_
            obtain ⟨t1, u1⟩ := p
            cases t1 with
            | nil => simp [Tr.size] at h1z
            | pr l1 r1 =>
            cases u1 with
            | nil => simp [Tr.size] at hsz
            | pr l2 r2 =>
            obtain ⟨dx', b1, c1, hX, hb1, hc1⟩ := hx2.pair
            obtain ⟨dy', b2, c2, hY, hb2, hc2⟩ := hy2.pair
            -- waiting.append((left.second, right.second))
            refine ⟨_, rfl, .inl ⟨rfl, _, SqL.of upd_same⟩, _, rfl, _, _, _, _, _, rfl, hX, T.cl, T.nS, tf_second _ _ _, _, rfl, _, _, _, _, _, rfl, hY, T.cl, T.nS, tf_second _ _ _, (by show 2 ≤ sizeLine; decide), fun q1 nq1 => ?_⟩
            have nq1w : wl ≠ q1 := ne_of_none (o := .lst rs.reverse) upd_same nq1
            have hsl := line4
            simp only [Tr.size] at hm
            refine ⟨wl, _, _, rfl, rfl, (upd_ne nq1w).trans upd_same, (by rw [List.length_reverse]; omega), ?_⟩
            have k2 : KT (upd H' wl (.lst rs.reverse)) (upd (upd (upd H' wl (.lst rs.reverse)) q1 (.tup [.ref c1, .ref c2])) wl (.lst (rs.reverse ++ [.ref q1]))) := (KT.new nq1).trans (KT.lst ((upd_ne nq1w).trans upd_same))
            have s3 : Same H (upd (upd (upd H' wl (.lst rs.reverse)) q1 (.tup [.ref c1, .ref c2])) wl (.lst (rs.reverse ++ [.ref q1]))) := (s2.trans (Same.new nq1)).set hwl
            have hq1 : (upd (upd (upd H' wl (.lst rs.reverse)) q1 (.tup [.ref c1, .ref c2])) wl (.lst (rs.reverse ++ [.ref q1]))) q1 = some (.tup [.ref c1, .ref c2]) := (upd_ne (Ne.symm nq1w)).trans upd_same
            have hw3 : (upd (upd (upd H' wl (.lst rs.reverse)) q1 (.tup [.ref c1, .ref c2])) wl (.lst (rs.reverse ++ [.ref q1]))) wl = some (.lst (rs.reverse ++ [.ref q1])) := upd_same
            have hX3 := k2 _ _ hX (fun _ e => nomatch e)
            have hY3 := k2 _ _ hY (fun _ e => nomatch e)
            have hps3 := prs_kt k2 hps2
            have hb1' := hb1.kt k2
            have hc1' := hc1.kt k2
            have hb2' := hb2.kt k2
            have hc2' := hc2.kt k2
            revert s3 hq1 hw3 hX3 hY3 hps3 hb1' hc1' hb2' hc2'
            generalize (upd (upd (upd H' wl (.lst rs.reverse)) q1 (.tup [.ref c1, .ref c2])) wl (.lst (rs.reverse ++ [.ref q1]))) = H3
            intro s3 hq1 hw3 hX3 hY3 hps3 hb1' hc1' hb2' hc2'
            -- waiting.append((left.first, right.first))
            refine ⟨_, rfl, .inl ⟨rfl, _, SqL.of hw3⟩, _, rfl, _, _, _, _, _, rfl, hX3, T.cl, T.nF, tf_first _ _ _, _, rfl, _, _, _, _, _, rfl, hY3, T.cl, T.nF, tf_first _ _ _, (by show 2 ≤ sizeLine; decide), fun q2 nq2 => ?_⟩
            have nq2w : wl ≠ q2 := ne_of_none hw3 nq2
            refine ⟨wl, _, _, rfl, rfl, (upd_ne nq2w).trans hw3, (by rw [List.length_append, List.length_reverse, List.length_singleton]; omega), ?_⟩
            have k4 : KT H3 (upd (upd H3 q2 (.tup [.ref b1, .ref b2])) wl (.lst (rs.reverse ++ [.ref q1] ++ [.ref q2]))) := (KT.new nq2).trans (KT.lst ((upd_ne nq2w).trans hw3))
            refine ⟨pm ((l1, l2) :: (r1, r2) :: ps), ?_, .ref q2 :: .ref q1 :: rs, (l1, l2) :: (r1, r2) :: ps, _, _, rfl, (s3.trans (Same.new nq2)).set hwl, ?_, .cons ⟨q2, b1, b2, rfl, (upd_ne (Ne.symm nq2w)).trans upd_same, hb1'.kt k4, hb2'.kt k4⟩ (.cons ⟨q1, c1, c2, rfl, k4 _ _ hq1 (fun _ e => nomatch e), hc1'.kt k4, hc2'.kt k4⟩ (prs_kt k4 hps3)), ?_, rfl, ?_⟩
            · rw [pm_cons, pm_cons, pm_cons]
              simp only [Tr.size]
              omega
            · rw [upd_same, push_rev, push_rev]
            · rw [← hiff]
              simp only [List.mem_cons, forall_eq_or_imp, Tr.pr.injEq]
              constructor
              · rintro ⟨h1, h2, h3⟩
                exact ⟨⟨h1, h2⟩, h3⟩
              · rintro ⟨⟨h1, h2⟩, h3⟩
                exact ⟨h1, h2, h3⟩
            · rw [pm_cons, pm_cons]
              show 2 * l1.size + 1 + (2 * r1.size + 1 + pm ps) ≤ _
              omega
          · have ed2 : decide ((1 : Int) < (p.1.size : Nat)) = false := decide_eq_false (by omega)
            rw [ed2]
            refine iteF ?_
            have ep : p.1 = p.2 := Tr.small_eq hsz (by omega)
            refine ⟨pm ps, by rw [pm_cons]; omega, rs, ps, _, _, rfl, s2, upd_same, hps2, ?_, rfl, by omega⟩
            rw [← hiff]
            simp [ep]
        · have ed : (!decide (V.int (p.1.size : Nat) = V.int (p.2.size : Nat))) = true := by
            simp
            omega
          rw [ed]
          refine iteT ?_
          have : ¬ t = u := fun z => hsz (by rw [hiff.mpr z p (by simp)])
          have z := k _ s2
          rw [decide_eq_false this] at z
          exact z
theorem scE : FnScope ["self", "other"] ["self", "other"] (defScope sEq) := ⟨rfl, rfl, rfl, by decide +kernel, rfl, by decide +kernel, by decide +kernel⟩
theorem kit_self (K : PySem.W.Frag) (C : Addr) : PySem.W.kitOne K (.ref C) (.ref C) = some true := by
  unfold PySem.W.kitOne
  rw [if_pos (by simp)]
theorem ok_eq {f fA : Addr} {fd fdA : FuncData} (F : Fun K "__eq__" "Thing.__eq__" sEq f fd) (T : Txt K mg C) (AA : At K mg "alike" sAlike ["one", "other"] fA fdA) : FnOk P w K mg base CX0 2 f fd ["self", "other"] (spEqT C) := by
  have GA : FnOk P w K mg base CX0 1 fA fdA ["one", "other"] (spAlike C) := ok_alike AA.F T
  refine F.ok scE (fun vs H Q E h => ?_) (fun cdv A outer s H vs Q E hr h => ?_)
  · obtain ⟨a, b, t, u, rfl, _⟩ := h
    rfl
  · obtain ⟨a, b, t, u, rfl, ha, hb, hz, k⟩ := h
    refine ⟨_, pss_one (ps_ret (pe_and (pe_callB call_isi (by rfl) T.isi PyProof.Rows.boot_isinstance (pa_cons (pv 1) (pa_cons (pe_glob (v := .ref C) rfl T.mgC rfl) pa_nil)))
      (pe_one (pe_call GA hr rfl AA.mgf AA.F.kp AA.b .nil pass0 (pa_cons (pv 0) (pa_cons (pv 1) pa_nil)))))), ?_⟩
    obtain ⟨dy, f2, g2, h2⟩ := hb.obj
    refine ⟨_, rfl, _, _, _, _, true, rfl, ClsV.own C, .base (.ins h2 T.cl T.ca T.cn T.ct T.cm), kit_self _ _, true, rfl, ?_⟩
    refine iteT ?_
    exact ⟨_, rfl, _, rfl, a, b, t, u, rfl, ha, hb, hz, k⟩
theorem e41 : ((")" : Str)) = ⟨#[41]⟩ := by decide +kernel
theorem e40 : (("(" : Str)) = ⟨#[40]⟩ := by decide +kernel
theorem e46 : (("." : Str)) = ⟨#[46]⟩ := by decide +kernel
theorem scS : FnScope ["thing", "found", "waiting", "part"] ["thing"] (defScope sSigns) := ⟨rfl, rfl, rfl, by decide +kernel, rfl, by decide +kernel, by decide +kernel⟩
theorem ok_signs {f : Addr} {fd : FuncData} (F : Fun K "signs" "signs" sSigns f fd) (T : Txt K mg C) : FnOk P w K mg base CX0 1 f fd ["thing"] (spSigns C) := by
  refine F.ok scS (fun vs H Q E h => ?_) (fun cdv A outer s H vs Q E hr h => ?_)
  · obtain ⟨a, t, rfl, _⟩ := h
    rfl
  · obtain ⟨a, t, rfl, ha, hz, k⟩ := h
    refine ⟨_, pss_cons (ps_set (i := 1) scS.nd rfl (Or.inl rfl) (pe_lst pa_nil)) (pss_cons (ps_set (i := 2) scS.nd rfl (Or.inl rfl) (pe_lst (pa_cons (pv 0) pa_nil)))
      (pss_cons (ps_while PassesOwn.never (pt_truth (pv 2) (by intro _; rfl))
        (pss_cons (ps_set (i := 3) scS.nd rfl (Or.inl rfl) (pe_bm0 PySem.F.plainAttrs_list PySem.F.slot_list_pop PySem.F.type_list_pop mt_pop (pv 2)))
        (pss_one (ps_if (pt_cmp (pc_isN (pv 3)))
          (pss_one (ps_expr (pe_bm PySem.F.plainAttrs_list PySem.F.slot_list_append PySem.F.type_list_append mt_append (pv 1) (pa_cons pe_str pa_nil))))
          (pss_one (ps_if (pt_cmpR op_eq (pe_fld (pv 3) rfl) pe_int (nomark _))
            (pss_one (ps_expr (pe_bm PySem.F.plainAttrs_list PySem.F.slot_list_append PySem.F.type_list_append mt_append (pv 1) (pa_cons pe_str pa_nil))))
            (pss_cons (ps_expr (pe_bm PySem.F.plainAttrs_list PySem.F.slot_list_append PySem.F.type_list_append mt_append (pv 1) (pa_cons pe_str pa_nil)))
              (pss_one (ps_expr (pe_bm PySem.F.plainAttrs_list PySem.F.slot_list_extend PySem.F.type_list_extend mt_extend (pv 2) (pa_cons (pe_lst (pa_cons pe_non (pa_cons (pe_fld (pv 3) rfl) (pa_cons (pe_fld (pv 3) rfl) pa_nil)))) pa_nil)))))))))))
      (pss_one (ps_ret (pv 1))))), ?_⟩
    refine ⟨Nat.zero_le _, fun fl nfl => ?_⟩
    refine ⟨_, rfl, (by show 1 ≤ sizeLine; decide), fun wl nwl => ?_⟩
    have nfw : fl ≠ wl := ne_of_none (o := .lst []) upd_same nwl
    have hwl : H wl = none := by
      have := nwl
      rw [upd_ne (Ne.symm nfw)] at this
      exact this
    have hsl := line4
    refine ⟨fun m σ H' => ∃ (rs : List V) (ps : List (Option Tr)) (dn : List Nat) (x3 : Option V), σ = [some (.ref a), some (.ref fl), some (.ref wl), x3] ∧ Same H H' ∧ H' fl = some (.lst (dn.map sgn)) ∧ H' wl = some (.lst rs.reverse) ∧ Paired (WtAt C H') rs ps ∧
      dn ++ wouts ps = t.codes ∧ m = wm ps ∧ m ≤ 3 * t.size + 1, ?_, ?_⟩
    · have s1 : Same H (upd (upd H fl (.lst [])) wl (.lst [.ref a])) := (Same.new nfl).set hwl
      refine ⟨_, [.ref a], [some t], [], none, rfl, s1, (upd_ne nfw).trans upd_same, upd_same, .cons (.inr ⟨a, t, rfl, rfl, ha.same s1⟩) .nil, ?_, rfl, ?_⟩
      · simp [wouts, wout]
      · simp [wm, wm1]
    · rintro m σ H' ⟨rs, ps, dn, x3, rfl, s1, hf, hw, hps, hc, rfl, hm⟩
      have hcl := congrArg List.length hc
      rw [List.length_append, Tr.codes_len] at hcl
      refine ⟨_, rfl, !rs.reverse.isEmpty, .inl ⟨_, SqL.of hw, rfl⟩, ?_⟩
      cases hps with
      | nil =>
        refine iteF ?_
        have e : dn = t.codes := by simpa [wouts] using hc
        subst e
        exact ⟨_, rfl, k fl H' s1 nfl hf⟩
      | @cons v p rs ps hv hps =>
        have e1 : (!(v :: rs).reverse.isEmpty) = true := by simp
        rw [e1]
        refine iteT ⟨fun σ' H2 => ∃ m', m' < wm (p :: ps) ∧ _, fun σ' H2 z => z, ?_⟩
        have hlen : rs.length ≤ wm ps := by rw [Paired.length hps]; exact wm_len ps
        rw [wm_cons] at hm
        rw [wouts_cons] at hc
        refine ⟨_, rfl, .inl ⟨rfl, _, SqL.of hw⟩, wl, _, _, rfl, rfl, hw, last_rev _ _, ?_⟩
        rw [drop_rev]
        have k1 : KT H' (upd H' wl (.lst rs.reverse)) := KT.lst hw
        have s2 : Same H (upd H' wl (.lst rs.reverse)) := s1.set hwl
        have hf2 : (upd H' wl (.lst rs.reverse)) fl = some (.lst (dn.map sgn)) := (upd_ne nfw).trans hf
        have hw2 : (upd H' wl (.lst rs.reverse)) wl = some (.lst rs.reverse) := upd_same
        have hv2 := hv.kt k1
        have hps2 := wts_kt k1 hps
        revert s2 hf2 hw2 hv2 hps2
        generalize (upd H' wl (.lst rs.reverse)) = H2
        intro s2 hf2 hw2 hv2 hps2
        have hd : (dn.map sgn).length < sizeLine := by rw [List.length_map]; omega
        rcases hv2 with ⟨rfl, rfl⟩ | ⟨x, t1, rfl, rfl, hx⟩
        · refine ⟨_, rfl, _, rfl, ?_⟩
          refine iteT ?_
          refine ⟨_, rfl, .inl ⟨rfl, _, SqL.of hf2⟩, fl, _, _, rfl, rfl, hf2, hd, ?_⟩
          refine ⟨wm ps, by rw [wm_cons]; simp only [wm1]; omega, rs, ps, dn ++ [41], _, rfl, s2.set nfl, ?_, (upd_ne (Ne.symm nfw)).trans hw2, wts_kt (KT.lst hf2) hps2, ?_, rfl, by omega⟩
          · rw [upd_same, List.map_append, e41]
            rfl
          · rw [← hc]
            simp [wout]
        · refine ⟨_, rfl, _, rfl, ?_⟩
          refine iteF ?_
          obtain ⟨dx, f1, g1, h1⟩ := hx.obj
          refine ⟨_, rfl, _, _, _, _, _, rfl, h1, T.cl, T.nZ, tf_size _ _ _, rfl, _, rfl, ?_⟩
          have hx' := hx
          cases hx with
          | nil h =>
            refine iteT ?_
            refine ⟨_, rfl, .inl ⟨rfl, _, SqL.of hf2⟩, fl, _, _, rfl, rfl, hf2, hd, ?_⟩
            refine ⟨wm ps, by rw [wm_cons]; simp only [wm1]; omega, rs, ps, dn ++ [46], _, rfl, s2.set nfl, ?_, (upd_ne (Ne.symm nfw)).trans hw2, wts_kt (KT.lst hf2) hps2, ?_, rfl, by omega⟩
            · rw [upd_same, List.map_append, e46]
              rfl
            · rw [← hc]
              simp [wout, Tr.codes]
          | @pr _ dx' b c l r h hl hr' =>
            have ed : decide (V.int ((Tr.pr l r).size : Nat) = V.int 0) = false := by
              simp only [Tr.size, decide_eq_false_iff_not, V.int.injEq]
              omega
            rw [ed]
            refine iteF ?_
            refine ⟨_, rfl, .inl ⟨rfl, _, SqL.of hf2⟩, fl, _, _, rfl, rfl, hf2, hd, ?_⟩
            have k3 : KT H2 (upd H2 fl (.lst (dn.map sgn ++ [.str "("]))) := KT.lst hf2
            have s3 : Same H (upd H2 fl (.lst (dn.map sgn ++ [.str "("]))) := s2.set nfl
            have hf3 : (upd H2 fl (.lst (dn.map sgn ++ [.str "("]))) fl = some (.lst ((dn ++ [40]).map sgn)) := by
              rw [upd_same, List.map_append, e40]
              rfl
            have hw3 : (upd H2 fl (.lst (dn.map sgn ++ [.str "("]))) wl = some (.lst rs.reverse) := (upd_ne (Ne.symm nfw)).trans hw2
            have h3 := k3 _ _ h (fun _ e => nomatch e)
            have hl3 := hl.kt k3
            have hr3 := hr'.kt k3
            have hps3 := wts_kt k3 hps2
            revert s3 hf3 hw3 h3 hl3 hr3 hps3
            generalize (upd H2 fl (.lst (dn.map sgn ++ [.str "("]))) = H3
            intro s3 hf3 hw3 h3 hl3 hr3 hps3
            refine ⟨_, rfl, .inl ⟨rfl, _, SqL.of hw3⟩, _, rfl, _, _, _, _, _, rfl, h3, T.cl, T.nS, tf_second _ _ _, _, rfl, _, _, _, _, _, rfl, h3, T.cl, T.nF, tf_first _ _ _, (by show 3 ≤ sizeLine; decide), fun q nq => ?_⟩
            have nqw : wl ≠ q := ne_of_none hw3 nq
            have nqf : fl ≠ q := ne_of_none hf3 nq
            simp only [wm1, Tr.size] at hm
            refine ⟨wl, q, _, _, rfl, rfl, (upd_ne nqw).trans hw3, upd_same, (by rw [List.length_reverse]; show rs.length + 3 ≤ sizeLine; omega), ?_⟩
            have k4 : KT H3 (upd (upd H3 q (.lst [.non, .ref c, .ref b])) wl (.lst (rs.reverse ++ [.non, .ref c, .ref b]))) := (KT.new nq).trans (KT.lst ((upd_ne nqw).trans hw3))
            refine ⟨wm (some l :: some r :: none :: ps), ?_, .ref b :: .ref c :: .non :: rs, some l :: some r :: none :: ps, dn ++ [40], _, rfl, (s3.trans (Same.new nq)).set hwl, (upd_ne nfw).trans ((upd_ne nqf).trans hf3), ?_,
              .cons (.inr ⟨b, l, rfl, rfl, hl3.kt k4⟩) (.cons (.inr ⟨c, r, rfl, rfl, hr3.kt k4⟩) (.cons (.inl ⟨rfl, rfl⟩) (wts_kt k4 hps3))), ?_, rfl, ?_⟩
            · rw [wm_cons, wm_cons, wm_cons, wm_cons]
              simp only [wm1, Tr.size]
              omega
            · rw [upd_same]
              simp
            · rw [← hc, wouts_cons, wouts_cons, wouts_cons]
              simp [wout, Tr.codes]
            · rw [wm_cons, wm_cons, wm_cons]
              simp only [wm1]
              omega
theorem joinL_signs : ∀ cs : List Nat, TL.joinL [] ((cs.map fun c => (⟨#[c]⟩ : Str)).map TL.tl) = cs
  | [] => rfl
  | [c] => rfl
  | c :: d :: r => by
    have ih := joinL_signs (d :: r)
    show [c] ++ ([] ++ TL.joinL [] (((d :: r).map fun c => (⟨#[c]⟩ : Str)).map TL.tl)) = c :: d :: r
    rw [ih]
    rfl
theorem join_signs (cs : List Nat) : (PySem.Txt.join ("" : Str) (cs.map fun c => (⟨#[c]⟩ : Str))) = ⟨cs.toArray⟩ := by
  rw [TL.join_eq]
  apply PyProof.Rows.ext_toList
  exact (TL.tl_join _ _).trans (joinL_signs cs)
theorem sum_signs : ∀ cs : List Nat, ((cs.map fun c => (⟨#[c]⟩ : Str)).map (·.length)).sum = cs.length
  | [] => rfl
  | c :: r => by
    have ih := sum_signs r
    rw [List.map_cons, List.map_cons, List.sum_cons, ih, List.length_cons]
    show 1 + _ = _
    omega
theorem scSt : FnScope ["self"] ["self"] (defScope sStr) := ⟨rfl, rfl, rfl, by decide +kernel, rfl, by decide +kernel, by decide +kernel⟩
theorem ok_str {f fS : Addr} {fd fdS : FuncData} (F : Fun K "__str__" "Thing.__str__" sStr f fd) (T : Txt K mg C) (AS : At K mg "signs" sSigns ["thing"] fS fdS) : FnOk P w K mg base CX0 2 f fd ["self"] (spStr C) := by
  have GS : FnOk P w K mg base CX0 1 fS fdS ["thing"] (spSigns C) := ok_signs AS.F T
  refine F.ok scSt (fun vs H Q E h => ?_) (fun cdv A outer s H vs Q E hr h => ?_)
  · obtain ⟨a, t, rfl, _⟩ := h
    rfl
  · obtain ⟨a, t, rfl, ha, hz, k⟩ := h
    refine ⟨_, pss_one (ps_ret (pe_join pe_str (pe_call GS hr rfl AS.mgf AS.F.kp AS.b .nil pass0 (pa_cons (pv 0) pa_nil)))), ?_⟩
    refine ⟨⟨_, rfl⟩, _, rfl, a, t, rfl, ha, hz, fun p H' s1 np hp => ?_⟩
    refine ⟨_, p, t.codes.map (fun c => (⟨#[c]⟩ : Str)), rfl, rfl, .inl (SqL.of (by rw [hp, List.map_map]; rfl)), ?_, ?_⟩
    · rw [sum_signs, Tr.codes_len, List.length_map, Tr.codes_len]
      show 3 * t.size + 1 + (3 * t.size + 1) * 0 ≤ 16777216
      omega
    · show Q (.str (PySem.Txt.join ("" : Str) (t.codes.map fun c => (⟨#[c]⟩ : Str)))) H'
      rw [join_signs]
      exact k H' s1
end
end Js

set_option Elab.async false
set_option linter.all false
set_option maxRecDepth 100000
set_option maxHeartbeats 2000000
namespace Js
open PySem L2
/-- how a Thing is made -/
structure Maker (P : Program) (w : World) (K : PySem.W.Frag) (mg : Str → Option Value) (base : Heap) (C fI : Addr) (fdI : FuncData) : Prop where
  M : Mk K C fI
  G : FnOk P w K mg base CX0 2 fI fdI ["self", "first", "second"] (spInit C)
  mgC : mg "Thing" = some (.ref C)
  b2 : Binds K fdI ["self", "first", "second"] []
  b0 : ∃ ds, Vals [V.non, V.non] ds ∧ Binds K fdI ["self", "first", "second"] ds
/-- Thing(x, y) -/
def tT (C : Addr) (t : TA) : TE := fun σ H Q => t σ H fun vs H1 => ∃ a b t u, vs = [.ref a, .ref b] ∧ Th C H1 a t ∧ Th C H1 b u ∧ 1 + t.size + u.size ≤ 4000 ∧ ∀ z H', Same H1 H' → H1 z = none → Th C H' z (.pr t u) → Q (.ref z) H'
/-- Thing() -/
def tT0 (C : Addr) : TE := fun _ H Q => ∀ z H', Same H H' → H z = none → Th C H' z .nil → Q (.ref z) H'
section
open PyProof.Rows
variable {X : Cx} {C fI : Addr} {fdI : FuncData} {p pos : Pos} {e : Expr} {es : List Expr} {t : TA}
theorem pe_T2 (mk : Maker X.prog X.w X.K X.mg X.base C fI fdI) (hr : Room 3 X.A) (hg : Gl X "Thing") (ha : PA X (e :: es) t)
    (he : starEach (e :: es) X.env = (false, eval e X.env) :: starEach es X.env := by rfl) (hpl : (backTo pos (starEach es X.env)).any (·.1) = false := by rfl) : PE X (.Call (.Name "Thing" p) (e :: es) [] pos) (tT C t) := by
  refine ⟨fun pins s σ H Q I h => ?_⟩
  refine wpAny_Call_Name_kw (ld_glob I hg mk.mgC ?_ (by decide))
  refine PySem.W.callWith_K (h₀ := X.base) I.ok.mod.kin mk.M.kp (thn (ha.run pos pins s σ H _ I h) fun us s1 ⟨vs, H1, I1, r, q⟩ => ⟨I1.kIn, ?_⟩) he hpl
  obtain ⟨a, b, t, u, rfl, h1, h2, hz, k⟩ := q
  exact run_make mk.M mk.G hr mk.b2 .nil pass0 I1 r (mk_pr h1 h2 hz k)
theorem pe_T0 (mk : Maker X.prog X.w X.K X.mg X.base C fI fdI) (hr : Room 3 X.A) (hg : Gl X "Thing") : PE X (.Call (.Name "Thing" p) [] [] pos) (tT0 C) := by
  obtain ⟨ds, hv, hb⟩ := mk.b0
  refine ⟨fun pins s σ H Q I h => ?_⟩
  refine wpAny_Call_Name_kw (ld_glob I hg mk.mgC ?_ (by decide))
  exact PySem.W.callWith_K0 I.kIn mk.M.kp (run_make (us := []) mk.M mk.G hr hb hv pass0 I .nil (mk_nil h))
end
def ThV (C : Addr) (H : Hp) (v : V) (t : Tr) : Prop := ∃ a, v = .ref a ∧ Th C H a t
theorem ThV.kt {C : Addr} {H H' : Hp} (k : KT H H') {v : V} {t : Tr} (h : ThV C H v t) : ThV C H' v t := by
  obtain ⟨a, e, h⟩ := h
  exact ⟨a, e, h.kt k⟩
theorem ths_kt {C : Addr} {H H' : Hp} (k : KT H H') : ∀ {vs : List V} {ts : List Tr}, Paired (ThV C H) vs ts → Paired (ThV C H') vs ts
  | _, _, .nil => .nil
  | _, _, .cons h t => .cons (h.kt k) (ths_kt k t)
theorem paired_get {α β : Type} {F : α → β → Prop} : ∀ {xs : List α} {ys : List β}, Paired F xs ys → ∀ {i : Nat} {x : α}, xs[i]? = some x → ∃ y, ys[i]? = some y ∧ F x y
  | _, _, .nil, i, x, h => by simp at h
  | _, _, .cons h t, 0, x, e => by
    simp at e
    subst e
    exact ⟨_, rfl, h⟩
  | _, _, .cons h t, i + 1, x, e => by
    simp at e
    obtain ⟨y, e1, e2⟩ := paired_get t e
    exact ⟨y, by simpa using e1, e2⟩
theorem paired_snoc {α β : Type} {F : α → β → Prop} : ∀ {xs : List α} {ys : List β} {x : α} {y : β}, Paired F xs ys → F x y → Paired F (xs ++ [x]) (ys ++ [y])
  | _, _, _, _, .nil, h => .cons h .nil
  | _, _, _, _, .cons h t, h' => .cons h (paired_snoc t h')
end Js

set_option Elab.async false
set_option linter.all false
set_option maxRecDepth 100000
set_option maxHeartbeats 2000000
namespace Js
open PySem L2
abbrev sRead : Stmt := top 16
abbrev sWhole : Stmt := top 17
abbrev sDue : Stmt := top 18
/-! ### the levels of a text that is read, the top first -/
def whole : List (List Tr) → Bool
  | [[_]] => true
  | _ => false
def topLen : List (List Tr) → Nat
  | [] => 0
  | xs :: _ => xs.length
def app (x : Tr) : List (List Tr) → List (List Tr)
  | [] => []
  | xs :: lv => (xs ++ [x]) :: lv
/-- lv has been read; ws is what the text goes on with -/
inductive Rel (t : Tr) : List (List Tr) → List (Option Tr) → Prop where
  | start : Rel t [[]] [some t]
  | fin : Rel t [[t]] []
  | l0 {lv ws l r} : Rel t lv (some (.pr l r) :: ws) → Rel t ([] :: lv) (some l :: some r :: none :: ws)
  | l1 {lv ws l r} : Rel t lv (some (.pr l r) :: ws) → Rel t ([l] :: lv) (some r :: none :: ws)
  | l2 {lv ws l r} : Rel t lv (some (.pr l r) :: ws) → Rel t ([l, r] :: lv) (none :: ws)
theorem Rel.app {t x : Tr} {lv : List (List Tr)} {ws : List (Option Tr)} (h : Rel t lv (some x :: ws)) : Rel t (app x lv) ws := by
  cases h with
  | start => exact .fin
  | l0 h => exact .l1 h
  | l1 h => exact .l2 h
theorem Rel.ne {t : Tr} {lv : List (List Tr)} {ws : List (Option Tr)} (h : Rel t lv ws) : lv ≠ [] := by
  cases h <;> simp
theorem Rel.notWhole {t : Tr} {p : Option Tr} {lv : List (List Tr)} {ws : List (Option Tr)} (h : Rel t lv (p :: ws)) : whole lv = false := by
  cases h with
  | start => rfl
  | l0 h => rfl
  | l1 h =>
    have := h.ne
    cases h <;> rfl
  | l2 h => rfl
theorem Rel.top {t x : Tr} {lv : List (List Tr)} {ws : List (Option Tr)} (h : Rel t lv (some x :: ws)) : topLen lv ≠ 2 := by
  cases h <;> simp [topLen]
theorem Rel.shut {t : Tr} {lv : List (List Tr)} {ws : List (Option Tr)} (h : Rel t lv (none :: ws)) : ∃ l r lv', lv = [l, r] :: lv' ∧ Rel t lv' (some (.pr l r) :: ws) := by
  cases h with
  | l2 h => exact ⟨_, _, _, rfl, h⟩
theorem Rel.done {t : Tr} {lv : List (List Tr)} (h : Rel t lv []) : lv = [[t]] := by
  cases h with
  | fin => rfl
theorem Rel.le {t : Tr} {lv : List (List Tr)} {ws : List (Option Tr)} (h : Rel t lv ws) : ∀ x, some x ∈ ws → x.size ≤ t.size := by
  induction h with
  | start => intro x hx; simp at hx; subst hx; exact Nat.le_refl _
  | fin => intro x hx; simp at hx
  | @l0 lv ws l r _ ih =>
    intro x hx
    have h0 := ih (.pr l r) (by simp)
    simp only [Tr.size] at h0
    simp only [List.mem_cons, Option.some.injEq, reduceCtorEq, false_or] at hx
    rcases hx with rfl | rfl | hx
    · omega
    · omega
    · exact ih x (by simp [hx])
  | @l1 lv ws l r _ ih =>
    intro x hx
    have h0 := ih (.pr l r) (by simp)
    simp only [Tr.size] at h0
    simp only [List.mem_cons, Option.some.injEq, reduceCtorEq, false_or] at hx
    rcases hx with rfl | hx
    · omega
    · exact ih x (by simp [hx])
  | @l2 lv ws l r _ ih =>
    intro x hx
    simp only [List.mem_cons, reduceCtorEq, false_or] at hx
    exact ih x (by simp [hx])
def nn : List (Option Tr) → Nat
  | [] => 0
  | none :: r => nn r + 1
  | some _ :: r => nn r
theorem nn_le : ∀ ws, nn ws ≤ (wouts ws).length
  | [] => Nat.zero_le _
  | none :: r => by
    have := nn_le r
    rw [wouts_cons, List.length_append]
    simp only [nn, wout, List.length_singleton]
    omega
  | some t :: r => by
    have := nn_le r
    rw [wouts_cons, List.length_append]
    simp only [nn]
    omega
theorem Rel.len {t : Tr} {lv : List (List Tr)} {ws : List (Option Tr)} (h : Rel t lv ws) : lv.length = 1 + nn ws := by
  induction h with
  | start => rfl
  | fin => rfl
  | l0 _ ih => simp only [nn, List.length_cons] at ih ⊢; omega
  | l1 _ ih => simp only [nn, List.length_cons] at ih ⊢; omega
  | l2 _ ih => simp only [nn, List.length_cons] at ih ⊢; omega
theorem Rel.room {t x : Tr} {xs : List Tr} {lv : List (List Tr)} {ws : List (Option Tr)} (h : Rel t (xs :: lv) (some x :: ws)) : xs.length ≤ 1 := by
  cases h <;> simp
def osz : Option Tr → Nat
  | none => 0
  | some t => t.size
def oszs (ws : List (Option Tr)) : Nat := (ws.map osz).sum
theorem oszs_cons (p : Option Tr) (ws : List (Option Tr)) : oszs (p :: ws) = osz p + oszs ws := by simp [oszs]
/-- the things of a level are no greater than the text's whole -/
def lsz (lv : List (List Tr)) : Nat := (lv.map fun xs => (xs.map Tr.size).sum).sum
theorem lsz_cons (xs : List Tr) (lv : List (List Tr)) : lsz (xs :: lv) = (xs.map Tr.size).sum + lsz lv := by simp [lsz]
theorem lsz_app (x : Tr) : ∀ {lv : List (List Tr)}, lv ≠ [] → lsz (app x lv) = lsz lv + x.size
  | [], h => absurd rfl h
  | xs :: lv, _ => by
    simp only [app, lsz_cons, List.map_append, List.sum_append, List.map_cons, List.map_nil, List.sum_cons, List.sum_nil]
    omega
def opened (lv : List (List Tr)) : Nat := lv.length - 1
/-! ### in the heap -/
def LvAt (C : Addr) (H : Hp) (p : Addr) (xs : List Tr) : Prop := ∃ vs, H p = some (.lst vs) ∧ Paired (ThV C H) vs xs
structure Levels (C : Addr) (H : Hp) (LA : Addr) (ps : List Addr) (lv : List (List Tr)) : Prop where
  la : H LA = some (.lst (ps.map V.ref).reverse)
  at_ : Paired (LvAt C H) ps lv
  nd : (LA :: ps).Nodup
theorem lv_keep {C : Addr} {H H' : Hp} (k : KT H H') : ∀ {ps : List Addr} {lv : List (List Tr)}, (∀ p ∈ ps, ∀ vs, H p = some (.lst vs) → H' p = some (.lst vs)) → Paired (LvAt C H) ps lv → Paired (LvAt C H') ps lv
  | _, _, _, .nil => .nil
  | p :: ps, _, hl, .cons ⟨vs, h1, h2⟩ t => .cons ⟨vs, hl p (List.mem_cons_self ..) vs h1, ths_kt k h2⟩ (lv_keep k (fun q hq => hl q (List.mem_cons_of_mem _ hq)) t)
theorem Levels.same {C : Addr} {H H' : Hp} (s : Same H H') {LA : Addr} {ps : List Addr} {lv : List (List Tr)} (h : Levels C H LA ps lv) : Levels C H' LA ps lv :=
  ⟨s _ _ h.la, lv_keep (KT.of s) (fun _ _ _ e => s _ _ e) h.at_, h.nd⟩
theorem at_some {C : Addr} {H : Hp} : ∀ {ps : List Addr} {lv : List (List Tr)}, Paired (LvAt C H) ps lv → ∀ p ∈ ps, ∃ vs, H p = some (.lst vs)
  | _, _, .nil, p, hp => by cases hp
  | _, _, .cons ⟨vs, h1, _⟩ t, p, hp => by
    rcases List.mem_cons.mp hp with rfl | hp
    · exact ⟨vs, h1⟩
    · exact at_some t p hp
/-- something is put to the top level -/
theorem Levels.put {C : Addr} {H : Hp} {LA p : Addr} {ps : List Addr} {xs : List Tr} {lv : List (List Tr)} {vs : List V} {v : V} {x : Tr} (h : Levels C H LA (p :: ps) (xs :: lv)) (hp : H p = some (.lst vs)) (hv : ThV C H v x) :
    Levels C (upd H p (.lst (vs ++ [v]))) LA (p :: ps) ((xs ++ [x]) :: lv) := by
  have nd := h.nd
  rw [List.nodup_cons, List.nodup_cons] at nd
  have k : KT H (upd H p (.lst (vs ++ [v]))) := KT.lst hp
  have hat := h.at_
  cases hat with
  | cons h0 t =>
    obtain ⟨vs', e1, e2⟩ := h0
    have e := Option.some.inj (hp.symm.trans e1)
    injection e with e
    subst e
    refine ⟨(upd_ne (fun z => nd.1 (by rw [z]; simp))).trans h.la, .cons ⟨_, upd_same, paired_snoc (ths_kt k e2) (hv.kt k)⟩ (lv_keep k (fun q hq ws e => ?_) t), h.nd⟩
    rw [upd_ne (fun z => nd.2.1 (by rw [← z]; exact hq))]
    exact e
/-- a level is begun -/
theorem Levels.open_ {C : Addr} {H : Hp} {LA q : Addr} {ps : List Addr} {lv : List (List Tr)} (h : Levels C H LA ps lv) (nq : H q = none) :
    Levels C (upd (upd H q (.lst [])) LA (.lst ((ps.map V.ref).reverse ++ [.ref q]))) LA (q :: ps) ([] :: lv) := by
  have nqL : LA ≠ q := ne_of_none h.la nq
  have hL : (upd H q (.lst [])) LA = some (.lst (ps.map V.ref).reverse) := (upd_ne nqL).trans h.la
  have k : KT H (upd (upd H q (.lst [])) LA (.lst ((ps.map V.ref).reverse ++ [.ref q]))) := (KT.new nq).trans (KT.lst hL)
  have nd := h.nd
  rw [List.nodup_cons] at nd
  refine ⟨by rw [upd_same, List.map_cons, List.reverse_cons], .cons ⟨[], (upd_ne (Ne.symm nqL)).trans upd_same, .nil⟩ (lv_keep k (fun p hp ws e => ?_) h.at_), ?_⟩
  · rw [upd_ne (fun z => nd.1 (by rw [← z]; exact hp)), upd_ne (ne_of_none e nq)]
    exact e
  · rw [List.nodup_cons, List.nodup_cons]
    refine ⟨fun z => ?_, fun z => ?_, nd.2⟩
    · rcases List.mem_cons.mp z with z | z
      · exact nqL z
      · exact nd.1 z
    · obtain ⟨ws, e⟩ := at_some h.at_ q z
      rw [nq] at e
      cases e
/-- a level is shut -/
theorem Levels.shut {C : Addr} {H : Hp} {LA p : Addr} {ps : List Addr} {xs : List Tr} {lv : List (List Tr)} (h : Levels C H LA (p :: ps) (xs :: lv)) : Levels C (upd H LA (.lst (ps.map V.ref).reverse)) LA ps lv := by
  have nd := h.nd
  rw [List.nodup_cons, List.nodup_cons] at nd
  have hat := h.at_
  cases hat with
  | cons h0 t =>
    refine ⟨upd_same, lv_keep (KT.lst h.la) (fun q hq ws e => ?_) t, ?_⟩
    · rw [upd_ne (fun z => nd.1 (by rw [← z]; simp [hq]))]
      exact e
    · rw [List.nodup_cons]
      exact ⟨fun z => nd.1 (by simp [z]), nd.2.2⟩
def due (lv : List (List Tr)) (b : Nat) : Str := if whole lv = true then "" else if topLen lv = 2 then ")" else if b = 4000 then "." else ".("
def spWhole (C : Addr) : Sp := fun vs H Q _ => ∃ LA ps lv, vs = [.ref LA] ∧ Levels C H LA ps lv ∧ lv ≠ [] ∧ Q (.bl (whole lv)) H
def spDue (C : Addr) : Sp := fun vs H Q _ => ∃ LA ps lv b, vs = [.ref LA, .int (b : Nat)] ∧ Levels C H LA ps lv ∧ lv ≠ [] ∧ Q (.str (due lv b)) H
def spRead (C : Addr) : Sp := fun vs H Q _ => ∃ t : Tr, vs = [.str t.text] ∧ t.size ≤ 4000 ∧ ∀ a H', Same H H' → Th C H' a t → Q (.ref a) H'
section
variable {P : Program} {w : World} {K : PySem.W.Frag} {mg : Str → Option Value} {base : Heap} {C fI : Addr} {fdI : FuncData}
theorem scW : FnScope ["levels"] ["levels"] (defScope sWhole) := ⟨rfl, rfl, rfl, by decide +kernel, rfl, by decide +kernel, by decide +kernel⟩
theorem ok_whole {f : Addr} {fd : FuncData} (F : Fun K "is_whole" "is_whole" sWhole f fd) (T : Txt K mg C) : FnOk P w K mg base CX0 1 f fd ["levels"] (spWhole C) := by
  refine F.ok scW (fun vs H Q E h => ?_) (fun cdv A outer s H vs Q E hr h => ?_)
  · obtain ⟨LA, ps, lv, rfl, _⟩ := h
    rfl
  · obtain ⟨LA, ps, lv, rfl, hL, hne, k⟩ := h
    refine ⟨_, pss_one (ps_ret (pe_and (pe_cmpR op_eq (pe_callB call_len_seq (by rfl) T.len PySem.boot_len (pa_cons (pv 0) pa_nil)) pe_int (nomark _))
      (pe_one (pe_cmpR op_eq (pe_callB call_len_seq (by rfl) T.len PySem.boot_len (pa_cons (pe_ix ix_list (pv 0) pe_int (fun _ _ => rfl)) pa_nil)) pe_int (nomark _))))), ?_⟩
    refine ⟨_, rfl, LA, _, rfl, .inl (SqL.of hL.la), rfl, _, rfl, ?_⟩
    have hat := hL.at_
    have la := hL.la
    cases hat with
    | nil => exact absurd rfl hne
    | @cons p xs ps lv h0 t =>
      obtain ⟨vs, e1, e2⟩ := h0
      cases t with
      | nil =>
        refine iteT ?_
        refine ⟨_, rfl, LA, _, _, .ref p, rfl, rfl, SqL.of la, rfl, p, vs, rfl, .inl (SqL.of e1), rfl, ?_⟩
        have hl := Paired.length e2
        have e : decide (V.int ((vs.length : Nat) : Int) = V.int 1) = whole [xs] := by
          rw [hl]
          match xs with
          | [] => rfl
          | [x] => rfl
          | x :: y :: r =>
            show decide (V.int (((x :: y :: r).length : Nat) : Int) = V.int 1) = false
            simp only [List.length_cons, decide_eq_false_iff_not, V.int.injEq]
            omega
        show Q (.bl (decide (V.int ((vs.length : Nat) : Int) = V.int 1))) H
        rw [e]
        exact k
      | @cons p2 ys ps lv h1 t =>
        have ed : decide (V.int (((((p :: p2 :: ps).map V.ref).reverse).length : Nat) : Int) = V.int 1) = false := by
          simp only [List.length_reverse, List.length_map, List.length_cons, decide_eq_false_iff_not, V.int.injEq]
          omega
        rw [ed]
        have e : whole (xs :: ys :: lv) = false := by rcases xs with _ | ⟨x, _ | ⟨y, r⟩⟩ <;> rfl
        rw [e] at k
        exact iteF k
theorem scD : FnScope ["levels", "begun"] ["levels", "begun"] (defScope sDue) := ⟨rfl, rfl, rfl, by decide +kernel, rfl, by decide +kernel, by decide +kernel⟩
theorem ok_due {f fW : Addr} {fd fdW : FuncData} (F : Fun K "signs_due" "signs_due" sDue f fd) (T : Txt K mg C) (AW : At K mg "is_whole" sWhole ["levels"] fW fdW) : FnOk P w K mg base CX0 2 f fd ["levels", "begun"] (spDue C) := by
  have GW : FnOk P w K mg base CX0 1 fW fdW ["levels"] (spWhole C) := ok_whole AW.F T
  obtain ⟨tm, mgM⟩ := T.mgM
  refine F.ok scD (fun vs H Q E h => ?_) (fun cdv A outer s H vs Q E hr h => ?_)
  · obtain ⟨LA, ps, lv, b, rfl, _⟩ := h
    rfl
  · obtain ⟨LA, ps, lv, b, rfl, hL, hne, k⟩ := h
    refine ⟨_, pss_cons (ps_if (pt_val (pe_call GW hr rfl AW.mgf AW.F.kp AW.b .nil pass0 (pa_cons (pv 0) pa_nil))) (pss_one (ps_ret pe_str)) pss_nil)
      (pss_cons (ps_if (pt_cmpR op_eq (pe_callB call_len_seq (by rfl) T.len PySem.boot_len (pa_cons (pe_ix ix_list (pv 0) (pe_un un_neg pe_int) (fun _ _ => rfl)) pa_nil)) pe_int (nomark _)) (pss_one (ps_ret pe_str)) pss_nil)
      (pss_cons (ps_if (pt_cmpR op_eq (pv 1) (pe_glob (v := .int 4000) rfl mgM ⟨_, rfl⟩) (nomark _)) (pss_one (ps_ret pe_str)) pss_nil)
      (pss_one (ps_ret pe_str)))), ?_⟩
    refine ⟨_, rfl, LA, ps, lv, rfl, hL, hne, _, rfl, ?_⟩
    unfold due at k
    by_cases hw : whole lv = true
    · rw [if_pos hw] at k
      rw [hw]
      exact iteT k
    · rw [if_neg hw] at k
      have hw' : whole lv = false := by simpa using hw
      rw [hw']
      refine iteF ?_
      have la := hL.la
      have hat := hL.at_
      cases hat with
      | nil => exact absurd rfl hne
      | @cons p xs ps lv h0 t =>
        obtain ⟨vs, e1, e2⟩ := h0
        have hl := Paired.length e2
        refine ⟨_, rfl, _, rfl, LA, _, _, .ref p, rfl, rfl, SqL.of la, ?_, p, vs, rfl, .inl (SqL.of e1), rfl, _, rfl, ?_⟩
        · rw [List.map_cons, List.reverse_cons]
          exact atI_last _ _
        · have e : decide (V.int ((vs.length : Nat) : Int) = V.int 2) = decide (topLen (xs :: lv) = 2) := by
            simp only [topLen, V.int.injEq, ← hl]
            exact decide_eq_decide.mpr (by omega)
          rw [e]
          by_cases h2 : topLen (xs :: lv) = 2
          · rw [if_pos h2] at k
            rw [decide_eq_true h2]
            exact iteT k
          · rw [if_neg h2] at k
            rw [decide_eq_false h2]
            refine iteF ?_
            refine ⟨_, rfl, rfl, _, rfl, ?_⟩
            by_cases hb : b = 4000
            · rw [if_pos hb] at k
              subst hb
              exact iteT k
            · rw [if_neg hb] at k
              have ed : decide (V.int ((b : Nat) : Int) = V.int 4000) = false := by
                simp only [decide_eq_false_iff_not, V.int.injEq]
                omega
              rw [ed]
              exact iteF k
theorem due_in {c : Nat} {z : Str} (h : c ∈ z.cps.toList) : (!decide (c ∈ z.cps.toList)) = false := by simp [h]
theorem m41 : (41 : Nat) ∈ ((")" : Str)).cps.toList := by decide +kernel
theorem m46 : (46 : Nat) ∈ (("." : Str)).cps.toList := by decide +kernel
theorem m46b : (46 : Nat) ∈ ((".(" : Str)).cps.toList := by decide +kernel
theorem m40b : (40 : Nat) ∈ ((".(" : Str)).cps.toList := by decide +kernel
theorem scRd : FnScope ["text", "levels", "begun", "place", "sign", "first", "second"] ["text"] (defScope sRead) := ⟨rfl, rfl, rfl, by decide +kernel, rfl, by decide +kernel, by decide +kernel⟩
theorem ok_read {f fW fD : Addr} {fd fdW fdD : FuncData} (F : Fun K "read_thing" "read_thing" sRead f fd) (T : Txt K mg C) (men : mg "enumerate" = none) (mk : Maker P w K mg base C fI fdI) (AW : At K mg "is_whole" sWhole ["levels"] fW fdW) (AD : At K mg "signs_due" sDue ["levels", "begun"] fD fdD) :
    FnOk P w K mg base CX0 4 f fd ["text"] (spRead C) := by
  have GW : FnOk P w K mg base CX0 1 fW fdW ["levels"] (spWhole C) := ok_whole AW.F T
  have GD : FnOk P w K mg base CX0 2 fD fdD ["levels", "begun"] (spDue C) := ok_due AD.F T AW
  refine F.ok scRd (fun vs H Q E h => ?_) (fun cdv A outer s H vs Q E hr h => ?_)
  · obtain ⟨t, rfl, _⟩ := h
    rfl
  · obtain ⟨t, rfl, hz, k⟩ := h
    have hr1 : Room 1 _ := hr.mono (by decide)
    have hr2 : Room 2 _ := hr.mono (by decide)
    refine ⟨_, pss_cons (ps_set (i := 1) scRd.nd rfl (Or.inl rfl) (pe_lst (pa_cons (pe_lst pa_nil) pa_nil))) (pss_cons (ps_set (i := 2) scRd.nd rfl (Or.inl rfl) pe_int)
      (pss_cons (ps_for PassesOwn.never rfl (pi_enumS rfl men (pa_cons (pv 0) pa_nil)) (pg_tup rfl (pgs_cons (pg_name (i := 3) scRd.nd rfl (Or.inl rfl)) (pgs_cons (pg_name (i := 4) scRd.nd rfl (Or.inl rfl)) pgs_nil)))
        (pss_cons (ps_if (pt_cmpR op_notIn_sign (pv 4) (pe_call GD hr2 rfl AD.mgf AD.F.kp AD.b .nil pass0 (pa_cons (pv 1) (pa_cons (pv 2) pa_nil))) rfl) (pss_one ps_never) pss_nil)
        (pss_one (ps_if (pt_cmpR op_eq (pv 4) pe_str (nomark _))
          (pss_cons (ps_aug (i := 2) scRd.nd rfl (Or.inl rfl) pe_int ip_add) (pss_one (ps_expr (pe_bm PySem.F.plainAttrs_list PySem.F.slot_list_append PySem.F.type_list_append mt_append (pv 1) (pa_cons (pe_lst pa_nil) pa_nil)))))
          (pss_one (ps_if (pt_cmpR op_eq (pv 4) pe_str (nomark _))
            (pss_cons (ps_asg (pe_bm0 PySem.F.plainAttrs_list PySem.F.slot_list_pop PySem.F.type_list_pop mt_pop (pv 1)) (pg_unl rfl (pgs_cons (pg_name (i := 5) scRd.nd rfl (Or.inl rfl)) (pgs_cons (pg_name (i := 6) scRd.nd rfl (Or.inl rfl)) pgs_nil))))
              (pss_one (ps_expr (pe_bm PySem.F.plainAttrs_list PySem.F.slot_list_append PySem.F.type_list_append mt_append (pe_ix ix_list (pv 1) (pe_un un_neg pe_int) (fun _ _ => rfl)) (pa_cons (pe_T2 mk hr rfl (pa_cons (pv 5) (pa_cons (pv 6) pa_nil))) pa_nil)))))
            (pss_one (ps_expr (pe_bm PySem.F.plainAttrs_list PySem.F.slot_list_append PySem.F.type_list_append mt_append (pe_ix ix_list (pv 1) (pe_un un_neg pe_int) (fun _ _ => rfl)) (pa_cons (pe_T0 mk hr rfl) pa_nil))))))))))
      (pss_cons (ps_if (pt_not (pt_val (pe_call GW hr1 rfl AW.mgf AW.F.kp AW.b .nil pass0 (pa_cons (pv 1) pa_nil)))) (pss_one ps_never) pss_nil)
      (pss_one (ps_ret (pe_ix ix_list (pe_ix ix_list (pv 1) pe_int (fun _ _ => rfl)) pe_int (fun _ _ => rfl))))))), ?_⟩
    refine ⟨Nat.zero_le _, fun p0 np0 => ?_⟩
    refine ⟨(by show 1 ≤ sizeLine; decide), fun LA nLA => ?_⟩
    have npL : p0 ≠ LA := ne_of_none (o := .lst []) upd_same nLA
    have hLA : H LA = none := by
      have := nLA
      rw [upd_ne (Ne.symm npL)] at this
      exact this
    have hsl := line4
    have s0 : Same H (upd (upd H p0 (.lst [])) LA (.lst [.ref p0])) := (Same.new np0).set hLA
    have L0 : Levels C (upd (upd H p0 (.lst [])) LA (.lst [.ref p0])) LA [p0] [[]] := ⟨upd_same, .cons ⟨[], (upd_ne npL).trans upd_same, .nil⟩ .nil, by simp [Ne.symm npL]⟩
    have hn : t.text.cps.size = t.codes.length := by
      show t.codes.toArray.size = _
      rw [List.size_toArray]
    refine ⟨_, rfl, t.text, rfl, for_it (walk_enumS (z := t.text)) (fun i σ H' => ∃ (x3 x4 x5 x6 : Option V) (ps : List Addr) (lv : List (List Tr)) (ws : List (Option Tr)) (b : Nat),
        σ = [some (.str t.text), some (.ref LA), some (.int (b : Nat)), x3, x4, x5, x6] ∧ Same H H' ∧ Levels C H' LA ps lv ∧ (∀ p ∈ ps, H p = none) ∧ Rel t lv ws ∧ t.codes.drop i = wouts ws ∧ b + oszs ws = t.size)
      ⟨none, none, none, none, [p0], [[]], [some t], 0, rfl, s0, L0, by simp [np0], .start, by simp [wouts, wout], by simp [oszs, osz]⟩ (fun _ _ _ _ _ => trivial) ?_ ?_⟩
    · rintro i x σ H1 H2 hi ⟨x3, x4, x5, x6, ps, lv, ws, b, rfl, s1, hL, hfr, hrel, hws, hb⟩ ⟨T0, c, rfl, nT0, rfl, hc⟩
      have hi' : i < t.codes.length := by rw [← hn]; exact hi
      have hdr : t.codes.drop i = c :: t.codes.drop (i + 1) := by
        rw [List.drop_eq_getElem_cons hi']
        have e : t.codes[i]? = some c := by
          rw [← hc, ← Array.getElem?_toList, Tr.text_list]
        rw [List.getElem?_eq_getElem hi'] at e
        rw [Option.some.inj e]
      have hnn : nn ws ≤ 3 * t.size + 1 := by
        have h1 := nn_le ws
        rw [← hws, List.length_drop, Tr.codes_len] at h1
        omega
      have hlen := hrel.len
      have hpl : ps.length = lv.length := Paired.length hL.at_
      have s2 : Same H (upd H1 T0 (.tup [.int (i : Nat), .str ⟨#[c]⟩])) := s1.trans (Same.new nT0)
      have hL2 : Levels C (upd H1 T0 (.tup [.int (i : Nat), .str ⟨#[c]⟩])) LA ps lv := hL.same (Same.new nT0)
      have hT2 : (upd H1 T0 (.tup [.int (i : Nat), .str ⟨#[c]⟩])) T0 = some (.tup [.int (i : Nat), .str ⟨#[c]⟩]) := upd_same
      revert s2 hL2 hT2
      generalize (upd H1 T0 (.tup [.int (i : Nat), .str ⟨#[c]⟩])) = H3
      intro s2 hL2 hT2
      refine ⟨T0, _, rfl, SqT.of hT2, rfl, _, _, rfl, _, _, rfl, rfl, ?_⟩
      -- if sign not in signs_due(levels, begun)
      refine ⟨_, rfl, _, rfl, _, rfl, LA, ps, lv, b, rfl, hL2, hrel.ne, c, _, rfl, rfl, _, rfl, ?_⟩
      rw [hws] at hdr
      cases ws with
      | nil => simp [wouts] at hdr
      | cons p ws =>
        rw [wouts_cons] at hdr
        rw [oszs_cons] at hb
        have hnw := hrel.notWhole
        cases p with
        | none =>
          simp only [wout, List.singleton_append, List.cons.injEq] at hdr
          obtain ⟨rfl, hdr⟩ := hdr
          obtain ⟨l, r, lv', rfl, hrel'⟩ := hrel.shut
          have hd : due ([l, r] :: lv') b = ")" := by
            unfold due
            rw [hnw, if_neg Bool.false_ne_true, if_pos (show topLen ([l, r] :: lv') = 2 from rfl)]
          rw [hd, due_in m41]
          refine iteF ?_
          refine ⟨_, rfl, rfl, _, rfl, ?_⟩
          have e1 : decide (V.str ⟨#[41]⟩ = V.str "(") = false := by decide +kernel
          rw [e1]
          refine iteF ?_
          refine ⟨_, rfl, rfl, _, rfl, ?_⟩
          have e2 : decide (V.str ⟨#[41]⟩ = V.str ")") = true := by decide +kernel
          rw [e2]
          refine iteT ?_
          have hat := hL2.at_
          cases hat with
          | @cons p _ ps _ h0 tt =>
          obtain ⟨vs, hp, hvs⟩ := h0
          cases hvs with
          | @cons v1 _ vs1 _ hv1 hvs =>
          cases hvs with
          | @cons v2 _ vs2 _ hv2 hvs =>
          cases hvs
          refine ⟨_, rfl, .inl ⟨rfl, _, SqL.of hL2.la⟩, LA, _, .ref p, rfl, rfl, hL2.la, ?_, ?_⟩
          · rw [List.map_cons]
            exact last_rev _ _
          · rw [List.map_cons, drop_rev]
            have nd := hL2.nd
            rw [List.nodup_cons] at nd
            have npLA : p ≠ LA := fun z => nd.1 (by rw [← z]; simp)
            have hL4 := hL2.shut
            have s4 : Same H (upd H3 LA (.lst (ps.map V.ref).reverse)) := s2.set hLA
            have hp4 : (upd H3 LA (.lst (ps.map V.ref).reverse)) p = some (.lst [v1, v2]) := (upd_ne npLA).trans hp
            have hv1' := hv1.kt (KT.lst hL2.la (o := .lst (ps.map V.ref).reverse))
            have hv2' := hv2.kt (KT.lst hL2.la (o := .lst (ps.map V.ref).reverse))
            revert hL4 s4 hp4 hv1' hv2'
            generalize (upd H3 LA (.lst (ps.map V.ref).reverse)) = H4
            intro hL4 s4 hp4 hv1' hv2'
            refine ⟨p, _, rfl, SqL.of hp4, rfl, _, _, rfl, _, _, rfl, rfl, ?_⟩
            obtain ⟨a1, rfl, ha1⟩ := hv1'
            obtain ⟨a2, rfl, ha2⟩ := hv2'
            have hat4 := hL4.at_
            cases lv' with
            | nil => exact absurd rfl hrel'.ne
            | cons ys lv' =>
            cases hat4 with
            | @cons q _ qs _ h0 tt =>
            obtain ⟨us, hq, hus⟩ := h0
            have hle := hrel'.le (.pr l r) (by simp)
            simp only [Tr.size] at hle
            have hroom := hrel'.room
            have hul := Paired.length hus
            refine ⟨_, rfl, _, rfl, LA, _, _, .ref q, rfl, rfl, SqL.of hL4.la, ?_, .inl ⟨rfl, _, SqL.of hq⟩, _, rfl, _, rfl, a1, a2, l, r, rfl, ha1, ha2, by omega, fun z H5 s5 _ h5 => ?_⟩
            · rw [List.map_cons, List.reverse_cons]
              exact atI_last _ _
            · have hq5 := s5 _ _ hq
              refine ⟨q, us, _, rfl, rfl, hq5, by omega, ?_⟩
              have hL6 := (hL4.same s5).put hq5 ⟨z, rfl, h5⟩
              have hfq : H q = none := hfr q (by simp)
              refine ⟨_, _, _, _, q :: qs, (ys ++ [Tr.pr l r]) :: lv', ws, b, rfl, (s4.trans s5).set hfq, hL6, fun p' hp' => hfr p' (List.mem_cons_of_mem _ hp'), hrel'.app, ?_, ?_⟩
              · rw [← hdr]
              · simp only [osz] at hb
                omega
        | some x =>
          have hroom2 := hrel.top
          have hd : due lv b = (if b = 4000 then ("." : Str) else (".(" : Str)) := by
            unfold due
            rw [hnw, if_neg Bool.false_ne_true, if_neg hroom2]
          rw [hd]
          cases x with
          | nil =>
            simp only [wout, Tr.codes, List.singleton_append, List.cons.injEq] at hdr
            obtain ⟨rfl, hdr⟩ := hdr
            have hmem : (46 : Nat) ∈ (if b = 4000 then ("." : Str) else (".(" : Str)).cps.toList := by
              split
              · exact m46
              · exact m46b
            rw [due_in hmem]
            refine iteF ?_
            refine ⟨_, rfl, rfl, _, rfl, ?_⟩
            have e1 : decide (V.str ⟨#[46]⟩ = V.str "(") = false := by decide +kernel
            rw [e1]
            refine iteF ?_
            refine ⟨_, rfl, rfl, _, rfl, ?_⟩
            have e2 : decide (V.str ⟨#[46]⟩ = V.str ")") = false := by decide +kernel
            rw [e2]
            refine iteF ?_
            have hat := hL2.at_
            cases lv with
            | nil => exact absurd rfl hrel.ne
            | cons ys lv =>
            cases hat with
            | @cons q _ qs _ h0 tt =>
            obtain ⟨us, hq, hus⟩ := h0
            have hroom := hrel.room
            have hul := Paired.length hus
            refine ⟨_, rfl, _, rfl, LA, _, _, .ref q, rfl, rfl, SqL.of hL2.la, ?_, .inl ⟨rfl, _, SqL.of hq⟩, fun z H5 s5 _ h5 => ?_⟩
            · rw [List.map_cons, List.reverse_cons]
              exact atI_last _ _
            · have hq5 := s5 _ _ hq
              refine ⟨q, us, _, rfl, rfl, hq5, by omega, ?_⟩
              have hL6 := (hL2.same s5).put hq5 ⟨z, rfl, h5⟩
              have hfq : H q = none := hfr q (by simp)
              refine ⟨_, _, _, _, q :: qs, (ys ++ [Tr.nil]) :: lv, ws, b, rfl, (s2.trans s5).set hfq, hL6, fun p' hp' => hfr p' (by simpa using hp'), hrel.app, ?_, ?_⟩
              · rw [← hdr]
              · simp only [osz, Tr.size] at hb
                omega
          | pr l r =>
            simp only [wout, Tr.codes, List.cons_append, List.cons.injEq] at hdr
            obtain ⟨rfl, hdr⟩ := hdr
            simp only [osz, Tr.size] at hb
            have hb4 : ¬ b = 4000 := by omega
            rw [if_neg hb4, due_in m40b]
            refine iteF ?_
            refine ⟨_, rfl, rfl, _, rfl, ?_⟩
            have e1 : decide (V.str ⟨#[40]⟩ = V.str "(") = true := by decide +kernel
            rw [e1]
            refine iteT ?_
            refine ⟨_, rfl, _, _, rfl, rfl, ?_⟩
            refine ⟨_, rfl, .inl ⟨rfl, _, SqL.of hL2.la⟩, Nat.zero_le _, fun q nq => ?_⟩
            have nqL : LA ≠ q := ne_of_none hL2.la nq
            refine ⟨LA, _, _, rfl, rfl, (upd_ne nqL).trans hL2.la, ?_, ?_⟩
            · rw [List.length_reverse, List.length_map]
              omega
            · refine ⟨some (.int (i : Nat)), some (.str ⟨#[40]⟩), x5, x6, q :: ps, [] :: lv, some l :: some r :: none :: ws, b + 1, ?_, (s2.trans (Same.new nq)).set hLA, hL2.open_ nq, fun p' hp' => ?_, .l0 hrel, ?_, ?_⟩
              · simp
              · rcases List.mem_cons.mp hp' with rfl | hp'
                · exact s2.free nq
                · exact hfr p' hp'
              · rw [← hdr, wouts_cons, wouts_cons, wouts_cons]
                simp [wout]
              · rw [oszs_cons, oszs_cons, oszs_cons]
                simp only [osz]
                omega
    · rintro σ H1 ⟨x3, x4, x5, x6, ps, lv, ws, b, rfl, s1, hL, hfr, hrel, hws, hb⟩
      have hw0 : ws = [] := by
        rw [hn, List.drop_length] at hws
        cases ws with
        | nil => rfl
        | cons p ws =>
          rw [wouts_cons] at hws
          cases p with
          | none => simp [wout] at hws
          | some x => cases x <;> simp [wout, Tr.codes] at hws
      subst hw0
      have hlv := hrel.done
      subst hlv
      refine ⟨_, rfl, LA, ps, _, rfl, hL, by simp, _, rfl, ?_⟩
      refine iteF ?_
      have la := hL.la
      have hat := hL.at_
      cases hat with
      | @cons q _ qs _ h0 tt =>
      cases tt
      obtain ⟨us, hq, hus⟩ := h0
      cases hus with
      | @cons v _ vs _ hv hvs =>
      cases hvs
      obtain ⟨a, rfl, ha⟩ := hv
      exact ⟨_, rfl, LA, _, _, .ref q, rfl, rfl, SqL.of la, rfl, q, _, _, .ref a, rfl, rfl, SqL.of hq, rfl, k a H1 s1 ha⟩
end
end Js

set_option Elab.async false
set_option linter.all false
set_option maxRecDepth 100000
set_option maxHeartbeats 2000000
namespace Js
open PySem L2
abbrev sBag : Stmt := top 20
abbrev sTake : Stmt := top 21
/-- which built-ins are as they were -/
structure Blt (mg : Str → Option Value) : Prop where
  len : mg "len" = none
  range : mg "range" = none
  abs : mg "abs" = none
  int : mg "int" = none
  str : mg "str" = none
  max : mg "max" = none
  min : mg "min" = none
  all : mg "all" = none
structure BagOk (H : Hp) (p : Addr) : Prop where
  ex : ∃ x0 x1 pr x3 : Int, H p = some (.lst [.int x0, .int x1, .int pr, .int x3]) ∧ 0 ≤ x0 ∧ 0 ≤ x1 ∧ x1 < 2147483648 ∧ 0 < pr ∧ pr < 2147483648
/-- all but what stands at p stays -/
def KB (p : Addr) (H H' : Hp) : Prop := ∀ a o, a ≠ p → H a = some o → H' a = some o
theorem KB.refl (p : Addr) (H : Hp) : KB p H H := fun _ _ _ h => h
theorem KB.of {p : Addr} {H H' : Hp} (s : Same H H') : KB p H H' := fun _ _ _ h => s _ _ h
theorem KB.trans {p : Addr} {H H1 H2 : Hp} (a : KB p H H1) (b : KB p H1 H2) : KB p H H2 := fun x o n h => b x o n (a x o n h)
theorem KB.set {p : Addr} {H : Hp} {o : HO} : KB p H (upd H p o) := fun x u n h => by rw [upd_ne n]; exact h
theorem KB.kt {p : Addr} {H H' : Hp} (k : KB p H H') {xs : List V} (hp : H p = some (.lst xs)) : KT H H' := fun a o h n => k a o (fun z => by subst z; exact n _ (Option.some.inj (h.symm.trans hp))) h
theorem BagOk.kt {p : Addr} {H H' : Hp} (b : BagOk H p) (k : KB p H H') : KT H H' := by
  obtain ⟨x0, x1, pr, x3, h, _⟩ := b.ex
  exact k.kt h
theorem BagOk.same {p : Addr} {H H' : Hp} (b : BagOk H p) (s : Same H H') : BagOk H' p := by
  obtain ⟨x0, x1, pr, x3, h, r⟩ := b.ex
  exact ⟨x0, x1, pr, x3, s _ _ h, r⟩
theorem BagOk.some {p : Addr} {H : Hp} (b : BagOk H p) : ∃ xs, H p = some (.lst xs) := by
  obtain ⟨x0, x1, pr, x3, h, r⟩ := b.ex
  exact ⟨_, h⟩
def spBag (K : PySem.W.Frag) : Sp := fun vs H Q _ => ∃ (a : Addr) (ns : List Int) (k : Nat), vs = [.ref a, .int (k : Nat)] ∧ SqL K H a (ns.map V.int) ∧ k < 8 ∧ ∀ p H', Same H H' → H p = none → BagOk H' p → Q (.ref p) H'
def spTake : Sp := fun vs H Q _ => ∃ (p : Addr) (m : Int), vs = [.ref p, .int m] ∧ BagOk H p ∧ 0 < m ∧ m < 1073741824 ∧ ∀ (d : Int) H', KB p H H' → BagOk H' p → 0 ≤ d → d < m → Q (.int d) H'
def primes : List V := [.int 2147483629, .int 2147483587, .int 2147483579, .int 2147483563, .int 2147483549, .int 2147483543, .int 2147483497, .int 2147483489]
theorem prime_at (k : Nat) (hk : k < 8) : ∃ pr : Int, atI primes ((k : Int) % 8) = some (.int pr) ∧ 0 < pr ∧ pr < 2147483648 := by
  have e : ((k : Int) % 8) = (k : Nat) := by omega
  rw [e]
  match k, hk with
  | 0, _ => exact ⟨_, atI_nat rfl, by decide, by decide⟩
  | 1, _ => exact ⟨_, atI_nat rfl, by decide, by decide⟩
  | 2, _ => exact ⟨_, atI_nat rfl, by decide, by decide⟩
  | 3, _ => exact ⟨_, atI_nat rfl, by decide, by decide⟩
  | 4, _ => exact ⟨_, atI_nat rfl, by decide, by decide⟩
  | 5, _ => exact ⟨_, atI_nat rfl, by decide, by decide⟩
  | 6, _ => exact ⟨_, atI_nat rfl, by decide, by decide⟩
  | 7, _ => exact ⟨_, atI_nat rfl, by decide, by decide⟩
section
variable {P : Program} {w : World} {K : PySem.W.Frag} {mg : Str → Option Value} {base : Heap} {C fI : Addr} {fdI : FuncData}
theorem scB : FnScope ["_law_script", "_law_at", "_law_cell", "_law_prime"] ["_law_script", "_law_at"] (defScope sBag) := ⟨rfl, rfl, rfl, by decide +kernel, rfl, by decide +kernel, by decide +kernel⟩
theorem ok_bag {f : Addr} {fd : FuncData} (F : Fun K "_law_bag" "_law_bag" sBag f fd) (B : Blt mg) : FnOk P w K mg base CX0 1 f fd ["_law_script", "_law_at"] (spBag K) := by
  refine F.ok scB (fun vs H Q E h => ?_) (fun cdv A outer s H vs Q E hr h => ?_)
  · obtain ⟨a, ns, k, rfl, _⟩ := h
    rfl
  · obtain ⟨a, ns, kk, rfl, hS, hk, k⟩ := h
    refine ⟨_, pss_cons (ps_set (i := 2) scB.nd rfl (Or.inl rfl) pe_int)
      (pss_cons (ps_if (pt_cmpR op_lt (pv 1) (pe_callB call_len_seq (by rfl) B.len PySem.boot_len (pa_cons (pv 0) pa_nil)) (nomark _))
        (pss_one (ps_set (i := 2) scB.nd rfl (Or.inl rfl) (pe_callB call_abs (by rfl) B.abs PyProof.Rows.boot_abs (pa_cons (pe_ix ix_list (pv 0) (pv 1) (fun _ _ => rfl)) pa_nil)))) pss_nil)
      (pss_cons (ps_set (i := 3) scB.nd rfl (Or.inl rfl) (pe_ix ix_list (pe_lst (pa_cons pe_int (pa_cons pe_int (pa_cons pe_int (pa_cons pe_int (pa_cons pe_int (pa_cons pe_int (pa_cons pe_int (pa_cons pe_int pa_nil))))))))) (pe_op op_mod (pv 1) pe_int) (fun _ _ => rfl)))
      (pss_one (ps_ret (pe_lst (pa_cons (pe_op op_mul (pv 2) (pe_callTy call_int1 (by rfl) B.int PyProof.Rows.boot_int (pa_cons (pe_cmpR op_ge (pv 2) (pe_op op_pow pe_int pe_int) (nomark _)) pa_nil)))
        (pa_cons (pe_op op_mod (pe_op op_pow (pe_op op_add (pe_op op_add (pe_op op_mod (pv 2) pe_int) (pe_op op_mul pe_int (pv 1))) pe_int) pe_int) (pv 3)) (pa_cons (pv 3) (pa_cons pe_int pa_nil))))))))), ?_⟩
    -- behind the first if
    have rest : ∀ (cell : Int), 0 ≤ cell → tSeq (tAsg (tOp (rIxL K) (tLst (tCons (tC (V.int 2147483629)) (tCons (tC (V.int 2147483587)) (tCons (tC (V.int 2147483579)) (tCons (tC (V.int 2147483563)) (tCons (tC (V.int 2147483549)) (tCons (tC (V.int 2147483543)) (tCons (tC (V.int 2147483497)) (tCons (tC (V.int 2147483489)) tNil))))))))) (tOp (rI (fun _ j => 0 < j) fun i j => .int (i % j)) (tVar 1) (tC (V.int 8)))) (gName 3))
        (tRet (tLst (tCons (tOp (rI CMul fun i j => .int (i * j)) (tVar 2) (tCB (fun xs H Q => (∃ i, xs = [.int i] ∧ Q (.int i) H) ∨ ∃ k, xs = [.bl k] ∧ Q (.int (if k then 1 else 0)) H) (tCons (tOp (rI0 fun i j => .bl (decide (j ≤ i))) (tVar 2) (tOp (rI CPow fun i j => .int (i ^ j.toNat)) (tC (.int 10)) (tC (.int 18)))) tNil)))
          (tCons (tOp (rI (fun _ j => 0 < j) fun i j => .int (i % j)) (tOp (rI CPow fun i j => .int (i ^ j.toNat)) (tOp (rI0 fun i j => .int (i + j)) (tOp (rI0 fun i j => .int (i + j)) (tOp (rI (fun _ j => 0 < j) fun i j => .int (i % j)) (tVar 2) (tC (.int 2147483647))) (tOp (rI CMul fun i j => .int (i * j)) (tC (.int 104729)) (tVar 1))) (tC (.int 7))) (tC (.int 5))) (tVar 3)) (tCons (tVar 3) (tCons (tC (.int 0)) tNil))))))
        { nx := fun _ H' => Q .non H', rt := Q } [some (.ref a), some (.int (kk : Nat)), some (.int cell), none] H := by
      intro cell hc
      refine ⟨(by show 8 ≤ sizeLine; decide), fun pl npl => ?_⟩
      obtain ⟨pr, e1, e2, e3⟩ := prime_at kk hk
      refine ⟨_, rfl, _, _, rfl, rfl, (by show (0 : Int) < 8; decide), pl, _, _, _, rfl, rfl, SqL.of upd_same, e1, ?_⟩
      refine ⟨_, rfl, _, rfl, _, _, rfl, rfl, ⟨by decide, by decide, by decide⟩, _, _, rfl, rfl, .inr ⟨_, rfl, _, _, rfl, rfl, .inr ?_, ?_⟩⟩
      · split
        · exact ⟨by decide, by decide⟩
        · exact ⟨by decide, by decide⟩
      · refine ⟨_, rfl, _, _, rfl, rfl, (by show (0 : Int) < 2147483647; decide), _, rfl, _, _, rfl, rfl, .inl ⟨by decide, by decide⟩, _, _, rfl, rfl, _, _, rfl, rfl, _, _, rfl, rfl, ⟨by decide, by decide, ?_⟩, _, rfl, _, _, rfl, rfl, e2, _, rfl, (by show 4 ≤ sizeLine; decide), fun p np => ?_⟩
        · have h1 : 0 ≤ cell % 2147483647 := Int.emod_nonneg _ (by decide)
          have h2 : cell % 2147483647 < 2147483647 := Int.emod_lt_of_pos _ (by decide)
          show (cell % 2147483647 + 104729 * (kk : Int) + 7).natAbs < 2 ^ 64
          omega
        · have hne : H p = none := (Same.new npl).free np
          refine k p _ ((Same.new npl).trans (Same.new np)) hne ⟨_, _, pr, 0, upd_same, ?_, ?_, ?_, e2, e3⟩
          · split
            · simpa using hc
            · simp
          · exact Int.emod_nonneg _ (by omega)
          · exact Int.lt_trans (Int.emod_lt_of_pos _ e2) e3
    refine ⟨_, rfl, _, rfl, a, _, rfl, .inl hS, _, _, rfl, rfl, _, rfl, ?_⟩
    refine ite2 (fun hlt => ?_) (fun _ => rest 0 (by decide))
    have hlt' : kk < ns.length := by
      have := of_decide_eq_true hlt
      rw [List.length_map] at this
      omega
    refine ⟨_, rfl, _, rfl, a, _, _, _, rfl, rfl, hS, atI_nat (v := .int ns[kk]) (by rw [List.getElem?_map, List.getElem?_eq_getElem hlt']; rfl), _, rfl, ?_⟩
    exact rest _ (by split <;> omega)
theorem scTk : FnScope ["_law_bag_here", "_law_many", "_law_digit"] ["_law_bag_here", "_law_many"] (defScope sTake) := ⟨rfl, rfl, rfl, by decide +kernel, rfl, by decide +kernel, by decide +kernel⟩
theorem ok_take {f : Addr} {fd : FuncData} (F : Fun K "_law_take" "_law_take" sTake f fd) : FnOk P w K mg base CX0 1 f fd ["_law_bag_here", "_law_many"] spTake := by
  refine F.ok scTk (fun vs H Q E h => ?_) (fun cdv A outer s H vs Q E hr h => ?_)
  · obtain ⟨p, m, rfl, _⟩ := h
    rfl
  · obtain ⟨p, m, rfl, ⟨x0, x1, pr, x3, hp, h0, h1, h1', hp0, hp1⟩, hm0, hm1, k⟩ := h
    refine ⟨_, pss_cons (ps_if (pt_cmpR op_gt (pe_ix ix_list (pv 0) pe_int (fun _ _ => rfl)) pe_int (nomark _))
        (pss_cons (ps_set (i := 2) scTk.nd rfl (Or.inl rfl) (pe_op op_mod (pe_ix ix_list (pv 0) pe_int (fun _ _ => rfl)) (pv 1)))
        (pss_cons (ps_asg (pe_op op_fdiv (pe_ix ix_list (pv 0) pe_int (fun _ _ => rfl)) (pv 1)) (pg_sub (pv 0) pe_int set_list)) (pss_one (ps_ret (pv 2))))) pss_nil)
      (pss_cons (ps_asg (pe_op op_add (pe_ix ix_list (pv 0) pe_int (fun _ _ => rfl)) pe_int) (pg_sub (pv 0) pe_int set_list))
      (pss_cons (ps_asg (pe_op op_mod (pe_op op_add (pe_op op_add (pe_op op_mul (pe_ix ix_list (pv 0) pe_int (fun _ _ => rfl)) pe_int) (pe_op op_mul pe_int (pe_ix ix_list (pv 0) pe_int (fun _ _ => rfl)))) pe_int) (pe_ix ix_list (pv 0) pe_int (fun _ _ => rfl))) (pg_sub (pv 0) pe_int set_list))
      (pss_one (ps_ret (pe_op op_mod (pe_op op_mod (pe_op op_pow (pe_op op_fdiv (pe_ix ix_list (pv 0) pe_int (fun _ _ => rfl)) pe_int) pe_int) pe_int) (pv 1)))))), ?_⟩
    refine ⟨_, rfl, p, _, _, .int x0, rfl, rfl, SqL.of hp, rfl, _, _, rfl, rfl, _, rfl, ?_⟩
    refine ite2 (fun hlt => ?_) (fun _ => ?_)
    · refine ⟨_, rfl, p, _, _, .int x0, rfl, rfl, SqL.of hp, rfl, _, rfl, _, _, rfl, rfl, hm0, ?_⟩
      refine ⟨_, rfl, p, _, _, .int x0, rfl, rfl, SqL.of hp, rfl, _, rfl, _, _, rfl, rfl, ⟨hm0, hm1⟩, _, rfl, p, _, _, 0, rfl, rfl, hp, rfl, ?_⟩
      refine ⟨_, rfl, k _ _ KB.set ⟨x0 / m, x1, pr, x3, upd_same, ?_, h1, h1', hp0, hp1⟩ ?_ ?_⟩
      · exact Int.ediv_nonneg h0 (by omega)
      · exact Int.emod_nonneg _ (by omega)
      · exact Int.emod_lt_of_pos _ hm0
    · refine ⟨_, rfl, p, _, _, .int x3, rfl, rfl, SqL.of hp, rfl, _, _, rfl, rfl, _, rfl, p, _, _, 3, rfl, rfl, hp, rfl, ?_⟩
      have hp2 : (upd H p (.lst [.int x0, .int x1, .int pr, .int (x3 + 1)])) p = some (.lst [.int x0, .int x1, .int pr, .int (x3 + 1)]) := upd_same
      refine ⟨_, rfl, p, _, _, .int x1, rfl, rfl, SqL.of hp2, rfl, _, _, rfl, rfl, .inr ⟨by decide, by decide⟩, _, rfl, p, _, _, .int (x3 + 1), rfl, rfl, SqL.of hp2, rfl, _, _, rfl, rfl, .inl ⟨by decide, by decide⟩, _, _, rfl, rfl, _, _, rfl, rfl, _, rfl, p, _, _, .int pr, rfl, rfl, SqL.of hp2, rfl, _, _, rfl, rfl, hp0, _, rfl, p, _, _, 1, rfl, rfl, hp2, rfl, ?_⟩
      have g0 : 0 ≤ (x1 * 48271 + 7919 * (x3 + 1) + 11) % pr := Int.emod_nonneg _ (by omega)
      have g1 : (x1 * 48271 + 7919 * (x3 + 1) + 11) % pr < pr := Int.emod_lt_of_pos _ hp0
      have hp3 : (upd (upd H p (.lst [.int x0, .int x1, .int pr, .int (x3 + 1)])) p (.lst [.int x0, .int ((x1 * 48271 + 7919 * (x3 + 1) + 11) % pr), .int pr, .int (x3 + 1)])) p = some (.lst [.int x0, .int ((x1 * 48271 + 7919 * (x3 + 1) + 11) % pr), .int pr, .int (x3 + 1)]) := upd_same
      refine ⟨_, rfl, p, _, _, .int ((x1 * 48271 + 7919 * (x3 + 1) + 11) % pr), rfl, rfl, SqL.of hp3, rfl, _, _, rfl, rfl, ⟨by decide, by decide⟩, _, _, rfl, rfl, ⟨by decide, by decide, ?_⟩, _, _, rfl, rfl, (by show (0 : Int) < 2147483629; decide), _, rfl, _, _, rfl, rfl, hm0, ?_⟩
      · generalize (x1 * 48271 + 7919 * (x3 + 1) + 11) % pr = y at g0 g1
        show (y / 8).natAbs < 2 ^ 64
        omega
      · refine k _ _ (KB.set.trans KB.set) ⟨x0, _, pr, x3 + 1, hp3, h0, g0, by omega, hp0, hp1⟩ ?_ ?_
        · exact Int.emod_nonneg _ (by omega)
        · exact Int.emod_lt_of_pos _ hm0
end
end Js

set_option Elab.async false
set_option linter.all false
set_option maxRecDepth 100000
set_option maxHeartbeats 2000000
namespace Js
open PySem L2
/-- a def of the top keeps its promise -/
def Def (P : Program) (w : World) (K : PySem.W.Frag) (mg : Str → Option Value) (base : Heap) (x : Str) (k : Nat) (ps : List Str) (sp : Sp) : Prop :=
  ∃ f fd, mg x = some (.ref f) ∧ PySem.W.keepIn K (.ref f) = true ∧ FnOk P w K mg base CX0 k f fd ps sp ∧ Binds K fd ps []
/-- a special method of the class -/
def Spc (P : Program) (w : World) (K : PySem.W.Frag) (mg : Str → Option Value) (base : Heap) (C : Addr) (x : Str) (k : Nat) (ps : List Str) (sp : Sp) : Prop :=
  ∃ f fd, Own K C x f ∧ FnOk P w K mg base CX0 k f fd ps sp ∧ Binds K fd ps []
/-- a method of the class -/
def Mth (P : Program) (w : World) (K : PySem.W.Frag) (mg : Str → Option Value) (base : Heap) (C : Addr) (x : Str) (k : Nat) (ps : List Str) (sp : Sp) : Prop :=
  ∃ f fd, Meth K C x f ∧ FnOk P w K mg base CX0 k f fd ps sp ∧ Binds K fd ps []
section
open PyProof.Rows
variable {X : Cx} {C : Addr} {p pos apos : Pos} {e o : Expr} {es : List Expr} {t : TA} {ta : TE} {x : Str} {k : Nat} {ps : List Str} {sp : Sp}
theorem pe_def (D : Def X.prog X.w X.K X.mg X.base x k ps sp) (hr : Room k X.A) (hg : Gl X x) (ha : PA X (e :: es) t) (hdb : (x == ("__debug__" : Str)) = false := by decide)
    (he : starEach (e :: es) X.env = (false, eval e X.env) :: starEach es X.env := by rfl) (hpl : (backTo pos (starEach es X.env)).any (·.1) = false := by rfl) : PE X (.Call (.Name x p) (e :: es) [] pos) (tCall sp [] E0 t) := by
  obtain ⟨f, fd, hm, hk, F, hb⟩ := D
  exact pe_call F hr hg hm hk hb .nil pass0 ha hdb he hpl
/-- == of things -/
def rEqT (C : Addr) : R2 := fun x y H Q => ∃ a b t u, x = .ref a ∧ y = .ref b ∧ Th C H a t ∧ Th C H b u ∧ t.size ≤ 4000 ∧ ∀ H', Same H H' → Q (.bl (decide (t = u))) H'
def rNeT (C : Addr) : R2 := fun x y H Q => ∃ a b t u, x = .ref a ∧ y = .ref b ∧ Th C H a t ∧ Th C H b u ∧ t.size ≤ 4000 ∧ ∀ H', Same H H' → Q (.bl (!decide (t = u))) H'
theorem OpR.imp {f : Value → Value → Sem Value} {r r' : R2} (h : OpR X f r) (hi : ∀ x y H Q, r' x y H Q → r x y H Q) : OpR X f r' := fun pins s σ H x y v u Q I rx ry q => h pins s σ H x y v u Q I rx ry (hi x y H Q q)
theorem CallR.imp {f : Value} {r r' : List V → Hp → VK → Prop} (h : CallR X f r) (hi : ∀ xs H Q, r' xs H Q → r xs H Q) : CallR X f r' := fun pins s σ H xs us Q I rx q => h pins s σ H xs us Q I rx (hi xs H Q q)
theorem op_eqT (S : Spc X.prog X.w X.K X.mg X.base C "__eq__" 2 ["self", "other"] (spEqT C)) (hr : Room 2 X.A) : OpR X (compareOp .Eq) (rEqT C) := by
  obtain ⟨f, fd, ow, F, hb⟩ := S
  refine OpR.imp (op_eqOwn ow F hb hr (pass0)) fun x y H Q h => ?_
  obtain ⟨a, b, t, u, rfl, rfl, ha, hb', hz, q⟩ := h
  obtain ⟨dx, f1, g1, h1⟩ := ha.obj
  obtain ⟨dy, f2, g2, h2⟩ := hb'.obj
  exact ⟨a, dx, _, b, dy, _, rfl, rfl, h1, h2, a, b, t, u, rfl, ha, hb', hz, fun H' s => ⟨_, rfl, q H' s⟩⟩
theorem op_neT (S : Spc X.prog X.w X.K X.mg X.base C "__eq__" 2 ["self", "other"] (spEqT C)) (T : Txt X.K X.mg C) (hr : Room 3 X.A) : OpR X (compareOp .NotEq) (rNeT C) := by
  obtain ⟨f, fd, ow, F, hb⟩ := S
  refine OpR.imp (op_neOwn ow ⟨T.ne, T.cm⟩ F hb hr (pass0)) fun x y H Q h => ?_
  obtain ⟨a, b, t, u, rfl, rfl, ha, hb', hz, q⟩ := h
  obtain ⟨dx, f1, g1, h1⟩ := ha.obj
  obtain ⟨dy, f2, g2, h2⟩ := hb'.obj
  exact ⟨a, dx, _, b, dy, _, rfl, rfl, h1, h2, a, b, t, u, rfl, ha, hb', hz, fun H' s => ⟨_, rfl, q H' s⟩⟩
theorem call_lenT (S : Spc X.prog X.w X.K X.mg X.base C "__len__" 1 ["self"] (spLen C)) (hr : Room 2 X.A) : CallR X (.builtin "len") (fun xs H Q => ∃ a t, xs = [.ref a] ∧ Th C H a t ∧ t.size ≤ 4000 ∧ Q (.int (t.size : Nat)) H) := by
  obtain ⟨f, fd, ow, F, hb⟩ := S
  refine CallR.imp (call_lenOwn ow F hb hr (pass0)) fun xs H Q h => ?_
  obtain ⟨a, t, rfl, ha, hz, q⟩ := h
  obtain ⟨dx, f1, g1, h1⟩ := ha.obj
  exact ⟨a, dx, _, rfl, h1, a, t, rfl, ha, hz, _, rfl, by omega, q⟩
theorem call_strT (S : Spc X.prog X.w X.K X.mg X.base C "__str__" 2 ["self"] (spStr C)) (hr : Room 4 X.A) : CallR X (.type "str") (fun xs H Q => ∃ a t, xs = [.ref a] ∧ Th C H a t ∧ t.size ≤ 4000 ∧ ∀ H', Same H H' → Q (.str t.text) H') := by
  obtain ⟨f, fd, ow, F, hb⟩ := S
  refine CallR.imp (call_strOwn ow F hb hr (pass0)) fun xs H Q h => ?_
  obtain ⟨a, t, rfl, ha, hz, q⟩ := h
  obtain ⟨dx, f1, g1, h1⟩ := ha.obj
  exact ⟨a, dx, _, rfl, h1, a, t, rfl, ha, hz, fun H' s => ⟨_, rfl, q H' s⟩⟩
/-- a thing in a list of things -/
def rInTh (C : Addr) : R2 := fun x y H Q => ∃ b u p xs ts, x = .ref b ∧ Th C H b u ∧ y = .ref p ∧ H p = some (.lst xs) ∧ Paired (ThV C H) xs ts ∧ (∀ t ∈ ts, t.size ≤ 4000) ∧ ∀ H', Same H H' → Q (.bl (ts.any fun t => decide (t = u))) H'
def DTh (C : Addr) : Tells := fun x y r H => ∃ a b t u, x = .ref a ∧ y = .ref b ∧ Th C H a t ∧ Th C H b u ∧ t.size ≤ 4000 ∧ r = decide (t = u)
theorem op_inTh (S : Spc X.prog X.w X.K X.mg X.base C "__eq__" 2 ["self", "other"] (spEqT C)) (hr : Room 3 X.A) : OpR X (compareOp .In) (rInTh C) := by
  obtain ⟨f, fd, ow, F, hb⟩ := S
  have ET : EqT X 2 (DTh C) := eqT_own ow F hb (pass0) fun x y r H d => by
    obtain ⟨a, b, t, u, rfl, rfl, ha, hb', hz, rfl⟩ := d
    obtain ⟨dx, f1, g1, h1⟩ := ha.obj
    obtain ⟨dy, f2, g2, h2⟩ := hb'.obj
    refine ⟨a, b, dx, dy, _, _, rfl, rfl, h1, h2, fun e => ?_, a, b, t, u, rfl, ha, hb', hz, fun H' s => ⟨_, rfl, rfl, s⟩⟩
    subst e
    exact decide_eq_true (ha.inj hb')
  refine OpR.imp (op_inT ET (fun x y r H H' s d => ?_) hr) fun x y H Q h => ?_
  · obtain ⟨a, b, t, u, e1, e2, ha, hb', hz, e3⟩ := d
    exact ⟨a, b, t, u, e1, e2, ha.same s, hb'.same s, hz, e3⟩
  · obtain ⟨b, u, p, xs, ts, rfl, hb', rfl, hp, hps, hz, q⟩ := h
    refine ⟨p, xs, ts.map fun t => decide (t = u), rfl, hp, by rw [List.length_map]; exact (Paired.length hps).symm, fun i z r h1 h2 => ?_, fun H' s => ?_⟩
    · obtain ⟨ty, e1, a, rfl, ha⟩ := paired_get hps h1
      rw [List.getElem?_map, e1] at h2
      exact ⟨a, b, ty, u, rfl, rfl, ha, hb', hz ty (List.mem_of_getElem? e1), (Option.some.inj h2).symm⟩
    · have := q H' s
      rw [List.any_map]
      exact this
theorem pe_mth {pl : Sem Bool} (M : Mth X.prog X.w X.K X.mg X.base C x k ps sp) (T : Txt X.K X.mg C) (hr : Room k X.A) (he : PE X o ta)
    (ht : eval (.Call (.Attribute o x apos) [] [] pos) X.env = (do
      let ov ← eval o X.env
      standAt apos.atName
      let (f, first) ← holding [ov] (getMethod ov x pl)
      callWith pos f first (backTo pos (starEach [] X.env)) (backToKw pos (keywordEach [] X.env))) := by rfl) :
    PE X (.Call (.Attribute o x apos) [] [] pos) (tMeth C x sp [] E0 ta tNil) := by
  obtain ⟨f, fd, hm, F, hb⟩ := M
  exact pe_meth0 he T.cl hm F hr hb .nil pass0 ht
end
/-- what the law's defs lean on -/
structure Lib (P : Program) (w : World) (K : PySem.W.Frag) (mg : Str → Option Value) (base : Heap) (C fI : Addr) (fdI : FuncData) : Prop where
  T : Txt K mg C
  B : Blt mg
  made : Maker P w K mg base C fI fdI
  eq : Spc P w K mg base C "__eq__" 2 ["self", "other"] (spEqT C)
  str : Spc P w K mg base C "__str__" 2 ["self"] (spStr C)
  len : Spc P w K mg base C "__len__" 1 ["self"] (spLen C)
  bag : Def P w K mg base "_law_bag" 1 ["_law_script", "_law_at"] (spBag K)
  take : Def P w K mg base "_law_take" 1 ["_law_bag_here", "_law_many"] spTake
theorem n_hd1 : ¬ (("head" : Str) = "size") := by decide +kernel
theorem n_hd2 : ¬ (("head" : Str) = "second") := by decide +kernel
theorem n_hd3 : ¬ (("head" : Str) = "first") := by decide +kernel
theorem n_tl1 : ¬ (("tail" : Str) = "size") := by decide +kernel
theorem n_tl2 : ¬ (("tail" : Str) = "second") := by decide +kernel
theorem n_tl3 : ¬ (("tail" : Str) = "first") := by decide +kernel
theorem tf_head (f s : V) (n : Int) : (tf f s n).lookup ("head" : Str) = none := tf_no f s n n_hd1 n_hd2 n_hd3
theorem tf_tail (f s : V) (n : Int) : (tf f s n).lookup ("tail" : Str) = none := tf_no f s n n_tl1 n_tl2 n_tl3
end Js

set_option Elab.async false
set_option linter.all false
set_option maxRecDepth 100000
set_option maxHeartbeats 2000000
namespace Js
open PySem L2
/-! ### texts, by their signs -/
def tx (cs : List Nat) : Str := ⟨cs.toArray⟩
theorem tx_list (cs : List Nat) : (tx cs).cps.toList = cs := rfl
theorem tx_len (cs : List Nat) : (tx cs).length = cs.length := by
  show cs.toArray.size = _
  rw [List.size_toArray]
theorem tx_of (x : Str) : tx x.cps.toList = x := PyProof.Rows.ext_toList (by rw [tx_list])
theorem tx_text (t : Tr) : t.text = tx t.codes := rfl
theorem tx_append (a b : List Nat) : tx a ++ tx b = tx (a ++ b) := by
  apply PyProof.Rows.ext_toList
  rw [tx_list]
  show (a.toArray ++ b.toArray).toList = a ++ b
  simp
theorem tx_inj {a b : List Nat} (h : tx a = tx b) : a = b := by rw [← tx_list a, ← tx_list b, h]
def repl (n : Nat) (xs : List Nat) : List Nat := (List.replicate n xs).flatten
theorem repl_succ (n : Nat) (xs : List Nat) : repl (n + 1) xs = xs ++ repl n xs := by simp [repl, List.replicate_succ]
theorem repl_len (n : Nat) (xs : List Nat) : (repl n xs).length = n * xs.length := by
  induction n with
  | zero => simp [repl]
  | succ n ih => rw [repl_succ, List.length_append, ih, Nat.succ_mul]; omega
theorem foldl_repl (xs : Array Nat) : ∀ (n : Nat) (acc : Array Nat), ((List.replicate n xs).foldl (· ++ ·) acc).toList = acc.toList ++ repl n xs.toList
  | 0, acc => by simp [repl]
  | n + 1, acc => by
    rw [List.replicate_succ, List.foldl_cons, foldl_repl xs n, repl_succ]
    simp
theorem mul_tx (cs : List Nat) (n : Nat) : PySem.Txt.mul (tx cs) (n : Nat) = tx (repl n cs) := by
  unfold PySem.Txt.mul
  by_cases h : ((n : Nat) : Int) < 1
  · rw [if_pos h]
    have : n = 0 := by omega
    subst this
    rfl
  · rw [if_neg h]
    by_cases h2 : ((((n : Nat) : Int) == 1 || (tx cs).length == 0) = true)
    · rw [if_pos h2]
      rcases Bool.or_eq_true_iff.mp h2 with h3 | h3
      · have : n = 1 := by
          have := eq_of_beq h3
          omega
        subst this
        simp [repl]
      · have h4 : cs.length = 0 := by
          have := eq_of_beq h3
          rw [tx_len] at this
          exact this
        have h5 : cs = [] := List.length_eq_zero_iff.mp h4
        subst h5
        have : repl n [] = [] := by
          apply List.length_eq_zero_iff.mp
          rw [repl_len]
          simp
        rw [this]
    · rw [if_neg h2]
      apply PyProof.Rows.ext_toList
      rw [tx_list]
      show ((List.replicate ((n : Nat) : Int).toNat cs.toArray).foldl (· ++ ·) #[]).toList = _
      rw [foldl_repl, Int.toNat_natCast]
      simp
theorem mul_ok (x : Str) (n : Nat) (h : x.length * n ≤ 1000000) (hn : n ≤ 1000000) (hx : x.length ≤ 1000000) : PySem.MulOk x (n : Nat) := by
  have hs := sizeLine_eq
  refine ⟨?_, fun h1 h2 => ?_, fun h1 h2 => ?_⟩
  · rw [decide_eq_false (by omega), decide_eq_false (by omega)]
    rfl
  · intro z
    have h3 : (1000000 : Int) ≤ (2 ^ 63 - 1) / (n : Nat) := by
      have hp : (0 : Int) < (n : Nat) := by omega
      rw [Int.le_ediv_iff_mul_le hp]
      omega
    omega
  · unfold PySem.Builtin.Str.tooLong
    rw [Int.toNat_natCast]
    exact decide_eq_false (by omega)
section
variable {X : Cx}
theorem op_mulS : OpR X (binaryOp .Mult) (fun x y H Q => ∃ (cs : List Nat) (n : Nat), x = .str (tx cs) ∧ y = .int (n : Nat) ∧ cs.length * n ≤ 1000000 ∧ n ≤ 1000000 ∧ cs.length ≤ 1000000 ∧ Q (.str (tx (repl n cs))) H) := by
  intro pins s σ H x y v u Q I rx ry h
  obtain ⟨cs, n, rfl, rfl, h1, h2, h3, q⟩ := h
  obtain ⟨t, rfl⟩ := rx
  obtain ⟨t', rfl⟩ := ry
  refine PySem.SB.mul (mul_ok _ n (by rw [tx_len]; exact h1) h2 (by rw [tx_len]; exact h3)) fun tk k => ?_
  rw [mul_tx]
  exact ⟨.str _, H, I.tok k, ⟨tk, rfl⟩, q⟩
/-- s + t by their signs -/
theorem op_addX : OpR X (binaryOp .Add) (fun x y H Q => ∃ (a b : List Nat), x = .str (tx a) ∧ y = .str (tx b) ∧ a.length + b.length ≤ 1000000 ∧ Q (.str (tx (a ++ b))) H) :=
  OpR.imp op_add_str fun x y H Q h => by
    obtain ⟨a, b, rfl, rfl, h1, q⟩ := h
    have hs := sizeLine_eq
    exact ⟨_, _, rfl, rfl, by rw [tx_len, tx_len]; omega, by rw [tx_append]; exact q⟩
end
/-! ### how often a sign stands in a text -/
theorem chain_count (x : Str) (c : Nat) (hi : Nat) (hh : hi = x.length) : ∀ (cuts : List Nat) (a f : Nat), PySem.StrLaws.ChainG x ⟨#[c]⟩ hi a cuts f → (∀ k, f ≤ k → ¬ PySem.StrLaws.At x ⟨#[c]⟩ hi k) → cuts.length = (x.cps.toList.drop a).count c
  | [], a, f, h, hn => by
    have e : f = a := h
    subst e
    symm
    rw [List.length_nil, List.count_eq_zero]
    intro hm
    obtain ⟨j, hj⟩ := List.getElem?_of_mem hm
    rw [List.getElem?_drop] at hj
    subst hh
    exact hn (f + j) (by omega) ((PySem.StrLaws.subAt_one x c (f + j)).mpr hj)
  | d :: r, a, f, h, hn => by
    obtain ⟨h1, h2, h3, h4⟩ := h
    have ih := chain_count x c hi hh r (d + 1) f h4 hn
    subst hh
    have hd : x.cps.toList[d]? = some c := (PySem.StrLaws.subAt_one x c d).mp h2
    have hlt := (List.getElem?_eq_some_iff.mp hd).1
    have e1 : x.cps.toList.drop a = (x.cps.toList.drop a).take (d - a) ++ x.cps.toList.drop d := by
      have := List.take_append_drop (d - a) (x.cps.toList.drop a)
      rw [List.drop_drop] at this
      have e : a + (d - a) = d := by omega
      rw [e] at this
      exact this.symm
    have e2 : ((x.cps.toList.drop a).take (d - a)).count c = 0 := by
      rw [List.count_eq_zero]
      intro hm
      obtain ⟨j, hj⟩ := List.getElem?_of_mem hm
      have hj1 : j < d - a := by
        have := (List.getElem?_eq_some_iff.mp hj).1
        rw [List.length_take] at this
        omega
      rw [List.getElem?_take_of_lt hj1, List.getElem?_drop] at hj
      exact h3 (a + j) (by omega) (by omega) ((PySem.StrLaws.subAt_one x c (a + j)).mpr hj)
    have e3 : x.cps.toList.drop d = c :: x.cps.toList.drop (d + 1) := by
      rw [List.drop_eq_getElem_cons hlt, (List.getElem?_eq_some_iff.mp hd).2]
    rw [e1, List.count_append, e2, e3, List.count_cons_self, List.length_cons, ih]
    omega
theorem count_tx (cs : List Nat) (c : Nat) : PySem.Txt.count (tx cs) ⟨#[c]⟩ = ((cs.count c : Nat) : Int) := by
  unfold PySem.Txt.count
  obtain ⟨f, h1, h2⟩ := PySem.StrLaws.occ_tight (tx cs) ⟨#[c]⟩ (by show 1 ≤ 1; decide)
  rw [chain_count (tx cs) c _ rfl _ 0 f h1 h2, List.drop_zero, tx_list]
theorem count_codes : ∀ t : Tr, t.codes.count 40 = t.size
  | .nil => by decide
  | .pr l r => by
    simp only [Tr.codes, Tr.size, List.count_cons, List.count_append, count_codes l, count_codes r]
    simp
    omega
/-! ### slices -/
theorem cut_tx (cs : List Nat) (i j : Nat) (h : i ≤ j) (hj : j ≤ cs.length) : cutS (tx cs) (some (i : Nat)) (some (j : Nat)) = tx ((cs.drop i).take (j - i)) := by
  unfold cutS
  have e1 : min i cs.length = i := Nat.min_eq_left (by omega)
  rw [HT.sIx_nat, HT.sIx_nat, tx_len, tx_list, e1, Nat.min_eq_left hj]
  rfl
theorem cut_neg (cs : List Nat) (i j : Nat) (h : i + j ≤ cs.length) (h0 : 0 < j) : cutS (tx cs) (some (i : Nat)) (some (-(j : Nat) : Int)) = tx ((cs.drop i).take (cs.length - j - i)) := by
  unfold cutS
  have e : HT.sIx (tx cs).length (tx cs).length (some (-((j : Nat) : Int))) = cs.length - j := by
    rw [tx_len]
    show (if (-((j : Nat) : Int)) < 0 then _ else _) = _
    rw [if_pos (by omega)]
    omega
  rw [HT.sIx_nat, e, tx_len, tx_list, Nat.min_eq_left (by omega)]
  rfl
/-! ### how deep -/
def dp1 (c : Nat) : Int := if c = 40 then 1 else if c = 41 then -1 else 0
def dep (cs : List Nat) : Int := (cs.map dp1).sum
theorem dp40 : dp1 40 = 1 := rfl
theorem dep_nil : dep [] = 0 := rfl
theorem dep_cons (c : Nat) (cs : List Nat) : dep (c :: cs) = dp1 c + dep cs := by simp [dep]
theorem dep_append (a b : List Nat) : dep (a ++ b) = dep a + dep b := by simp [dep]
theorem dep_codes : ∀ t : Tr, dep t.codes = 0
  | .nil => rfl
  | .pr l r => by
    simp only [Tr.codes, dep_cons, dep_append, dep_codes l, dep_codes r, dep_nil]
    decide
theorem dep_take_append (a b : List Nat) (j : Nat) : dep ((a ++ b).take j) = if j ≤ a.length then dep (a.take j) else dep a + dep (b.take (j - a.length)) := by
  by_cases h : j ≤ a.length
  · rw [if_pos h, List.take_append_of_le_length h]
  · rw [if_neg h, List.take_append, List.take_of_length_le (by omega), dep_append]
theorem dep_nn : ∀ (t : Tr) (j : Nat), 0 ≤ dep (t.codes.take j)
  | .nil, 0 => by decide
  | .nil, j + 1 => by simp [Tr.codes, dep]; decide
  | .pr l r, 0 => by simp [dep]
  | .pr l r, j + 1 => by
    have hl := dep_nn l
    have hr := dep_nn r
    simp only [Tr.codes, List.take_succ_cons, dep_cons]
    rw [dep_take_append]
    split
    · have := hl j
      simp only [dp1]
      omega
    · rw [dep_take_append, dep_codes l]
      split
      · have := hr (j - l.codes.length)
        simp only [dp1]
        omega
      · rw [dep_codes r]
        match j - l.codes.length - r.codes.length with
        | 0 => simp [dep, dp1]
        | n + 1 => simp [dep, dp1]
/-- between the first sign and the last one some bracket is open -/
theorem dep_pos (t : Tr) (j : Nat) (h0 : 0 < j) (h1 : j < t.codes.length) : 0 < dep (t.codes.take j) := by
  cases t with
  | nil => simp [Tr.codes] at h1; omega
  | pr l r =>
    obtain ⟨j, rfl⟩ : ∃ i, j = i + 1 := ⟨j - 1, by omega⟩
    have hl := dep_nn l
    have hr := dep_nn r
    simp only [Tr.codes, List.length_cons, List.length_append, List.length_nil] at h1
    simp only [Tr.codes, List.take_succ_cons, dep_cons]
    rw [dep_take_append]
    split
    · have := hl j
      rw [dp40]
      omega
    · rw [dep_take_append, dep_codes l]
      split
      · have := hr (j - l.codes.length)
        rw [dp40]
        omega
      · omega
theorem codes_sign : ∀ (t : Tr) (c : Nat), c ∈ t.codes → c = 46 ∨ c = 40 ∨ c = 41
  | .nil, c, h => by simp [Tr.codes] at h; exact .inl h
  | .pr l r, c, h => by
    simp only [Tr.codes, List.mem_cons, List.mem_append, List.not_mem_nil, or_false] at h
    rcases h with h | h | h | h
    · exact .inr (.inl h)
    · exact codes_sign l c h
    · exact codes_sign r c h
    · exact .inr (.inr h)
theorem dot_eq : ((("." : Str))) = Tr.nil.text := by decide +kernel
theorem pr_not_dot (l r : Tr) : decide (V.str (Tr.pr l r).text = V.str ".") = false := by
  rw [dot_eq]
  exact decide_eq_false fun z => Tr.noConfusion (Tr.text_inj (V.str.inj z))
theorem nil_dot : decide (V.str Tr.nil.text = V.str ".") = true := by
  rw [dot_eq]
  simp
end Js

set_option Elab.async false
set_option linter.all false
set_option maxRecDepth 100000
set_option maxHeartbeats 2000000
namespace Js
open PySem L2
theorem repl_succ' (n : Nat) (xs : List Nat) : repl (n + 1) xs = repl n xs ++ xs := by
  induction n with
  | zero => simp [repl]
  | succ n ih =>
    have e : repl (n + 1 + 1) xs = xs ++ repl (n + 1) xs := repl_succ (n + 1) xs
    rw [e, ih, ← List.append_assoc, ← repl_succ n xs, ih]
def numT : Nat → Tr
  | 0 => .nil
  | n + 1 => .pr .nil (numT n)
theorem numT_size : ∀ n, (numT n).size = n
  | 0 => rfl
  | n + 1 => by simp only [numT, Tr.size, numT_size n]; omega
theorem numT_codes : ∀ n, (numT n).codes = repl n [40, 46] ++ [46] ++ repl n [41]
  | 0 => rfl
  | n + 1 => by
    have ih := numT_codes n
    show 40 :: ([46] ++ ((numT n).codes ++ [41])) = _
    rw [ih, repl_succ n [40, 46], repl_succ' n [41]]
    simp
def lcT : Nat → Tr
  | 0 => .nil
  | n + 1 => .pr (lcT n) .nil
theorem lcT_size : ∀ n, (lcT n).size = n
  | 0 => rfl
  | n + 1 => by simp only [lcT, Tr.size, lcT_size n]; omega
theorem lcT_codes : ∀ n, (lcT n).codes = repl n [40] ++ [46] ++ repl n [46, 41]
  | 0 => rfl
  | n + 1 => by
    have ih := lcT_codes n
    show 40 :: ((lcT n).codes ++ ([46] ++ [41])) = _
    rw [ih, repl_succ n [40], repl_succ' n [46, 41]]
    simp
def tV (t : Tr) : V := .str t.text
theorem list_split : ∀ (n : Nat) (ts : List Tr), n + 1 < ts.length → ∃ tp t u tq, ts = tp ++ t :: u :: tq ∧ tp.length = n
  | 0, t :: u :: tq, _ => ⟨[], t, u, tq, rfl, rfl⟩
  | 0, [t], h => by simp at h
  | 0, [], h => by simp at h
  | n + 1, [], h => by simp at h
  | n + 1, t :: ts, h => by
    obtain ⟨tp, x, u, tq, e, l⟩ := list_split n ts (by simpa using h)
    exact ⟨t :: tp, x, u, tq, by rw [e]; rfl, by simp [l]⟩
def tsz' (ts : List Tr) : Nat := (ts.map Tr.size).sum
theorem tsz'_append (a b : List Tr) : tsz' (a ++ b) = tsz' a + tsz' b := by simp [tsz']
theorem tsz'_cons (a : Tr) (b : List Tr) : tsz' (a :: b) = a.size + tsz' b := by simp [tsz']
theorem tsz'_rep (n : Nat) : tsz' (List.replicate n .nil) = 0 := by
  induction n with
  | zero => rfl
  | succ n ih => rw [List.replicate_succ, tsz'_cons, ih]; rfl
theorem rep_dots (n : Nat) : (List.replicate n [V.str "."]).flatten = (List.replicate n Tr.nil).map tV := by
  induction n with
  | zero => rfl
  | succ n ih =>
    rw [List.replicate_succ, List.flatten_cons, ih, List.replicate_succ, List.map_cons, dot_eq]
    rfl
theorem c_40 : (("(" : Str)) = tx [40] := by decide +kernel
theorem c_41 : ((")" : Str)) = tx [41] := by decide +kernel
theorem c_46 : (("." : Str)) = tx [46] := by decide +kernel
theorem c_4046 : (("(." : Str)) = tx [40, 46] := by decide +kernel
theorem c_4641 : ((".)" : Str)) = tx [46, 41] := by decide +kernel
def spText : Sp := fun vs H Q _ => ∃ (p : Addr) (m : Nat), vs = [.ref p, .int (m : Nat)] ∧ BagOk H p ∧ m ≤ 400 ∧ ∀ (t : Tr) H', KB p H H' → BagOk H' p → t.size = m → Q (.str t.text) H'
/-- '(' + x + y + ')' -/
theorem pair_text (t u : Tr) : tx ([40] ++ t.codes ++ u.codes ++ [41]) = (Tr.pr t u).text := by
  rw [tx_text]
  congr 1
  simp [Tr.codes]
end Js

set_option Elab.async false
set_option linter.all false
set_option maxRecDepth 100000
set_option maxHeartbeats 2000000
namespace Js
open PySem L2
/-! ### NoText -/
abbrev sNt : Stmt := inClass (top 2) 0
/-- what the top says of the class NoText at N -/
structure NtC (K : PySem.W.Frag) (mg : Str → Option Value) (N : Addr) : Prop where
  mgN : mg "NoText" = some (.ref N)
  O : OexC K N
  pl : PySem.W.findIn K (.ref N) "place" = some none
  mVE : mg "ValueError" = none
  vV : PySem.W.findCls K (.type "ValueError") (.type "type") "__init__" = some (.val (.builtin "ValueError.__init__"))
def spNt (K : PySem.W.Frag) : Sp := fun vs H Q _ => ∃ (a N : Addr) (n : Nat), vs = [.ref a, .int (n : Nat)] ∧ n ≤ 1000000 ∧ OexC K N ∧ PySem.W.findIn K (.ref N) "place" = some none ∧ H a = some (exo a N none) ∧
  ∀ dx, H dx = none → dx ≠ a → Q .non (upd (upd H dx (exd dx [("place", .int (n : Nat))])) a (exo a N (some dx)))
section
variable {P : Program} {w : World} {K : PySem.W.Frag} {mg : Str → Option Value} {base : Heap} {N : Addr}
theorem nat_log (n : Nat) (h : n ≤ 1000000) : ((n : Nat) : Int).natAbs.log2 < 1920 := by
  rw [Int.natAbs_natCast]
  by_cases h0 : n = 0
  · subst h0; decide
  · exact Nat.lt_of_lt_of_le ((Nat.log2_lt h0).mpr (show n < 2 ^ 20 by omega)) (by decide)
theorem scNt : FnScope ["self", "place"] ["self", "place"] (defScope sNt) := ⟨rfl, rfl, rfl, by decide +kernel, rfl, by decide +kernel, by decide +kernel⟩
theorem ok_nt {f : Addr} {fd : FuncData} (F : Fun K "__init__" "NoText.__init__" sNt f fd) (T : NtC K mg N) : FnOk P w K mg base CX0 1 f fd ["self", "place"] (spNt K) := by
  refine F.ok scNt (fun vs H Q E h => ?_) (fun cdv A outer s H vs Q E hr h => ?_)
  · obtain ⟨a, N, n, rfl, _⟩ := h
    rfl
  · obtain ⟨a, N, n, rfl, hn, hO, hno, ha, k⟩ := h
    refine ⟨_, pss_cons (ps_expr (pe_veinit rfl T.mVE T.vV (pa_cons (pv 0) (pa_cons (pe_joined (.cons pe_str (.cons (pe_fmt (pv 1)) .nil))) pa_nil)))) (pss_one (ps_ost (pv 0) (pv 1))), ?_⟩
    have hlg := nat_log n hn
    have hl := PyProof.Rows.int_text_len_1921 hlg
    have hs := sizeLine_eq
    refine ⟨_, rfl, _, rfl, by decide +kernel, _, rfl, .inr ⟨_, rfl, hlg, _, rfl, ?_, ?_⟩⟩
    · rw [PySem.Str.length_append]
      have e : (Str.empty ++ ("the text breaks at " : Str)).length = 19 := by decide +kernel
      omega
    · refine ⟨a, N, _, rfl, by simp, hO, ha, ?_⟩
      refine ⟨_, rfl, _, rfl, a, N, rfl, hO, hno, .inl ⟨ha, fun dx h1 h2 => k dx h1 h2⟩⟩
/-- NoText(n) is made -/
theorem raise_nt {H1 : Hp} {n : Nat} {Q : XK} (hO : OexC K N) (hno : PySem.W.findIn K (.ref N) "place" = some none) (hn : n ≤ 1000000)
    (q : ∀ d H', Same H1 H' → H' d = some (.xd [("place", .int (n : Nat))]) → Q (.ref N) (some d) H') :
    ∀ a, H1 a = none → spNt K [.ref a, .int (n : Nat)] (upd H1 a (exo a N none)) (fun v H2 => v = .non ∧ ∃ (d : Addr) (fs : List (Str × V)), H2 a = some (exo a N (some d)) ∧ H2 d = some (exd d fs) ∧ H1 d = none ∧ Q (.ref N) (some d) (upd (del H2 a) d (.xd fs))) (fun _ _ _ => False) := by
  intro a ha
  refine ⟨a, N, n, rfl, hn, hO, hno, upd_same, fun dx hd ne => ⟨rfl, dx, _, upd_same, (upd_ne ne).trans upd_same, ?_, q dx _ ?_ upd_same⟩⟩
  · rw [upd_ne ne] at hd
    exact hd
  · rw [upd_ne ne] at hd
    intro b o h
    have e1 := ne_of_none h hd
    have e2 := ne_of_none h ha
    rw [upd_ne e1, del_ne e2, upd_ne e2, upd_ne e1, upd_ne e2]
    exact h
end
/-! ### isinstance of a caught one -/
section
variable {X : Cx} {a D : Addr} {oe : Obj} {pn : List (Addr × Obj)} {d : Option Addr} {cls : Value}
def rIsX (K : PySem.W.Frag) (D a : Addr) (cls : Value) (d : Option Addr) : List V → Hp → VK → Prop := fun xs H Q => ∃ (c : V) (cv : Value) (b : Bool) (dd : Addr) (fs : List (Str × V)), xs = [.ref a, c] ∧ ClsV c cv ∧ cls = .ref D ∧ d = some dd ∧ H dd = some (.xd fs) ∧ PySem.W.kitOne K (.ref D) cv = some b ∧ Q (.bl b) H
theorem inst_x {s : Shared} {H : Hp} {dd : Addr} {fs : List (Str × V)} {pins : List (Addr × Obj)} {σ : St} (I : Inv (X.suite a ((a, oe) :: pn)) pins σ H s) (hz : Zc (.ref D) d oe) (hf : ∃ vs, oe.data = .fields vs) (e1 : d = some dd) (e2 : H dd = some (.xd fs)) : ∃ od, PySem.W.InstAt s.heap a oe D (some od) := by
  subst e1
  obtain ⟨hget, _⟩ := I.pin (a, oe) (List.mem_append_left _ List.mem_cons_self)
  obtain ⟨vs, hd⟩ := hf
  have hx : ObjOk X.prog X.w H s.heap dd (.xd fs) := I.hok dd _ e2
  obtain ⟨mA, hns, hr⟩ := hx
  obtain ⟨od, ho, hl⟩ := lookIn_ns hns
  exact ⟨od, hget, hz.1, by unfold PySem.W.notCls; rw [hd] <;> rfl, by rw [hz.2]; exact ho⟩
/-- what the class says, so that isinstance asks its instances rightly -/
structure XcC (K : PySem.W.Frag) (D : Addr) : Prop where
  hc : (PySem.W.clsIn K D).isSome = true
  hg : PySem.W.findIn K (.ref D) "__getattribute__" = some (some (.builtin "BaseException.__getattribute__"))
  hk : PySem.W.findIn K (.ref D) "__getattr__" = some none
  hs : PySem.W.subIn K (.ref D) (.type "BaseException") = some true
  ha : PySem.W.findIn K (.ref D) "__class__" = some (some (.builtin "object.__class__"))
  hn : PySem.W.specialIn K (.builtin "object.__class__") "__get__" = some (some (.builtin "getset_descriptor.__get__"))
  ht : PySem.W.takesIn K (.builtin "object.__class__") = some true
  hm : PySem.W.mroIn K D (.type "object") = some true
theorem call_isX (C : XcC X.K D) (hz : Zc cls d oe) (hf : ∃ vs, oe.data = .fields vs) : CallR (X.suite a ((a, oe) :: pn)) (.builtin "isinstance") (rIsX X.K D a cls d) := by
  intro pins s σ H xs us Q I r h
  obtain ⟨c, cv, b, dd, fs, rfl, hcv, rfl, e1, e2, e, q⟩ := h
  obtain ⟨od, J⟩ := inst_x I hz hf e1 e2
  cases r with
  | cons rx rr =>
    cases rr with
    | cons rt rr =>
      cases rr
      cases rx
      have ec := hcv.eq rt
      subst ec
      exact PySem.W.kia_one (PySem.W.kitx_exc C.hc C.hg C.hk C.hs C.ha C.hn C.ht C.hm) I.kIn J e (fun z => nomatch z) fun tk => ⟨.bl b, H, I.kept (t' := tk) fun _ _ z => z, rfl, q⟩
/-- isinstance(e, (C1, ..)) -/
def rIsXt (K : PySem.W.Frag) (D a : Addr) (cls : Value) (d : Option Addr) : List V → Hp → VK → Prop := fun xs H Q => ∃ (tp : Addr) (cs : List V) (cvs : List Value) (b : Bool) (dd : Addr) (fs : List (Str × V)), xs = [.ref a, .ref tp] ∧ H tp = some (.tup cs) ∧ Paired ClsV cs cvs ∧ cls = .ref D ∧ d = some dd ∧ H dd = some (.xd fs) ∧ PySem.W.kitAny K (.ref D) cvs = some b ∧ Q (.bl b) H
theorem call_isXt (C : XcC X.K D) (hz : Zc cls d oe) (hf : ∃ vs, oe.data = .fields vs) : CallR (X.suite a ((a, oe) :: pn)) (.builtin "isinstance") (rIsXt X.K D a cls d) := by
  intro pins s σ H xs us Q I r h
  obtain ⟨tp, cs, cvs, b, dd, fs, rfl, ht, hcv, rfl, e1, e2, e, q⟩ := h
  obtain ⟨od, J⟩ := inst_x I hz hf e1 e2
  cases r with
  | cons rx rr =>
    cases rr with
    | cons rt rr =>
      cases rr
      cases rx
      cases rt
      obtain ⟨its, rv, ⟨o, ho, hcl, n, hdt⟩, _⟩ := I.tuple (SqT.of ht)
      have ev := ClsV.all hcv rv
      subst ev
      obtain ⟨oc, od', oda, osl⟩ := o
      dsimp only at hcl hdt
      subst hcl hdt
      exact PySem.W.kia_tup (PySem.W.kitx_exc C.hc C.hg C.hk C.hs C.ha C.hn C.ht C.hm) I.kIn J ho e (fun z => nomatch z) fun tk => ⟨.bl b, H, I.kept (t' := tk) fun _ _ z => z, rfl, q⟩
end
end Js

set_option Elab.async false
set_option linter.all false
set_option maxRecDepth 100000
set_option maxHeartbeats 2000000
namespace Js
open PySem L2
/-! ### where a text breaks: what is still wanted on each floor, the top first; how many are opened -/
def brk : List Nat → Nat → List Nat → Nat → Option Nat
  | [], i, W, _ => if W = [0] then none else some i
  | _ :: _, i, [], _ => some i
  | c :: cs, i, w :: W, o =>
    if c = 41 then (if W ≠ [] ∧ w = 0 then brk cs (i + 1) W o else some i)
    else if c = 46 then (if 0 < w then brk cs (i + 1) ((w - 1) :: W) o else some i)
    else if c = 40 then (if 0 < w ∧ o < 4000 then brk cs (i + 1) (2 :: (w - 1) :: W) (o + 1) else some i)
    else some i
def cap : List (List Tr) → Nat
  | [] => 1
  | _ :: _ => 2
def low : List (List Tr) → List Nat
  | [] => []
  | xs :: lv => (cap lv - xs.length - 1) :: low lv
def wts : List (List Tr) → List Nat
  | [] => []
  | xs :: lv => (cap lv - xs.length) :: low lv
def Shl : List (List Tr) → Prop
  | [] => True
  | xs :: lv => xs.length < cap lv ∧ Shl lv
def Sh : List (List Tr) → Prop
  | [] => False
  | xs :: lv => xs.length ≤ cap lv ∧ Shl lv
def br : List (List Tr) → List Nat
  | [] => []
  | _ :: _ => [40]
def pre : List (List Tr) → List Nat
  | [] => []
  | xs :: lv => pre lv ++ br lv ++ (xs.map Tr.codes).flatten
theorem cap_le (lv : List (List Tr)) : cap lv ≤ 2 := by cases lv <;> simp [cap]
theorem cap_pos (lv : List (List Tr)) : 1 ≤ cap lv := by cases lv <;> simp [cap]
theorem Sh.ne {lv : List (List Tr)} (h : Sh lv) : lv ≠ [] := by
  cases lv with
  | nil => exact h.elim
  | cons a b => simp
theorem low_ne {lv : List (List Tr)} (h : lv ≠ []) : low lv ≠ [] := by
  cases lv with
  | nil => exact absurd rfl h
  | cons a b => simp [low]
theorem whole_iff {xs : List Tr} {lv : List (List Tr)} : whole (xs :: lv) = true ↔ lv = [] ∧ xs.length = 1 := by
  cases lv with
  | nil =>
    match xs with
    | [] => simp [whole]
    | [x] => simp [whole]
    | x :: y :: r => simp [whole]
  | cons ys lv =>
    match xs with
    | [] => simp [whole]
    | [x] => simp [whole]
    | x :: y :: r => simp [whole]
theorem l_nil : (("" : Str)).cps.toList = [] := by decide +kernel
theorem l_41 : ((")" : Str)).cps.toList = [41] := by decide +kernel
theorem l_46 : (("." : Str)).cps.toList = [46] := by decide +kernel
theorem l_46b : ((".(" : Str)).cps.toList = [46, 40] := by decide +kernel
/-- the next sign -/
theorem due_step {lv : List (List Tr)} {b : Nat} (h : Sh lv) (hb : b ≤ 4000) (c i : Nat) (cs : List Nat) :
    (c ∈ (due lv b).cps.toList ∧ ((c = 41 ∧ ∃ l r ys lv', lv = [l, r] :: ys :: lv') ∨ (c = 46 ∧ ∃ xs lv', lv = xs :: lv' ∧ xs.length < cap lv') ∨ (c = 40 ∧ b < 4000 ∧ ∃ xs lv', lv = xs :: lv' ∧ xs.length < cap lv'))) ∨
    (c ∉ (due lv b).cps.toList ∧ brk (c :: cs) i (wts lv) b = some i) := by
  cases lv with
  | nil => exact h.elim
  | cons xs lv =>
  obtain ⟨h1, h2⟩ := h
  have hc2 := cap_le lv
  have hc1 := cap_pos lv
  unfold due
  by_cases hw : whole (xs :: lv) = true
  · rw [if_pos hw, l_nil]
    obtain ⟨rfl, hx⟩ := whole_iff.mp hw
    refine .inr ⟨by simp, ?_⟩
    simp only [wts, cap, hx, low, Nat.sub_self, brk]
    simp
  · rw [if_neg hw]
    by_cases h3 : topLen (xs :: lv) = 2
    · rw [if_pos h3, l_41]
      have hx : xs.length = 2 := h3
      have hcap : cap lv = 2 := by omega
      cases lv with
      | nil => simp [cap] at hcap
      | cons ys lv' =>
      by_cases hc : c = 41
      · refine .inl ⟨by simp [hc], .inl ⟨hc, ?_⟩⟩
        match xs, hx with
        | [l, r], _ => exact ⟨l, r, ys, lv', rfl⟩
      · refine .inr ⟨by simp [hc], ?_⟩
        simp only [wts, hx, hcap, Nat.sub_self, brk, if_neg hc]
        simp
    · rw [if_neg h3]
      have h3' : xs.length ≠ 2 := h3
      have hlt : xs.length < cap lv := by
        by_cases hn : lv = []
        · subst hn
          simp only [cap] at h1 ⊢
          have : xs.length ≠ 1 := fun z => hw (whole_iff.mpr ⟨rfl, z⟩)
          omega
        · have : cap lv = 2 := by
            cases lv with
            | nil => exact absurd rfl hn
            | cons a b => rfl
          omega
      have hpos : 0 < cap lv - xs.length := by omega
      have hne : ¬ (cap lv - xs.length = 0) := by omega
      by_cases h4 : b = 4000
      · rw [if_pos h4, l_46]
        by_cases hc : c = 46
        · exact .inl ⟨by simp [hc], .inr (.inl ⟨hc, xs, lv, rfl, hlt⟩)⟩
        · refine .inr ⟨by simp [hc], ?_⟩
          simp only [wts, brk, if_neg hc, hne, and_false, if_false]
          have : ¬ (0 < cap lv - xs.length ∧ b < 4000) := by omega
          rw [if_neg this]
          simp
      · rw [if_neg h4, l_46b]
        by_cases hc : c = 46
        · exact .inl ⟨by simp [hc], .inr (.inl ⟨hc, xs, lv, rfl, hlt⟩)⟩
        · by_cases hc' : c = 40
          · exact .inl ⟨by simp [hc'], .inr (.inr ⟨hc', by omega, xs, lv, rfl, hlt⟩)⟩
          · refine .inr ⟨by simp [hc, hc'], ?_⟩
            simp only [wts, brk, if_neg hc, if_neg hc', hne, and_false, if_false]
            simp
theorem brk_shut (l r : Tr) (ys : List Tr) (lv : List (List Tr)) (b i : Nat) (cs : List Nat) (h : ys.length < cap lv) : brk (41 :: cs) i (wts ([l, r] :: ys :: lv)) b = brk cs (i + 1) (wts ((ys ++ [Tr.pr l r]) :: lv)) b := by
  have e : wts ([l, r] :: ys :: lv) = 0 :: (cap lv - ys.length - 1) :: low lv := by simp [wts, low, cap]
  have e2 : wts ((ys ++ [Tr.pr l r]) :: lv) = (cap lv - ys.length - 1) :: low lv := by
    simp only [wts, List.length_append, List.length_cons, List.length_nil]
    congr 1
  rw [e, e2]
  simp [brk]
theorem brk_dot (xs : List Tr) (lv : List (List Tr)) (b i : Nat) (cs : List Nat) (h : xs.length < cap lv) : brk (46 :: cs) i (wts (xs :: lv)) b = brk cs (i + 1) (wts ((xs ++ [Tr.nil]) :: lv)) b := by
  have e2 : wts ((xs ++ [Tr.nil]) :: lv) = (cap lv - xs.length - 1) :: low lv := by
    simp only [wts, List.length_append, List.length_cons, List.length_nil]
    congr 1
  rw [e2]
  have hp : 0 < cap lv - xs.length := by omega
  simp only [wts, brk]
  rw [if_neg (by decide), if_pos trivial, if_pos hp]
theorem brk_open (xs : List Tr) (lv : List (List Tr)) (b i : Nat) (cs : List Nat) (h : xs.length < cap lv) (hb : b < 4000) : brk (40 :: cs) i (wts (xs :: lv)) b = brk cs (i + 1) (wts ([] :: xs :: lv)) (b + 1) := by
  have hp : 0 < cap lv - xs.length := by omega
  have e2 : wts ([] :: xs :: lv) = 2 :: (cap lv - xs.length - 1) :: low lv := rfl
  rw [e2]
  simp only [wts, brk]
  rw [if_neg (by decide), if_neg (by decide), if_pos trivial, if_pos ⟨hp, hb⟩]
theorem pre_app (x : Tr) (xs : List Tr) (lv : List (List Tr)) : pre ((xs ++ [x]) :: lv) = pre (xs :: lv) ++ x.codes := by simp [pre]
theorem pre_open {lv : List (List Tr)} (h : lv ≠ []) : pre ([] :: lv) = pre lv ++ [40] := by
  cases lv with
  | nil => exact absurd rfl h
  | cons a b => simp [pre, br]
theorem pre_shut (l r : Tr) (ys : List Tr) (lv : List (List Tr)) : pre ([l, r] :: ys :: lv) ++ [41] = pre ((ys ++ [Tr.pr l r]) :: lv) := by
  rw [pre_app]
  simp [pre, br, Tr.codes]
theorem brk_end {lv : List (List Tr)} (h : Sh lv) (n b : Nat) : brk [] n (wts lv) b = if whole lv = true then none else some n := by
  cases lv with
  | nil => exact h.elim
  | cons xs lv =>
  obtain ⟨h1, h2⟩ := h
  simp only [brk]
  by_cases hw : whole (xs :: lv) = true
  · rw [if_pos hw]
    obtain ⟨rfl, hx⟩ := whole_iff.mp hw
    rw [if_pos]
    simp [wts, cap, hx, low]
  · rw [if_neg hw, if_neg]
    intro z
    apply hw
    rw [whole_iff]
    simp only [wts, List.cons.injEq] at z
    have hl : lv = [] := by
      by_cases hn : lv = []
      · exact hn
      · exact absurd z.2 (low_ne hn)
    subst hl
    simp only [cap] at z h1
    exact ⟨rfl, by omega⟩
end Js

set_option Elab.async false
set_option linter.all false
set_option maxRecDepth 100000
set_option maxHeartbeats 2000000
namespace Js
open PySem L2
/-- a text is read, or refused at the place where it breaks -/
def spRead4 (C N : Addr) : Sp := fun vs H Q E => ∃ z : Str, vs = [.str z] ∧ z.length ≤ 100000 ∧
  (brk z.cps.toList 0 [1] 0 = none → ∀ (t : Tr) a H', t.text = z → t.size ≤ 4000 → Same H H' → Th C H' a t → Q (.ref a) H') ∧
  (∀ pl, brk z.cps.toList 0 [1] 0 = some pl → pl ≤ 100000 → ∀ d H', Same H H' → H' d = some (.xd [("place", .int (pl : Nat))]) → E (.ref N) (some d) H')
section
variable {P : Program} {w : World} {K : PySem.W.Frag} {mg : Str → Option Value} {base : Heap} {C fI N fN : Addr} {fdI fdN : FuncData}
/-- the class NoText and its __init__ -/
structure NtM (P : Program) (w : World) (K : PySem.W.Frag) (mg : Str → Option Value) (base : Heap) (N fN : Addr) (fdN : FuncData) : Prop where
  T : NtC K mg N
  iN : PySem.W.findIn K (.ref N) "__init__" = some (some (.ref fN))
  tN : PySem.W.typeIn K (.ref fN) = some (.type "function")
  ok : FnOk P w K mg base CX0 1 fN fdN ["self", "place"] (spNt K)
  bN : Binds K fdN ["self", "place"] []
theorem ok_read4 {f fW fD : Addr} {fd fdW fdD : FuncData} (F : Fun K "read_thing" "read_thing" sRead f fd) (T : Txt K mg C) (men : mg "enumerate" = none) (mk : Maker P w K mg base C fI fdI) (M : NtM P w K mg base N fN fdN) (AW : At K mg "is_whole" sWhole ["levels"] fW fdW) (AD : At K mg "signs_due" sDue ["levels", "begun"] fD fdD) :
    FnOk P w K mg base (L2.CX P w) 4 f fd ["text"] (spRead4 C N) := by
  have GW : FnOk P w K mg base CX0 1 fW fdW ["levels"] (spWhole C) := ok_whole AW.F T
  have GD : FnOk P w K mg base CX0 2 fD fdD ["levels", "begun"] (spDue C) := ok_due AD.F T AW
  refine F.okX scRd (fun vs H Q E h => ?_) (fun cdv A outer s H vs Q E hr h => ?_)
  · obtain ⟨z, rfl, _⟩ := h
    rfl
  · obtain ⟨z, rfl, hz, kq, ke⟩ := h
    have hr1 : Room 1 _ := hr.mono (by decide)
    have hr2 : Room 2 _ := hr.mono (by decide)
    refine ⟨_, pss_cons (ps_set (i := 1) scRd.nd rfl (Or.inl rfl) (pe_lst (pa_cons (pe_lst pa_nil) pa_nil))) (pss_cons (ps_set (i := 2) scRd.nd rfl (Or.inl rfl) pe_int)
      (pss_cons (ps_for (passes_of rfl) rfl (pi_enumS rfl men (pa_cons (pv 0) pa_nil)) (pg_tup rfl (pgs_cons (pg_name (i := 3) scRd.nd rfl (Or.inl rfl)) (pgs_cons (pg_name (i := 4) scRd.nd rfl (Or.inl rfl)) pgs_nil)))
        (pss_cons (ps_if (pt_cmpR op_notIn_sign (pv 4) (pe_call GD hr2 rfl AD.mgf AD.F.kp AD.b .nil pass0 (pa_cons (pv 1) (pa_cons (pv 2) pa_nil))) rfl) (pss_one (ps_raise rfl (takes_of rfl rfl rfl rfl) (pmk_oex M.T.O M.iN M.tN M.ok hr2 M.bN .nil pass0 rfl M.T.mgN (pa_cons (pv 3) pa_nil)))) pss_nil)
        (pss_one (ps_if (pt_cmpR op_eq (pv 4) pe_str (nomark _))
          (pss_cons (ps_aug (i := 2) scRd.nd rfl (Or.inl rfl) pe_int ip_add) (pss_one (ps_expr (pe_bm PySem.F.plainAttrs_list PySem.F.slot_list_append PySem.F.type_list_append mt_append (pv 1) (pa_cons (pe_lst pa_nil) pa_nil)))))
          (pss_one (ps_if (pt_cmpR op_eq (pv 4) pe_str (nomark _))
            (pss_cons (ps_asg (pe_bm0 PySem.F.plainAttrs_list PySem.F.slot_list_pop PySem.F.type_list_pop mt_pop (pv 1)) (pg_unl rfl (pgs_cons (pg_name (i := 5) scRd.nd rfl (Or.inl rfl)) (pgs_cons (pg_name (i := 6) scRd.nd rfl (Or.inl rfl)) pgs_nil))))
              (pss_one (ps_expr (pe_bm PySem.F.plainAttrs_list PySem.F.slot_list_append PySem.F.type_list_append mt_append (pe_ix ix_list (pv 1) (pe_un un_neg pe_int) (fun _ _ => rfl)) (pa_cons (pe_T2 mk hr rfl (pa_cons (pv 5) (pa_cons (pv 6) pa_nil))) pa_nil)))))
            (pss_one (ps_expr (pe_bm PySem.F.plainAttrs_list PySem.F.slot_list_append PySem.F.type_list_append mt_append (pe_ix ix_list (pv 1) (pe_un un_neg pe_int) (fun _ _ => rfl)) (pa_cons (pe_T0 mk hr rfl) pa_nil))))))))))
      (pss_cons (ps_if (pt_not (pt_val (pe_call GW hr1 rfl AW.mgf AW.F.kp AW.b .nil pass0 (pa_cons (pv 1) pa_nil)))) (pss_one (ps_raise rfl (takes_of rfl rfl rfl rfl) (pmk_oex M.T.O M.iN M.tN M.ok hr2 M.bN .nil pass0 rfl M.T.mgN (pa_cons (pe_callB call_len_str (by rfl) T.len PySem.boot_len (pa_cons (pv 0) pa_nil)) pa_nil)))) pss_nil)
      (pss_one (ps_ret (pe_ix ix_list (pe_ix ix_list (pv 1) pe_int (fun _ _ => rfl)) pe_int (fun _ _ => rfl))))))), ?_⟩
    refine ⟨Nat.zero_le _, fun p0 np0 => ?_⟩
    refine ⟨(by show 1 ≤ sizeLine; decide), fun LA nLA => ?_⟩
    have npL : p0 ≠ LA := ne_of_none (o := .lst []) upd_same nLA
    have hLA : H LA = none := by
      have := nLA
      rw [upd_ne (Ne.symm npL)] at this
      exact this
    have hsl := line4
    have s0 : Same H (upd (upd H p0 (.lst [])) LA (.lst [.ref p0])) := (Same.new np0).set hLA
    have L0 : Levels C (upd (upd H p0 (.lst [])) LA (.lst [.ref p0])) LA [p0] [[]] := ⟨upd_same, .cons ⟨[], (upd_ne npL).trans upd_same, .nil⟩ .nil, by simp [Ne.symm npL]⟩
    obtain ⟨cs, hcs⟩ : ∃ cs, z.cps.toList = cs := ⟨_, rfl⟩
    have hn : z.cps.size = cs.length := by rw [← hcs, Array.length_toList]
    have hzl : z.length = cs.length := hn
    rw [hcs] at kq ke
    refine ⟨_, rfl, z, rfl, for_it (walk_enumS (z := z)) (fun i σ H' => ∃ (x3 x4 x5 x6 : Option V) (ps : List Addr) (lv : List (List Tr)) (b : Nat),
        σ = [some (.str z), some (.ref LA), some (.int (b : Nat)), x3, x4, x5, x6] ∧ Same H H' ∧ Levels C H' LA ps lv ∧ (∀ p ∈ ps, H p = none) ∧ Sh lv ∧ b + 1 = lsz lv + lv.length ∧ b ≤ 4000 ∧ cs.take i = pre lv ∧ brk (cs.drop i) i (wts lv) b = brk cs 0 [1] 0)
      ⟨none, none, none, none, [p0], [[]], 0, rfl, s0, L0, by simp [np0], ⟨by simp [cap], trivial⟩, by simp [lsz], by decide, by simp [pre, br], by simp [wts, cap, low]⟩ (fun _ _ _ _ _ => trivial) ?_ ?_⟩
    · rintro i x σ H1 H2 hi ⟨x3, x4, x5, x6, ps, lv, b, rfl, s1, hL, hfr, hsh, hb, hb4, hpre, hbrk⟩ ⟨T0, c, rfl, nT0, rfl, hc⟩
      have hi' : i < cs.length := by rw [← hn]; exact hi
      have hgc : cs[i]? = some c := by rw [← hc, ← hcs, Array.getElem?_toList]
      have hdr : cs.drop i = c :: cs.drop (i + 1) := by
        rw [List.drop_eq_getElem_cons hi']
        rw [List.getElem?_eq_getElem hi'] at hgc
        rw [Option.some.inj hgc]
      have htk : cs.take (i + 1) = pre lv ++ [c] := by rw [List.take_add_one, hgc, hpre]; rfl
      rw [hdr] at hbrk
      have hpl : ps.length = lv.length := Paired.length hL.at_
      have s2 : Same H (upd H1 T0 (.tup [.int (i : Nat), .str ⟨#[c]⟩])) := s1.trans (Same.new nT0)
      have hL2 : Levels C (upd H1 T0 (.tup [.int (i : Nat), .str ⟨#[c]⟩])) LA ps lv := hL.same (Same.new nT0)
      have hT2 : (upd H1 T0 (.tup [.int (i : Nat), .str ⟨#[c]⟩])) T0 = some (.tup [.int (i : Nat), .str ⟨#[c]⟩]) := upd_same
      revert s2 hL2 hT2
      generalize (upd H1 T0 (.tup [.int (i : Nat), .str ⟨#[c]⟩])) = H3
      intro s2 hL2 hT2
      refine ⟨T0, _, rfl, SqT.of hT2, rfl, _, _, rfl, _, _, rfl, rfl, ?_⟩
      -- if sign not in signs_due(levels, begun)
      refine ⟨_, rfl, _, rfl, _, rfl, LA, ps, lv, b, rfl, hL2, hsh.ne, c, _, rfl, rfl, _, rfl, ?_⟩
      rcases due_step hsh hb4 c i (cs.drop (i + 1)) with ⟨hin, hcase⟩ | ⟨hout, hbk⟩
      · rw [due_in hin]
        refine iteF ?_
        rcases hcase with ⟨rfl, l, r, ys, lv', rfl⟩ | ⟨rfl, xs, lv', rfl, hlt⟩ | ⟨rfl, hb40, xs, lv', rfl, hlt⟩
        · -- ')'
          refine ⟨_, rfl, rfl, _, rfl, ?_⟩
          have e1 : decide (V.str ⟨#[41]⟩ = V.str "(") = false := by decide +kernel
          rw [e1]
          refine iteF ?_
          refine ⟨_, rfl, rfl, _, rfl, ?_⟩
          have e2 : decide (V.str ⟨#[41]⟩ = V.str ")") = true := by decide +kernel
          rw [e2]
          refine iteT ?_
          obtain ⟨_, hys, hsl2⟩ := hsh
          rw [brk_shut l r ys lv' b i _ hys] at hbrk
          rw [lsz_cons, lsz_cons] at hb
          simp only [List.map_cons, List.map_nil, List.sum_cons, List.sum_nil, List.length_cons] at hb
          have hat := hL2.at_
          cases hat with
          | @cons p _ ps _ h0 tt =>
          obtain ⟨vs, hp, hvs⟩ := h0
          cases hvs with
          | @cons v1 _ vs1 _ hv1 hvs =>
          cases hvs with
          | @cons v2 _ vs2 _ hv2 hvs =>
          cases hvs
          refine ⟨_, rfl, .inl ⟨rfl, _, SqL.of hL2.la⟩, LA, _, .ref p, rfl, rfl, hL2.la, ?_, ?_⟩
          · rw [List.map_cons]
            exact last_rev _ _
          · rw [List.map_cons, drop_rev]
            have nd := hL2.nd
            rw [List.nodup_cons] at nd
            have npLA : p ≠ LA := fun z => nd.1 (by rw [← z]; simp)
            have hL4 := hL2.shut
            have s4 : Same H (upd H3 LA (.lst (ps.map V.ref).reverse)) := s2.set hLA
            have hp4 : (upd H3 LA (.lst (ps.map V.ref).reverse)) p = some (.lst [v1, v2]) := (upd_ne npLA).trans hp
            have hv1' := hv1.kt (KT.lst hL2.la (o := .lst (ps.map V.ref).reverse))
            have hv2' := hv2.kt (KT.lst hL2.la (o := .lst (ps.map V.ref).reverse))
            revert hL4 s4 hp4 hv1' hv2'
            generalize (upd H3 LA (.lst (ps.map V.ref).reverse)) = H4
            intro hL4 s4 hp4 hv1' hv2'
            refine ⟨p, _, rfl, SqL.of hp4, rfl, _, _, rfl, _, _, rfl, rfl, ?_⟩
            obtain ⟨a1, rfl, ha1⟩ := hv1'
            obtain ⟨a2, rfl, ha2⟩ := hv2'
            have hat4 := hL4.at_
            cases hat4 with
            | @cons q _ qs _ h0 tt =>
            obtain ⟨us, hq, hus⟩ := h0
            have hul := Paired.length hus
            have hcap := cap_le lv'
            refine ⟨_, rfl, _, rfl, LA, _, _, .ref q, rfl, rfl, SqL.of hL4.la, ?_, .inl ⟨rfl, _, SqL.of hq⟩, _, rfl, _, rfl, a1, a2, l, r, rfl, ha1, ha2, by omega, fun z' H5 s5 _ h5 => ?_⟩
            · rw [List.map_cons, List.reverse_cons]
              exact atI_last _ _
            · have hq5 := s5 _ _ hq
              refine ⟨q, us, _, rfl, rfl, hq5, by omega, ?_⟩
              have hL6 := (hL4.same s5).put hq5 ⟨z', rfl, h5⟩
              have hfq : H q = none := hfr q (by simp)
              refine ⟨_, _, _, _, q :: qs, (ys ++ [Tr.pr l r]) :: lv', b, rfl, (s4.trans s5).set hfq, hL6, fun p' hp' => hfr p' (List.mem_cons_of_mem _ hp'), ⟨by rw [List.length_append]; exact hys, hsl2⟩, ?_, hb4, ?_, hbrk⟩
              · rw [lsz_cons, List.map_append, List.sum_append]
                simp only [List.map_cons, List.map_nil, List.sum_cons, List.sum_nil, Tr.size, List.length_cons]
                omega
              · rw [htk, pre_shut]
        · -- '.'
          refine ⟨_, rfl, rfl, _, rfl, ?_⟩
          have e1 : decide (V.str ⟨#[46]⟩ = V.str "(") = false := by decide +kernel
          rw [e1]
          refine iteF ?_
          refine ⟨_, rfl, rfl, _, rfl, ?_⟩
          have e2 : decide (V.str ⟨#[46]⟩ = V.str ")") = false := by decide +kernel
          rw [e2]
          refine iteF ?_
          obtain ⟨_, hsl2⟩ := hsh
          rw [brk_dot xs lv' b i _ hlt] at hbrk
          have hcap := cap_le lv'
          have hat := hL2.at_
          cases hat with
          | @cons q _ qs _ h0 tt =>
          obtain ⟨us, hq, hus⟩ := h0
          have hul := Paired.length hus
          refine ⟨_, rfl, _, rfl, LA, _, _, .ref q, rfl, rfl, SqL.of hL2.la, ?_, .inl ⟨rfl, _, SqL.of hq⟩, fun z' H5 s5 _ h5 => ?_⟩
          · rw [List.map_cons, List.reverse_cons]
            exact atI_last _ _
          · have hq5 := s5 _ _ hq
            refine ⟨q, us, _, rfl, rfl, hq5, by omega, ?_⟩
            have hL6 := (hL2.same s5).put hq5 ⟨z', rfl, h5⟩
            have hfq : H q = none := hfr q (by simp)
            refine ⟨_, _, _, _, q :: qs, (xs ++ [Tr.nil]) :: lv', b, rfl, (s2.trans s5).set hfq, hL6, fun p' hp' => hfr p' (by simpa using hp'), ⟨by rw [List.length_append]; exact hlt, hsl2⟩, ?_, hb4, ?_, hbrk⟩
            · rw [lsz_cons] at hb ⊢
              rw [List.map_append, List.sum_append]
              simp only [List.map_cons, List.map_nil, List.sum_cons, List.sum_nil, Tr.size, List.length_cons] at hb ⊢
              omega
            · rw [htk, pre_app]
              rfl
        · -- '('
          refine ⟨_, rfl, rfl, _, rfl, ?_⟩
          have e1 : decide (V.str ⟨#[40]⟩ = V.str "(") = true := by decide +kernel
          rw [e1]
          refine iteT ?_
          refine ⟨_, rfl, _, _, rfl, rfl, ?_⟩
          refine ⟨_, rfl, .inl ⟨rfl, _, SqL.of hL2.la⟩, Nat.zero_le _, fun q nq => ?_⟩
          have nqL : LA ≠ q := ne_of_none hL2.la nq
          rw [brk_open xs lv' b i _ hlt hb40] at hbrk
          refine ⟨LA, _, _, rfl, rfl, (upd_ne nqL).trans hL2.la, ?_, ?_⟩
          · rw [List.length_reverse, List.length_map]
            omega
          · refine ⟨some (.int (i : Nat)), some (.str ⟨#[40]⟩), x5, x6, q :: ps, [] :: xs :: lv', b + 1, ?_, (s2.trans (Same.new nq)).set hLA, hL2.open_ nq, fun p' hp' => ?_, ⟨by simp [cap], hlt, hsh.2⟩, ?_, by omega, ?_, hbrk⟩
            · simp
            · rcases List.mem_cons.mp hp' with rfl | hp'
              · exact s2.free nq
              · exact hfr p' hp'
            · rw [lsz_cons]
              simp only [List.map_nil, List.sum_nil, List.length_cons] at hb ⊢
              omega
            · rw [htk, pre_open (by simp)]
      · have eo : (!decide (c ∈ (due lv b).cps.toList)) = true := by simp [hout]
        rw [eo]
        refine iteT ?_
        refine ⟨_, rfl, by simp, raise_nt M.T.O M.T.pl (by omega) fun d H' sH hd => ?_⟩
        exact ke i (hbrk.symm.trans hbk) (by omega) d H' (s2.trans sH) hd
    · rintro σ H1 ⟨x3, x4, x5, x6, ps, lv, b, rfl, s1, hL, hfr, hsh, hb, hb4, hpre, hbrk⟩
      rw [hn, List.drop_length, brk_end hsh] at hbrk
      rw [hn, List.take_length] at hpre
      refine ⟨_, rfl, LA, ps, _, rfl, hL, hsh.ne, _, rfl, ?_⟩
      by_cases hw : whole lv = true
      · rw [hw]
        refine iteF ?_
        rw [if_pos hw] at hbrk
        cases lv with
        | nil => exact absurd rfl hsh.ne
        | cons xs lv =>
        obtain ⟨rfl, hx⟩ := whole_iff.mp hw
        obtain ⟨t, rfl⟩ : ∃ t, xs = [t] := List.length_eq_one_iff.mp hx
        have la := hL.la
        have hat := hL.at_
        cases hat with
        | @cons q _ qs _ h0 tt =>
        cases tt
        obtain ⟨us, hq, hus⟩ := h0
        cases hus with
        | @cons v _ vs _ hv hvs =>
        cases hvs
        obtain ⟨a, rfl, ha⟩ := hv
        have ht : t.text = z := by
          apply PyProof.Rows.ext_toList
          rw [Tr.text_list, hcs, hpre]
          simp [pre, br]
        have hts : t.size ≤ 4000 := by
          simp [lsz] at hb
          omega
        exact ⟨_, rfl, LA, _, _, .ref q, rfl, rfl, SqL.of la, rfl, q, _, _, .ref a, rfl, rfl, SqL.of hq, rfl, kq hbrk.symm t a H1 ht hts s1 ha⟩
      · have hw' : whole lv = false := by simpa using hw
        rw [hw']
        refine iteT ?_
        rw [if_neg hw] at hbrk
        refine ⟨_, rfl, z, rfl, by omega, ?_⟩
        have ez : V.int ((z.length : Nat) : Int) = V.int ((cs.length : Nat) : Int) := by rw [hzl]
        rw [ez]
        refine ⟨by simp, raise_nt M.T.O M.T.pl (by omega) fun d H' sH hd => ?_⟩
        exact ke cs.length hbrk.symm (by omega) d H' (s1.trans sH) hd
end
end Js

set_option Elab.async false
set_option linter.all false
set_option maxRecDepth 100000
set_option maxHeartbeats 2000000
namespace Js
open PySem L2
abbrev sBrk : Stmt := top 23
def vOf : Option Nat → V
  | none => .non
  | some p => .int (p : Nat)
def vN (n : Nat) : V := .int (n : Nat)
def spBrk : Sp := fun vs H Q _ => ∃ z : Str, vs = [.str z] ∧ z.length ≤ 100000 ∧ ∀ H', Same H H' → Q (vOf (brk z.cps.toList 0 [1] 0)) H'
section
variable {P : Program} {w : World} {K : PySem.W.Frag} {mg : Str → Option Value} {base : Heap} {C fI : Addr} {fdI : FuncData}
theorem scBk : FnScope ["_law_text_here", "_law_wants", "_law_opened", "_law_place", "_law_sign"] ["_law_text_here"] (defScope sBrk) := ⟨rfl, rfl, rfl, by decide +kernel, rfl, by decide +kernel, by decide +kernel⟩
theorem sgn_eq (c d : Nat) : decide (V.str ⟨#[c]⟩ = V.str ⟨#[d]⟩) = decide (c = d) := by
  apply decide_eq_decide.mpr
  constructor
  · intro h
    have h2 := V.str.inj h
    have h3 := Str.mk.inj h2
    simpa using h3
  · rintro rfl
    rfl
theorem c40 : (("(" : Str)) = ⟨#[40]⟩ := by decide +kernel
theorem c41 : ((")" : Str)) = ⟨#[41]⟩ := by decide +kernel
theorem c46 : (("." : Str)) = ⟨#[46]⟩ := by decide +kernel
theorem in_two (c : Nat) : inV (V.str ⟨#[c]⟩) [V.str ".", V.str "("] = (decide (c = 46) || decide (c = 40)) := by
  rw [c46, c40]
  by_cases h1 : c = 46
  · subst h1; decide +kernel
  · by_cases h2 : c = 40
    · subst h2; decide +kernel
    · have e1 : ¬ (46 = c) := fun z => h1 z.symm
      have e2 : ¬ (40 = c) := fun z => h2 z.symm
      simp [inV, eqV, h1, h2, e1, e2]
def dN (n : Nat) : PyData := .int (n : Nat)
theorem dp_ns (H : Hp) : ∀ ns : List Nat, DpAll K H (ns.map vN) (ns.map dN)
  | [] => .nil
  | n :: ns => .cons (.int _) (dp_ns H ns)
theorem lay_ns : ∀ ns : List Nat, PyData.canLayAll0 (ns.map dN) = true
  | [] => rfl
  | n :: ns => by
    show (true && PyData.canLayAll0 (ns.map dN)) = true
    rw [lay_ns ns]
    rfl
theorem dep_ns : ∀ ns : List Nat, PyData.depthAll (ns.map dN) = 0
  | [] => rfl
  | n :: ns => by
    show max 0 (PyData.depthAll (ns.map dN)) = 0
    rw [dep_ns ns]
    rfl
theorem shaped_ns (ns : List Nat) : SeqAt.shaped (.list (ns.map dN)) = true := by
  show (PyData.canLayAll0 (ns.map dN) && decide (PyData.depthAll (ns.map dN) + 1 ≤ 64)) = true
  rw [lay_ns, dep_ns]
  rfl
theorem eqv_zero : ∀ ns : List Nat, PyData.eqv (.list (ns.map dN)) (.list [.int 0]) = decide (ns = [0])
  | [] => rfl
  | [n] => by
    show ((((n : Nat) : Int) == 0) && true) = decide ([n] = [0])
    rw [Bool.and_true]
    by_cases h : n = 0
    · subst h; rfl
    · have : ¬ (((n : Nat) : Int) = 0) := by omega
      simp [h, this]
  | n :: m :: r => by
    show ((((n : Nat) : Int) == 0) && false) = decide (n :: m :: r = [0])
    simp
theorem set_last {α : Type} (R : List α) (x v : α) : (R ++ [x]).set R.length v = R ++ [v] := by simp
theorem ix_last {α : Type} (R : List α) (x : α) : ixN (R ++ [x]).length (-1) = some R.length := by
  unfold ixN
  rw [List.length_append, List.length_singleton, if_neg (by decide), if_pos (by omega)]
  congr 1
  omega
theorem atI_lastN (W : List Nat) (w : Nat) : atI ((W.map vN).reverse ++ [vN w]) (-1) = some (vN w) := by
  unfold atI
  rw [ix_last, Option.bind_some, List.getElem?_append_right (Nat.le_refl _), Nat.sub_self]
  rfl
theorem ok_brk {f : Addr} {fd : FuncData} (F : Fun K "_law_breaks" "_law_breaks" sBrk f fd) (B : Blt mg) : FnOk P w K mg base CX0 1 f fd ["_law_text_here"] spBrk := by
  refine F.ok scBk (fun vs H Q E h => ?_) (fun cdv A outer s H vs Q E hr h => ?_)
  · obtain ⟨z, rfl, _⟩ := h
    rfl
  · obtain ⟨z, rfl, hz, k⟩ := h
    have hun : (A.deeper (PyProof.Rows.envOfC "_law_breaks" (defScope sBrk) s.heap.objs.size f cdv)).units + 64 < cLine := by
      have := hr.un
      omega
    refine ⟨_, pss_cons (ps_par (i := 1) (j := 2) (by rfl) scBk.nd rfl rfl (by decide) rfl rfl (pa_cons (pe_lst (pa_cons pe_int pa_nil)) (pa_cons pe_int pa_nil)) (by rfl)) (pss_cons (ps_for PassesOwn.never rfl (pi_range1 rfl B.range (pa_cons (pe_callB call_len_str (by rfl) B.len PySem.boot_len (pa_cons (pv 0) pa_nil)) pa_nil)) (pg_name (i := 3) scBk.nd rfl (Or.inl rfl)) (pss_cons (ps_set (i := 4) scBk.nd rfl (Or.inl rfl) (pe_ix ix_str (pv 0) (pv 3) (fun _ _ => rfl))) (pss_one (ps_if (PW.pt (pw_and (pt_cmpR op_eq (pv 4) pe_str (nomark _)) (pw_and (pt_cmpR op_gt (pe_callB call_len_seq (by rfl) B.len PySem.boot_len (pa_cons (pv 1) pa_nil)) pe_int (nomark _)) (pw_and1 (pt_cmpR op_eq (pe_ix ix_list (pv 1) (pe_un un_neg pe_int) (fun _ _ => rfl)) pe_int (nomark _)))))) (pss_one (ps_expr (pe_bm0 PySem.F.plainAttrs_list PySem.F.slot_list_pop PySem.F.type_list_pop mt_pop (pv 1)))) (pss_one (ps_if (PW.pt (pw_and (pt_cmpR op_in_seq (pv 4) (pe_tup (pa_cons pe_str (pa_cons pe_str pa_nil))) rfl) (pw_and (pt_cmpR op_gt (pe_ix ix_list (pv 1) (pe_un un_neg pe_int) (fun _ _ => rfl)) pe_int (nomark _)) (pw_and1 (PW.pt (pw_or (pt_cmpR op_eq (pv 4) pe_str (nomark _)) (pw_or1 (pt_cmpR op_lt (pv 2) pe_int (nomark _))))))))) (pss_cons (ps_asg (pe_op op_sub (pe_ix ix_list (pv 1) (pe_un un_neg pe_int) (fun _ _ => rfl)) pe_int) (pg_sub (pv 1) (pe_un un_neg pe_int) set_list)) (pss_one (ps_if (pt_cmpR op_eq (pv 4) pe_str (nomark _)) (pss_cons (ps_set (i := 2) scBk.nd rfl (Or.inl rfl) (pe_op op_add (pv 2) pe_int)) (pss_one (ps_expr (pe_bm PySem.F.plainAttrs_list PySem.F.slot_list_append PySem.F.type_list_append mt_append (pv 1) (pa_cons pe_int pa_nil))))) pss_nil))) (pss_one (ps_ret (pv 3))))))))) (pss_one (ps_ret (pe_ix ix_list (pe_lst (pa_cons (pe_callB call_len_str (by rfl) B.len PySem.boot_len (pa_cons (pv 0) pa_nil)) (pa_cons pe_non pa_nil))) (pe_callTy call_int1 (by rfl) B.int PyProof.Rows.boot_int (pa_cons (pe_cmpR (op_eqD hun) (pv 1) (pe_lst (pa_cons pe_int pa_nil)) (nomark _)) pa_nil)) (fun _ _ => rfl))))), ?_⟩
    have hsl := line4
    obtain ⟨cs, hcs⟩ : ∃ cs, z.cps.toList = cs := ⟨_, rfl⟩
    have hn : z.cps.size = cs.length := by rw [← hcs, Array.length_toList]
    have hzl : z.length = cs.length := hn
    rw [hcs] at k
    refine ⟨by show 1 ≤ sizeLine; decide, fun WA nWA => ?_⟩
    refine ⟨_, _, rfl, ?_⟩
    refine ⟨_, rfl, z, rfl, by omega, ?_⟩
    refine ⟨((z.length : Nat) : Int), rfl, by omega, by omega, for_range (n := ((z.length : Nat) : Int).toNat) (fun i σ H' => ∃ (x3 x4 : Option V) (w : Nat) (W : List Nat) (o : Nat), σ = [some (.str z), some (.ref WA), some (.int (o : Nat)), x3, x4] ∧ Same H H' ∧ H' WA = some (.lst ((W.map vN).reverse ++ [vN w])) ∧ W.length ≤ o ∧ o ≤ 4000 ∧ brk (cs.drop i) i (w :: W) o = brk cs 0 [1] 0)
      ⟨none, none, 1, [], 0, rfl, Same.new nWA, upd_same, by simp, by decide, rfl⟩ ?_ ?_⟩
    · rintro i σ H1 hi ⟨x3, x4, w, W, o, rfl, s1, hW, hl, ho, hbrk⟩
      rw [Int.toNat_natCast, hzl] at hi
      rw [Int.zero_add]
      obtain ⟨c, hc⟩ : ∃ c, cs[i]? = some c := ⟨_, List.getElem?_eq_getElem hi⟩
      have hdr : cs.drop i = c :: cs.drop (i + 1) := by
        rw [List.drop_eq_getElem_cons hi]
        rw [List.getElem?_eq_getElem hi] at hc
        rw [Option.some.inj hc]
      rw [hdr] at hbrk
      refine ⟨_, rfl, _, rfl, z, _, c, rfl, rfl, by omega, by rw [hcs]; exact atI_nat hc, ?_⟩
      refine ⟨_, rfl, rfl, _, rfl, ?_⟩
      rw [c41, sgn_eq]
      by_cases h41 : c = 41
      · subst h41
        refine iteT ?_
        refine ⟨_, rfl, WA, _, rfl, .inl (SqL.of hW), _, _, rfl, rfl, _, rfl, ?_⟩
        simp only [brk, if_true] at hbrk
        by_cases hW1 : W = []
        · subst hW1
          refine iteF ?_
          refine iteF ?_
          refine ⟨_, rfl, by show 2 ≤ sizeLine; decide, fun p np => ⟨p, _, rfl, .inr (SqT.of upd_same), rfl, by decide +kernel, _, rfl, ?_⟩⟩
          rw [if_neg Bool.false_ne_true, in_two]
          refine iteF ?_
          refine iteF ?_
          refine ⟨_, rfl, ?_⟩
          have e := k (upd H1 p (.tup [.str ".", .str "("])) (s1.trans (Same.new np))
          rw [← hbrk] at e
          exact e
        · have hlw : (1 : Int) < ((((W.map vN).reverse ++ [vN w]).length : Nat) : Int) := by
            have : 0 < W.length := List.length_pos_iff.mpr hW1
            simp only [List.length_append, List.length_reverse, List.length_map, List.length_singleton]
            omega
          rw [decide_eq_true hlw]
          refine iteT ?_
          refine ⟨_, rfl, _, rfl, WA, _, _, _, rfl, rfl, SqL.of hW, atI_lastN W w, rfl, _, rfl, ?_⟩
          have ew : decide (vN w = V.int 0) = decide (w = 0) := by
            apply decide_eq_decide.mpr
            simp only [vN, V.int.injEq]
            omega
          rw [ew]
          by_cases hw0 : w = 0
          · rw [decide_eq_true hw0]
            refine iteT ?_
            rw [if_pos ⟨hW1, hw0⟩] at hbrk
            obtain ⟨w', W', rfl⟩ : ∃ w' W', W = w' :: W' := List.exists_cons_of_ne_nil hW1
            refine ⟨_, rfl, .inl ⟨rfl, _, SqL.of hW⟩, WA, _, vN w, rfl, rfl, hW, ?_, ?_⟩
            · rw [List.length_append, List.length_singleton, Nat.add_sub_cancel, List.getElem?_append_right (Nat.le_refl _), Nat.sub_self]
              rfl
            · rw [List.dropLast_concat]
              refine ⟨_, _, w', W', o, rfl, s1.set nWA, ?_, by simp at hl; omega, ho, hbrk⟩
              rw [upd_same, List.map_cons, List.reverse_cons]
          · rw [decide_eq_false hw0]
            refine iteF ?_
            rw [if_neg (fun z => hw0 z.2)] at hbrk
            refine ⟨_, rfl, by show 2 ≤ sizeLine; decide, fun p np => ⟨p, _, rfl, .inr (SqT.of upd_same), rfl, by decide +kernel, _, rfl, ?_⟩⟩
            rw [if_neg Bool.false_ne_true, in_two]
            refine iteF ?_
            refine iteF ?_
            refine ⟨_, rfl, ?_⟩
            have e := k (upd H1 p (.tup [.str ".", .str "("])) (s1.trans (Same.new np))
            rw [← hbrk] at e
            exact e
      · rw [decide_eq_false h41]
        refine iteF ?_
        refine iteF ?_
        simp only [brk, if_neg h41] at hbrk
        refine ⟨_, rfl, by show 2 ≤ sizeLine; decide, fun p np => ⟨p, _, rfl, .inr (SqT.of upd_same), rfl, by decide +kernel, _, rfl, ?_⟩⟩
        rw [if_neg Bool.false_ne_true, in_two]
        have nWp : WA ≠ p := ne_of_none hW np
        have hWp : (upd H1 p (.tup [.str ".", .str "("])) WA = some (.lst ((W.map vN).reverse ++ [vN w])) := (upd_ne nWp).trans hW
        have sp : Same H (upd H1 p (.tup [.str ".", .str "("])) := s1.trans (Same.new np)
        revert hWp sp
        generalize upd H1 p (.tup [.str ".", .str "("]) = H2
        intro hWp sp
        have hfail : brk cs 0 [1] 0 = some i → Q (.int (i : Nat)) H2 := fun z => by
          have e := k H2 sp
          rw [z] at e
          exact e
        have hlen : ((W.map vN).reverse).length = W.length := by rw [List.length_reverse, List.length_map]
        by_cases hcc : c = 46 ∨ c = 40
        · have ec : (decide (c = 46) || decide (c = 40)) = true := by
            rcases hcc with h | h <;> simp [h]
          rw [ec]
          refine iteT ?_
          refine ⟨_, rfl, _, rfl, WA, _, _, _, rfl, rfl, SqL.of hWp, atI_lastN W w, _, _, rfl, rfl, _, rfl, ?_⟩
          by_cases hw0 : 0 < w
          · have ew : decide ((0 : Int) < ((w : Nat) : Int)) = true := decide_eq_true (by omega)
            rw [ew]
            refine iteT ?_
            have ev : V.int (((w : Nat) : Int) - 1) = vN (w - 1) := by
              show _ = V.int _
              congr 1
              omega
            have e5 : ((W.map vN).reverse ++ [vN w]).set (W.map vN).reverse.length (V.int (((w : Nat) : Int) - 1)) = (W.map vN).reverse ++ [vN (w - 1)] := by rw [set_last, ev]
            have h5 : (upd H2 WA (.lst (((W.map vN).reverse ++ [vN w]).set (W.map vN).reverse.length (V.int (((w : Nat) : Int) - 1))))) WA = some (.lst ((W.map vN).reverse ++ [vN (w - 1)])) := by rw [upd_same, e5]
            refine ⟨_, rfl, rfl, _, rfl, ?_⟩
            rw [c46, sgn_eq]
            by_cases h46 : c = 46
            · subst h46
              refine iteT ?_
              refine iteT ?_
              rw [if_pos rfl, if_pos hw0] at hbrk
              refine ⟨_, rfl, _, rfl, WA, _, _, _, rfl, rfl, SqL.of hWp, atI_lastN W w, _, _, rfl, rfl, ?_⟩
              refine ⟨_, rfl, _, rfl, WA, _, _, _, rfl, rfl, hWp, ix_last _ _, ?_⟩
              skip
              refine ⟨_, rfl, rfl, _, rfl, ?_⟩
              rw [c40, sgn_eq]
              refine iteF ?_
              exact ⟨_, _, w - 1, W, o, rfl, sp.set nWA, h5, hl, ho, hbrk⟩
            · rw [decide_eq_false h46]
              refine iteF ?_
              have h40 : c = 40 := hcc.resolve_left h46
              subst h40
              rw [if_neg h46, if_pos rfl] at hbrk
              refine ⟨_, rfl, _, _, rfl, rfl, _, rfl, ?_⟩
              by_cases h4 : o < 4000
              · have eo : decide (((o : Nat) : Int) < 4000) = true := decide_eq_true (by omega)
                rw [eo]
                refine iteT ?_
                rw [if_pos ⟨hw0, h4⟩] at hbrk
                refine ⟨_, rfl, _, rfl, WA, _, _, _, rfl, rfl, SqL.of hWp, atI_lastN W w, _, _, rfl, rfl, ?_⟩
                refine ⟨_, rfl, _, rfl, WA, _, _, _, rfl, rfl, hWp, ix_last _ _, ?_⟩
                skip
                refine ⟨_, rfl, rfl, _, rfl, ?_⟩
                rw [c40, sgn_eq]
                refine iteT ?_
                refine ⟨_, rfl, _, _, rfl, rfl, ?_⟩
                refine ⟨_, rfl, .inl ⟨rfl, _, SqL.of h5⟩, WA, _, _, rfl, rfl, h5, by rw [List.length_append, hlen, List.length_singleton]; omega, ?_⟩
                refine ⟨some (.int (i : Nat)), some (.str ⟨#[40]⟩), 2, (w - 1) :: W, o + 1, by simp, (sp.set nWA).set nWA, ?_, by simp; omega, by omega, hbrk⟩
                rw [upd_same, List.map_cons, List.reverse_cons]
                rfl
              · have eo : decide (((o : Nat) : Int) < 4000) = false := decide_eq_false (by omega)
                rw [eo]
                refine iteF ?_
                rw [if_neg (fun z => h4 z.2)] at hbrk
                exact ⟨_, rfl, hfail hbrk.symm⟩
          · have ew : decide ((0 : Int) < ((w : Nat) : Int)) = false := decide_eq_false (by omega)
            rw [ew]
            refine iteF ?_
            refine iteF ?_
            have e : brk cs 0 [1] 0 = some i := by
              rw [← hbrk]
              rcases hcc with h | h
              · rw [if_pos h, if_neg hw0]
              · rw [if_neg (by omega), if_pos h, if_neg (fun z => hw0 z.1)]
            exact ⟨_, rfl, hfail e⟩
        · have ec : (decide (c = 46) || decide (c = 40)) = false := by
            simp only [not_or] at hcc
            simp [hcc.1, hcc.2]
          rw [ec]
          refine iteF ?_
          refine iteF ?_
          simp only [not_or] at hcc
          rw [if_neg hcc.1, if_neg hcc.2] at hbrk
          exact ⟨_, rfl, hfail hbrk.symm⟩
    · rintro σ H1 ⟨x3, x4, w, W, o, rfl, s1, hW, hl, ho, hbrk⟩
      rw [Int.toNat_natCast, hzl, List.drop_length] at hbrk
      have hW2 : H1 WA = some (.lst ((W.reverse ++ [w]).map vN)) := by
        rw [hW]
        simp
      refine ⟨_, rfl, z, rfl, by omega, by show 2 ≤ sizeLine; decide, fun pl npl => ?_⟩
      refine ⟨_, rfl, by show 1 ≤ sizeLine; decide, fun q nq => ?_⟩
      have hpl1 : (upd H1 pl (.lst [.int ((z.length : Nat) : Int), .non])) pl = some (.lst [.int ((z.length : Nat) : Int), .non]) := upd_same
      have sq : Same H1 (upd (upd H1 pl (.lst [.int ((z.length : Nat) : Int), .non])) q (.lst [.int 0])) := (Same.new npl).trans (Same.new nq)
      have hpl : (upd (upd H1 pl (.lst [.int ((z.length : Nat) : Int), .non])) q (.lst [.int 0])) pl = some (.lst [.int ((z.length : Nat) : Int), .non]) := Same.new nq _ _ hpl1
      refine ⟨_, _, .lst (SqL.of (sq _ _ hW2)) (dp_ns _ _), .lst (SqL.of upd_same) (.cons (.int 0) .nil), shaped_ns _, by decide +kernel, ?_⟩
      rw [eqv_zero]
      have hfin := k _ (s1.trans sq)
      rw [← hbrk] at hfin
      simp only [brk] at hfin
      by_cases h0 : w :: W = [0]
      · obtain ⟨rfl, rfl⟩ : w = 0 ∧ W = [] := by simpa using h0
        rw [if_pos rfl] at hfin
        refine .inr ⟨_, rfl, pl, _, _, V.non, rfl, rfl, SqL.of hpl, rfl, hfin⟩
      · have h1 : ¬ (W.reverse ++ [w] = [0]) := fun z => h0 (by
          have e := congrArg List.reverse z
          simpa using e)
        rw [if_neg h0] at hfin
        rw [decide_eq_false h1]
        refine .inr ⟨_, rfl, pl, _, _, V.int ((z.length : Nat) : Int), rfl, rfl, SqL.of hpl, rfl, ?_⟩
        rw [← hzl] at hfin
        exact hfin
end
end Js

set_option Elab.async false
set_option linter.all false
set_option maxRecDepth 100000
set_option maxHeartbeats 2000000
namespace Js
open PySem L2
abbrev sSpo : Stmt := top 24
def spSpo : Sp := fun vs H Q _ => ∃ (p : Addr) (z : Str), vs = [.ref p, .str z] ∧ BagOk H p ∧ z.length ≤ 5000 ∧ ∀ (z' : Str) H', KB p H H' → BagOk H' p → z'.length ≤ 2 * z.length + 1 → Q (.str z') H'
theorem cut_le (z : Str) (lo hi : Option Int) : (cutS z lo hi).length ≤ z.length := by
  unfold cutS
  show (List.toArray _).size ≤ _
  rw [List.size_toArray, List.length_take, List.length_drop]
  have e : z.cps.toList.length = z.length := Array.length_toList
  omega
theorem five_at (d : Int) (h0 : 0 ≤ d) (h1 : d < 5) (a b c e f : V) : ∃ x, atI [a, b, c, e, f] d = some x ∧ (x = a ∨ x = b ∨ x = c ∨ x = e ∨ x = f) := by
  obtain ⟨n, rfl⟩ := Int.eq_ofNat_of_zero_le h0
  match n, h1 with
  | 0, _ => exact ⟨a, rfl, .inl rfl⟩
  | 1, _ => exact ⟨b, rfl, .inr (.inl rfl)⟩
  | 2, _ => exact ⟨c, rfl, .inr (.inr (.inl rfl))⟩
  | 3, _ => exact ⟨e, rfl, .inr (.inr (.inr (.inl rfl)))⟩
  | 4, _ => exact ⟨f, rfl, .inr (.inr (.inr (.inr rfl)))⟩
  | n + 5, h => exact absurd h (by omega)
theorem ten_at (d : Int) (h0 : 0 ≤ d) (h1 : d < 10) : ∃ c, atI ((".()?,[ a0]" : Str)).cps.toList d = some c := by
  obtain ⟨n, rfl⟩ := Int.eq_ofNat_of_zero_le h0
  have hl : n < ((".()?,[ a0]" : Str)).cps.toList.length := by
    have e : ((".()?,[ a0]" : Str)).cps.toList.length = 10 := by decide +kernel
    omega
  exact ⟨_, atI_nat (List.getElem?_eq_getElem hl)⟩
section
variable {P : Program} {w : World} {K : PySem.W.Frag} {mg : Str → Option Value} {base : Heap}
theorem scSp : FnScope ["_law_bag_here", "_law_text_here", "_law_at", "_law_sign", "_law_way"] ["_law_bag_here", "_law_text_here"] (defScope sSpo) := ⟨rfl, rfl, rfl, by decide +kernel, rfl, by decide +kernel, by decide +kernel⟩
theorem ok_spo {f : Addr} {fd : FuncData} (F : Fun K "_law_spoilt" "_law_spoilt" sSpo f fd) (B : Blt mg) (DT : Def P w K mg base "_law_take" 1 ["_law_bag_here", "_law_many"] spTake) : FnOk P w K mg base CX0 2 f fd ["_law_bag_here", "_law_text_here"] spSpo := by
  refine F.ok scSp (fun vs H Q E h => ?_) (fun cdv A outer s H vs Q E hr1 h => ?_)
  · obtain ⟨p, z, rfl, _⟩ := h
    rfl
  · obtain ⟨p, z, rfl, hbag, hz, k⟩ := h
    refine ⟨_, pss_cons (ps_set (i := 2) scSp.nd rfl (Or.inl rfl) (pe_def DT hr1 rfl (pa_cons (pv 0) (pa_cons (pe_op op_add (pe_callB call_len_str (by rfl) B.len PySem.boot_len (pa_cons (pv 1) pa_nil)) pe_int) pa_nil)))) (pss_cons (ps_set (i := 3) scSp.nd rfl (Or.inl rfl) (pe_ix ix_str pe_str (pe_def DT hr1 rfl (pa_cons (pv 0) (pa_cons pe_int pa_nil))) (fun _ _ => rfl))) (pss_cons (ps_set (i := 4) scSp.nd rfl (Or.inl rfl) (pe_def DT hr1 rfl (pa_cons (pv 0) (pa_cons pe_int pa_nil)))) (pss_one (ps_ret (pe_ix ix_list (pe_lst (pa_cons (pe_op op_add_str (pe_op op_add_str (pe_slice sl_str (pv 1) po_none (po_some (pv 2))) (pv 3)) (pe_slice sl_str (pv 1) (po_some (pv 2)) po_none)) (pa_cons (pe_op op_add_str (pe_slice sl_str (pv 1) po_none (po_some (pv 2))) (pe_slice sl_str (pv 1) (po_some (pe_op op_add (pv 2) pe_int)) po_none)) (pa_cons (pe_op op_add_str (pe_op op_add_str (pe_slice sl_str (pv 1) po_none (po_some (pv 2))) (pv 3)) (pe_slice sl_str (pv 1) (po_some (pe_op op_add (pv 2) pe_int)) po_none)) (pa_cons (pe_slice sl_str (pv 1) po_none (po_some (pv 2))) (pa_cons (pe_op op_add_str (pe_slice sl_str (pv 1) po_none (po_some (pv 2))) (pv 1)) pa_nil)))))) (pv 4) (fun _ _ => rfl)))))), ?_⟩
    have hsl := line4
    refine ⟨_, rfl, _, rfl, z, rfl, by omega, _, _, rfl, rfl, p, _, rfl, hbag, by omega, by omega, fun d1 H1 k1 hbag1 h10 h11 => ?_⟩
    refine ⟨_, rfl, p, 10, rfl, hbag1, by decide, by decide, fun d2 H2 k2 hbag2 h20 h21 => ?_⟩
    obtain ⟨c, hc⟩ := ten_at d2 h20 h21
    refine ⟨_, _, c, rfl, rfl, by decide +kernel, hc, ?_⟩
    refine ⟨_, rfl, p, 5, rfl, hbag2, by decide, by decide, fun d3 H3 k3 hbag3 h30 h31 => ?_⟩
    have c1 := cut_le z none (some d1)
    have c2 := cut_le z (some d1) none
    have c3 := cut_le z (some (d1 + 1)) none
    have cc : (⟨#[c]⟩ : Str).length = 1 := rfl
    refine ⟨_, rfl, _, rfl, _, rfl, z, rfl, by omega, _, rfl, _, _, rfl, rfl, by omega, _, rfl, _, rfl, _, rfl, z, rfl, by omega, _, _, rfl, rfl, by rw [Str.length_append]; omega, ?_⟩
    refine ⟨_, rfl, _, rfl, _, rfl, z, rfl, by omega, _, rfl, _, rfl, _, _, rfl, rfl, _, rfl, z, rfl, by omega, _, _, rfl, rfl, by omega, ?_⟩
    refine ⟨_, rfl, _, rfl, _, rfl, z, rfl, by omega, _, rfl, _, _, rfl, rfl, by omega, _, rfl, _, rfl, _, _, rfl, rfl, _, rfl, z, rfl, by omega, _, _, rfl, rfl, by rw [Str.length_append]; omega, ?_⟩
    refine ⟨_, rfl, _, rfl, _, rfl, z, rfl, by omega, ?_⟩
    refine ⟨_, rfl, _, rfl, _, rfl, z, rfl, by omega, _, rfl, _, _, rfl, rfl, by omega, by show 5 ≤ sizeLine; decide, fun pl npl => ?_⟩
    obtain ⟨x, hx, hcase⟩ := five_at d3 h30 h31 (.str (cutS z none (some d1) ++ ⟨#[c]⟩ ++ cutS z (some d1) none)) (.str (cutS z none (some d1) ++ cutS z (some (d1 + 1)) none)) (.str (cutS z none (some d1) ++ ⟨#[c]⟩ ++ cutS z (some (d1 + 1)) none)) (.str (cutS z none (some d1))) (.str (cutS z none (some d1) ++ z))
    refine ⟨_, rfl, pl, _, _, x, rfl, rfl, SqL.of upd_same, hx, ?_⟩
    have kk : ∀ o, KB p H (upd H3 pl o) := fun o => ((k1.trans k2).trans k3).trans (KB.of (Same.new npl))
    have hb' : ∀ o, BagOk (upd H3 pl o) p := fun o => hbag3.same (Same.new npl)
    rcases hcase with rfl | rfl | rfl | rfl | rfl
    · exact k _ _ (kk _) (hb' _) (by rw [Str.length_append, Str.length_append]; omega)
    · exact k _ _ (kk _) (hb' _) (by rw [Str.length_append]; omega)
    · exact k _ _ (kk _) (hb' _) (by rw [Str.length_append, Str.length_append]; omega)
    · exact k _ _ (kk _) (hb' _) (by omega)
    · exact k _ _ (kk _) (hb' _) (by rw [Str.length_append]; omega)
end
end Js

set_option Elab.async false
set_option linter.all false
set_option maxRecDepth 100000
set_option maxHeartbeats 2000000
namespace Js
open PySem L2
abbrev sGood : Stmt := top 25
/-- what the top says of NoText and the other refusals -/
structure GdC (K : PySem.W.Frag) (mg : Str → Option Value) (N : Addr) : Prop where
  nt : NtC K mg N
  xf : XfC K N
  xc : XcC K N
  ex : PySem.W.exmOne K (.ref N) (.ref N) = some true
  mb : mg "bool" = none
  ve : PySem.W.kitOne K (.ref N) (.type "ValueError") = some true
  ib : PySem.W.kitOne K (.type "int") (.type "bool") = some false
  oth : ∃ n1 n2 n3 n4 n5 n6 : Addr, mg "NoName" = some (.ref n1) ∧ mg "NoProgram" = some (.ref n2) ∧ mg "NoRoom" = some (.ref n3) ∧ mg "NoSaying" = some (.ref n4) ∧ mg "NoStep" = some (.ref n5) ∧ mg "TooGreat" = some (.ref n6) ∧
    PySem.W.kitAny K (.ref N) [.ref n1, .ref n2, .ref n3, .ref n4, .ref n5, .ref n6] = some false
def spGood : Sp := fun vs H Q _ => ∃ z : Str, vs = [.str z] ∧ z.length ≤ 50000 ∧ ∀ H', Same H H' → Q (.bl true) H'
section
variable {P : Program} {w : World} {K : PySem.W.Frag} {mg : Str → Option Value} {base : Heap} {C N fR : Addr} {fdR : FuncData}
theorem scG : FnScope ["_law_text_here", "_law_due", "_law_found", "e", "_law_other"] ["_law_text_here"] (defScope sGood) := ⟨rfl, rfl, rfl, by decide +kernel, rfl, by decide +kernel, by decide +kernel⟩
theorem ok_good {f : Addr} {fd : FuncData} (F : Fun K "_law_good" "_law_good" sGood f fd) (B : Blt mg) (T : Txt K mg C) (SS : Spc P w K mg base C "__str__" 2 ["self"] (spStr C)) (DB : Def P w K mg base "_law_breaks" 1 ["_law_text_here"] spBrk)
    (GR : FnOk P w K mg base (L2.CX P w) 4 fR fdR ["text"] (spRead4 C N)) (mR : mg "read_thing" = some (.ref fR)) (kR : PySem.W.keepIn K (.ref fR) = true) (bR : Binds K fdR ["text"] []) (G : GdC K mg N) : FnOk P w K mg base CX0 5 f fd ["_law_text_here"] spGood := by
  obtain ⟨n1, n2, n3, n4, n5, n6, m1, m2, m3, m4, m5, m6, kA⟩ := G.oth
  refine F.ok scG (fun vs H Q E h => ?_) (fun cdv A outer s H vs Q E hr h => ?_)
  · obtain ⟨z, rfl, _⟩ := h
    rfl
  · obtain ⟨z, rfl, hz, k⟩ := h
    have hr1 : Room 1 _ := hr.mono (by decide)
    refine ⟨_, pss_cons (ps_set (i := 1) scG.nd rfl (Or.inl rfl) (pe_def DB hr1 rfl (pa_cons (pv 0) pa_nil))) (pss_cons (ps_try_as (i := 3) (tb := fun W => tAsg (tCallS (spRead4 C N) (WE W) (tCons (tVar 0) tNil)) (gName 2)) (Wout := fun _ _ _ _ => False) rfl rfl scG.nd rfl rfl ⟨rfl, by decide, Or.inl G.nt.mgN⟩ takes0 (fun W pn xe tk _ => (pss_one (ps_set (i := 2) scG.nd rfl (Or.inl rfl) (by exact (pe_callS GR hr rfl mR kR bR (fun σ => passAt tk σ) (by exact (pa_cons (pv 0) pa_nil))))))) (fun a oe cls d pn hz hf => (pss_cons (ps_set (i := 4) scG.nd rfl (Or.inl rfl) (pe_callB (call_isXt G.xc hz hf) (by rfl) T.isi PyProof.Rows.boot_isinstance (pa_cons (pv 3) (pa_cons (pe_tup (pa_cons (pe_glob (v := .ref n1) rfl m1 rfl) (pa_cons (pe_glob (v := .ref n2) rfl m2 rfl) (pa_cons (pe_glob (v := .ref n3) rfl m3 rfl) (pa_cons (pe_glob (v := .ref n4) rfl m4 rfl) (pa_cons (pe_glob (v := .ref n5) rfl m5 rfl) (pa_cons (pe_glob (v := .ref n6) rfl m6 rfl) pa_nil))))))) pa_nil)))) (pss_one (ps_ret (pe_and (pe_cmpR op_eq (pe_xf G.xf G.nt.pl hz hf (pv 3)) (pv 1) (nomark _)) (pe_and (pe_not (pe_callB (r := rIsi K) call_isi (by rfl) T.isi PyProof.Rows.boot_isinstance (pa_cons (pe_xf G.xf G.nt.pl hz hf (pv 3)) (pa_cons (pe_bltn (v := .ty "bool") rfl G.mb PyProof.Rows.boot_bool rfl) pa_nil)))) (pe_and (pe_callB (call_isX G.xc hz hf) (by rfl) T.isi PyProof.Rows.boot_isinstance (pa_cons (pv 3) (pa_cons (pe_bltn (v := .ty "ValueError") rfl G.nt.mVE PyProof.Rows.Boot.«ValueError» rfl) pa_nil))) (pe_one (pe_not (pv 4))))))))))) (pss_one (ps_ret (pe_and (pe_cmpR op_isN (pv 1) pe_non (nomark _)) (pe_one (pe_cmpR op_eq (pe_callTy (call_strT SS hr) (by rfl) B.str PyProof.Rows.boot_str (pa_cons (pv 2) pa_nil)) (pv 0) (nomark _))))))), ?_⟩
    have hsl := line4
    refine ⟨_, rfl, z, rfl, by omega, fun H1 s1 => ?_⟩
    refine ⟨_, rfl, z, rfl, by omega, fun hb t a H' et hts s2 ha => ?_, fun pl hb hpl d H' s2 hd => ?_⟩
    · refine ⟨_, rfl, rfl, _, rfl, ?_⟩
      rw [hb]
      refine iteT ?_
      refine ⟨_, rfl, a, t, rfl, ha, hts, fun H3 s3 => ?_⟩
      refine ⟨_, rfl, rfl, ?_⟩
      rw [et]
      have e : decide (V.str z = V.str z) = true := decide_eq_true rfl
      show Q (.bl (decide (V.str z = V.str z))) H3
      rw [e]
      exact k H3 ((s1.trans s2).trans s3)
    · refine ⟨true, G.ex, fun _ a0 _ => ?_, fun q => Bool.noConfusion q⟩
      refine ⟨_, rfl, by show 6 ≤ sizeLine; decide, fun tp ntp => ?_⟩
      have st : Same H' (upd H' tp (.tup [.ref n1, .ref n2, .ref n3, .ref n4, .ref n5, .ref n6])) := Same.new ntp
      have hd' := st _ _ hd
      refine ⟨tp, _, _, false, d, _, rfl, upd_same, .cons (.own _) (.cons (.own _) (.cons (.own _) (.cons (.own _) (.cons (.own _) (.cons (.own _) .nil))))), rfl, rfl, hd', kA, ?_⟩
      refine ⟨_, rfl, rfl, rfl, d, _, .int (pl : Nat), rfl, hd', rfl, _, rfl, ?_⟩
      rw [hb]
      refine ⟨rfl, _, rfl, ?_⟩
      have e : decide (V.int ((pl : Nat) : Int) = vOf (some pl)) = true := decide_eq_true rfl
      rw [e]
      refine iteT ?_
      refine ⟨_, rfl, rfl, rfl, d, _, .int (pl : Nat), rfl, hd', rfl, _, _, _, _, false, rfl, .ty "bool", .base (.int _), G.ib, _, rfl, _, rfl, ?_⟩
      refine iteT ?_
      refine ⟨_, rfl, _, _, true, d, _, rfl, .ty "ValueError", rfl, rfl, hd', G.ve, _, rfl, ?_⟩
      refine iteT ?_
      refine ⟨_, rfl, _, rfl, ?_⟩
      exact k _ ((s1.trans s2).trans st)
end
end Js

set_option Elab.async false
set_option linter.all false
set_option maxRecDepth 100000
set_option maxHeartbeats 2000000
namespace Js
open PySem L2
abbrev sText : Stmt := top 22
section
variable {P : Program} {w : World} {K : PySem.W.Frag} {mg : Str → Option Value} {base : Heap} {C fI : Addr} {fdI : FuncData}
theorem scTt : FnScope ["_law_bag_here", "_law_many", "_law_some", "_law_at"] ["_law_bag_here", "_law_many"] (defScope sText) := ⟨rfl, rfl, rfl, by decide +kernel, rfl, by decide +kernel, by decide +kernel⟩
theorem ok_text {f : Addr} {fd : FuncData} (F : Fun K "_law_text" "_law_text" sText f fd) (B : Blt mg) (DT : Def P w K mg base "_law_take" 1 ["_law_bag_here", "_law_many"] spTake) : FnOk P w K mg base CX0 2 f fd ["_law_bag_here", "_law_many"] spText := by
  refine F.ok scTt (fun vs H Q E h => ?_) (fun cdv A outer s H0 vs Q E hr h => ?_)
  · obtain ⟨p, m, rfl, _⟩ := h
    rfl
  · obtain ⟨p, m, rfl, hbag0, hm, k⟩ := h
    refine ⟨_, pss_cons (ps_set (i := 2) scTt.nd rfl (Or.inl rfl) (pe_op op_rep (pe_lst (pa_cons pe_str pa_nil)) (pe_op op_add (pv 1) pe_int)))
      (pss_cons (ps_while PassesOwn.never (pt_cmpR op_gt (pe_callB call_len_seq (by rfl) B.len PySem.boot_len (pa_cons (pv 2) pa_nil)) pe_int (nomark _))
        (pss_cons (ps_set (i := 3) scTt.nd rfl (Or.inl rfl) (pe_def DT hr rfl (pa_cons (pv 0) (pa_cons (pe_op op_sub (pe_callB call_len_seq (by rfl) B.len PySem.boot_len (pa_cons (pv 2) pa_nil)) pe_int) pa_nil))))
        (pss_one (ps_asg (pe_lst (pa_cons (pe_op op_addX (pe_op op_addX (pe_op op_addX pe_str (pe_ix ix_list (pv 2) (pv 3) (fun _ _ => rfl))) (pe_ix ix_list (pv 2) (pe_op op_add (pv 3) pe_int) (fun _ _ => rfl))) pe_str) pa_nil)) (pg_slice (pv 2) (po_some (pv 3)) (po_some (pe_op op_add (pv 3) pe_int)))))))
      (pss_one (ps_ret (pe_ix ix_list (pv 2) pe_int (fun _ _ => rfl))))), ?_⟩
    have hsl := line4
    have k0 : KB p H0 H0 := KB.of (Same.refl H0)
    obtain ⟨bx, hbx⟩ := hbag0.some
    refine ⟨(by show 1 ≤ sizeLine; decide), fun q0 nq0 => ?_⟩
    have em : (((m : Nat) : Int) + 1).toNat = m + 1 := by omega
    refine ⟨_, rfl, _, _, rfl, rfl, q0, _, _, rfl, rfl, upd_same, by omega, by omega, by show 1 * (((m : Nat) : Int) + 1).toNat ≤ sizeLine; omega, fun D nD => ?_⟩
    rw [em, rep_dots]
    have npD : p ≠ D := ne_of_none ((upd_ne (ne_of_none hbx nq0)).trans hbx) nD
    have sD : Same H0 (upd (upd H0 q0 (.lst [.str "."])) D (.lst ((List.replicate (m + 1) Tr.nil).map tV))) := (Same.new nq0).trans (Same.new nD)
    have nD0 : H0 D = none := (Same.new nq0).free nD
    refine ⟨fun mm σ H' => ∃ (ts : List Tr) (x4 : Option V), σ = [some (.ref p), some (.int (m : Nat)), some (.ref D), x4] ∧ KB p H0 H' ∧ BagOk H' p ∧ H' D = some (.lst (ts.map tV)) ∧ tsz' ts + ts.length = m + 1 ∧ ts ≠ [] ∧ mm = ts.length, ⟨_, _, none, rfl, KB.of sD, hbag0.same sD, upd_same, by rw [tsz'_rep, List.length_replicate]; omega, by simp, rfl⟩, ?_⟩
    rintro mm σ H2 ⟨ts, x4, rfl, k2, hbag2, hD2, hsz, hne, rfl⟩
    refine ⟨_, rfl, D, _, rfl, .inl (SqL.of hD2), _, _, rfl, rfl, _, rfl, ?_⟩
    rw [List.length_map]
    by_cases h1 : 1 < ts.length
    · have ed : decide ((1 : Int) < ((ts.length : Nat) : Int)) = true := decide_eq_true (by omega)
      rw [ed]
      refine iteT ⟨fun σ' H3 => ∃ m', m' < ts.length ∧ _, fun σ' H3 z => z, ?_⟩
      refine ⟨_, rfl, _, rfl, D, _, rfl, .inl (SqL.of hD2), _, _, rfl, rfl, p, _, rfl, hbag2, by rw [List.length_map]; omega, by rw [List.length_map]; omega, fun d2 H3 k3 hbag3 hd0 hd1 => ?_⟩
      rw [List.length_map] at hd1
      have hD3 := k3 _ _ (Ne.symm npD) hD2
      obtain ⟨dn, rfl⟩ := Int.eq_ofNat_of_zero_le hd0
      obtain ⟨tp, t, u, tq, rfl, l1⟩ := list_split dn ts (by omega)
      simp only [tsz'_append, tsz'_cons, List.length_append, List.length_cons] at hsz
      have hct := Tr.codes_len t
      have hcu := Tr.codes_len u
      have lm : (tp.map tV).length = dn := by rw [List.length_map]; exact l1
      have em : (tp ++ t :: u :: tq).map tV = tp.map tV ++ tV t :: tV u :: tq.map tV := by simp
      rw [em] at hD3
      have ix1 : atI (tp.map tV ++ tV t :: tV u :: tq.map tV) ((dn : Nat) : Int) = some (tV t) := atI_nat (by rw [List.getElem?_append_right (by omega), lm, Nat.sub_self]; rfl)
      have ix2 : atI (tp.map tV ++ tV t :: tV u :: tq.map tV) (((dn : Nat) : Int) + 1) = some (tV u) := by
        have e : (((dn : Nat) : Int) + 1) = ((dn + 1 : Nat) : Int) := by omega
        rw [e]
        exact atI_nat (by rw [List.getElem?_append_right (by omega), lm]; simp)
      refine ⟨_, rfl, _, rfl, D, _, _, _, rfl, rfl, SqL.of hD3, ix1, [40], t.codes, congrArg V.str c_40, rfl, by simp; omega, ?_⟩
      refine ⟨_, rfl, _, rfl, _, _, rfl, rfl, D, _, _, _, rfl, rfl, SqL.of hD3, ix2, [40] ++ t.codes, u.codes, rfl, rfl, by simp; omega, [40] ++ t.codes ++ u.codes, [41], rfl, congrArg V.str c_41, by simp; omega, ?_⟩
      rw [pair_text]
      refine ⟨(by show 1 ≤ sizeLine; decide), fun q nq => ?_⟩
      have nqD : D ≠ q := ne_of_none hD3 nq
      have hlx : (tp.map tV ++ tV t :: tV u :: tq.map tV).length = dn + 2 + tq.length := by
        rw [List.length_append, List.length_cons, List.length_cons, List.length_map, List.length_map]
        omega
      have hD5 : (upd H3 q (.lst [.str (Tr.pr t u).text])) D = some (.lst (tp.map tV ++ tV t :: tV u :: tq.map tV)) := (upd_ne nqD).trans hD3
      refine ⟨_, rfl, _, rfl, _, rfl, _, rfl, _, _, rfl, rfl, _, rfl, D, q, _, _, _, _, rfl, rfl, rfl, rfl, hD5, upd_same, nqD, by omega, by omega, by rw [hlx]; omega, by rw [hlx]; show _ + 1 ≤ _; omega, ?_⟩
      have e1 : (tp.map tV ++ tV t :: tV u :: tq.map tV).take ((dn : Nat) : Int).toNat = tp.map tV := by
        rw [Int.toNat_natCast, ← lm, List.take_left]
      have e2 : (tp.map tV ++ tV t :: tV u :: tq.map tV).drop (((dn : Nat) : Int) + 2).toNat = tq.map tV := by
        have e : (((dn : Nat) : Int) + 2).toNat = (tp.map tV).length + 2 := by omega
        rw [e, List.drop_append]
        simp
      rw [e1, e2]
      have e3 : tp.map tV ++ [V.str (Tr.pr t u).text] ++ tq.map tV = (tp ++ [Tr.pr t u] ++ tq).map tV := by simp [tV]
      rw [e3]
      refine ⟨(tp ++ [Tr.pr t u] ++ tq).length, by simp, tp ++ [.pr t u] ++ tq, _, rfl, ?_, ?_, upd_same, ?_, by simp, rfl⟩
      · intro a o na h
        have h3' := k3 _ _ na (k2 _ _ na h)
        rw [upd_ne (ne_of_none h nD0), upd_ne (ne_of_none h3' nq)]
        exact h3'
      · obtain ⟨x0, x1, pr, x3', h, r⟩ := hbag3.ex
        exact ⟨x0, x1, pr, x3', (upd_ne npD).trans ((upd_ne (ne_of_none h nq)).trans h), r⟩
      · simp only [tsz'_append, tsz'_cons, List.length_append, List.length_cons, List.length_nil, Tr.size]
        simp [tsz'] at hsz ⊢
        omega
    · have ed : decide ((1 : Int) < ((ts.length : Nat) : Int)) = false := decide_eq_false (by omega)
      rw [ed]
      refine iteF ?_
      obtain ⟨t, rfl⟩ : ∃ t, ts = [t] := by
        rcases ts with _ | ⟨t, _ | ⟨u, r⟩⟩
        · exact absurd rfl hne
        · exact ⟨t, rfl⟩
        · simp at h1
      refine ⟨_, rfl, D, _, _, tV t, rfl, rfl, SqL.of hD2, rfl, k t H2 (k0.trans k2) hbag2 ?_⟩
      simp [tsz'] at hsz
      omega
end
end Js

set_option Elab.async false
set_option linter.all false
set_option maxRecDepth 100000
set_option maxHeartbeats 2000000
namespace Js
open PySem L2
abbrev sLaw : Stmt := top 26
def spLaw (K : PySem.W.Frag) : Sp := fun vs H Q _ => ∃ (a : Addr) (ns : List Int), vs = [.ref a] ∧ SqL K H a (ns.map V.int) ∧ ns.length ≤ 63 ∧ ∀ H', Q (.bl true) H'
structure Lib4 (P : Program) (w : World) (K : PySem.W.Frag) (mg : Str → Option Value) (base : Heap) : Prop where
  B : Blt mg
  bag : Def P w K mg base "_law_bag" 1 ["_law_script", "_law_at"] (spBag K)
  take : Def P w K mg base "_law_take" 1 ["_law_bag_here", "_law_many"] spTake
  text : Def P w K mg base "_law_text" 2 ["_law_bag_here", "_law_many"] spText
  spo : Def P w K mg base "_law_spoilt" 2 ["_law_bag_here", "_law_text_here"] spSpo
  good : Def P w K mg base "_law_good" 5 ["_law_text_here"] spGood
theorem mult35 (n : Nat) : 3 ≤ (if (if ((n : Nat) : Int) < 5 then ((n : Nat) : Int) else 5) > 3 then (if ((n : Nat) : Int) < 5 then ((n : Nat) : Int) else 5) else 3) ∧ (if (if ((n : Nat) : Int) < 5 then ((n : Nat) : Int) else 5) > 3 then (if ((n : Nat) : Int) < 5 then ((n : Nat) : Int) else 5) else 3) ≤ 5 := by
  constructor
  · split <;> omega
  · split <;> split <;> omega
theorem menu_at (d : Int) (h0 : 0 ≤ d) (h1 : d < 3) (a b c : Int) : ∃ x : Int, atI [V.int a, V.int b, V.int c] d = some (.int x) ∧ (x = a ∨ x = b ∨ x = c) := by
  obtain ⟨n, rfl⟩ := Int.eq_ofNat_of_zero_le h0
  match n, h1 with
  | 0, _ => exact ⟨a, rfl, .inl rfl⟩
  | 1, _ => exact ⟨b, rfl, .inr (.inl rfl)⟩
  | 2, _ => exact ⟨c, rfl, .inr (.inr rfl)⟩
  | n + 3, h => exact absurd h (by omega)
def odds : List Str := ["", "..", "(", ")", "()", "(.)", "(...)", "(..)(..)", " .", ". ", "((..)", "(.(..)", "?", "nil", "(. .)"]
theorem odd_at (d : Int) (h0 : 0 ≤ d) (h1 : d < 15) : ∃ z : Str, atI (odds.map V.str) d = some (.str z) ∧ z.length ≤ 50000 := by
  obtain ⟨n, rfl⟩ := Int.eq_ofNat_of_zero_le h0
  have hl : n < odds.length := by
    have e : odds.length = 15 := rfl
    omega
  have hm : ∀ z ∈ odds, z.length ≤ 50000 := by decide +kernel
  refine ⟨odds[n], atI_nat ?_, hm _ (List.getElem_mem hl)⟩
  rw [List.getElem?_map, List.getElem?_eq_getElem hl]
  rfl
section
variable {X : Cx}
theorem op_mulL : OpR X (binaryOp .Mult) (fun x y H Q => ∃ (z : Str) (n : Nat), x = .str z ∧ y = .int (n : Nat) ∧ z.length * n ≤ 1000000 ∧ n ≤ 1000000 ∧ z.length ≤ 1000000 ∧ ∀ z' : Str, z'.length = z.length * n → Q (.str z') H) :=
  OpR.imp op_mulS fun x y H Q h => by
    obtain ⟨z, n, rfl, rfl, h1, h2, h3, q⟩ := h
    have e : z.cps.toList.length = z.length := Array.length_toList
    refine ⟨z.cps.toList, n, by rw [tx_of], rfl, by rw [e]; exact h1, h2, by rw [e]; exact h3, q _ ?_⟩
    rw [tx_len, repl_len, e, Nat.mul_comm]
theorem op_addL : OpR X (binaryOp .Add) (fun x y H Q => ∃ (i j : Str), x = .str i ∧ y = .str j ∧ i.length + j.length ≤ 1000000 ∧ ∀ z' : Str, z'.length = i.length + j.length → Q (.str z') H) :=
  OpR.imp op_add_str fun x y H Q h => by
    obtain ⟨a, b, rfl, rfl, h1, q⟩ := h
    have hs := sizeLine_eq
    exact ⟨a, b, rfl, rfl, by omega, q _ (Str.length_append _ _)⟩
end
theorem g1 : (("." : Str)).length = 1 := by decide +kernel
theorem g2 : ((")" : Str)).length = 1 := by decide +kernel
theorem g3 : (("(" : Str)).length = 1 := by decide +kernel
theorem g4 : (("(." : Str)).length = 2 := by decide +kernel
theorem g5 : (("((..)" : Str)).length = 5 := by decide +kernel
theorem all7 {a b c d e f g y : V} {i : Nat} {P : V → Prop} (h : [a, b, c, d, e, f, g][i]? = some y) (ha : P a) (hb : P b) (hc : P c) (hd : P d) (he : P e) (hf : P f) (hg : P g) : P y := by
  have hm := List.mem_of_getElem? h
  simp only [List.mem_cons, List.not_mem_nil, or_false] at hm
  rcases hm with rfl | rfl | rfl | rfl | rfl | rfl | rfl <;> assumption
section
variable {P : Program} {w : World} {K : PySem.W.Frag} {mg : Str → Option Value} {base : Heap}
theorem scL : FnScope ["_law_script", "_law_k", "_law_bag_here", "_law_turn", "_law_text_here", "_law_once", "_law_one", "_law_odd", "_law_broad", "_law_most"] ["_law_script"] (defScope sLaw) := ⟨rfl, rfl, rfl, by decide +kernel, rfl, by decide +kernel, by decide +kernel⟩
theorem ok_law {f : Addr} {fd : FuncData} (F : Fun K "law" "law" sLaw f fd) (L : Lib4 P w K mg base) : FnOk P w K mg base CX0 6 f fd ["_law_script"] (spLaw K) := by
  refine F.ok scL (fun vs H Q E h => ?_) (fun cdv A outer s H vs Q E hr h => ?_)
  · obtain ⟨a, ns, rfl, _⟩ := h
    rfl
  · obtain ⟨a, ns, rfl, hS, hlen, k⟩ := h
    have hr1 : Room 1 _ := hr.mono (by decide)
    have hr2 : Room 2 _ := hr.mono (by decide)
    refine ⟨_, pss_cons (ps_for PassesOwn.never rfl (pi_range1 rfl L.B.range (pa_cons (pe_callB (call_max2 rfl) (by rfl) L.B.max (by decide +kernel) (pa_cons pe_int (pa_cons (pe_callB (call_min2 rfl) (by rfl) L.B.min (by decide +kernel) (pa_cons pe_int (pa_cons (pe_callB call_len_seq (by rfl) L.B.len PySem.boot_len (pa_cons (pv 0) pa_nil)) pa_nil))) pa_nil))) pa_nil)) (pg_name (i := 1) scL.nd rfl (Or.inl rfl)) (pss_cons (ps_set (i := 2) scL.nd rfl (Or.inl rfl) (pe_def L.bag hr1 rfl (pa_cons (pv 0) (pa_cons (pv 1) pa_nil)))) (pss_cons (ps_for PassesOwn.never rfl (pi_range1 rfl L.B.range (pa_cons pe_int pa_nil)) (pg_name (i := 3) scL.nd rfl (Or.inl rfl)) (pss_cons (ps_set (i := 4) scL.nd rfl (Or.inl rfl) (pe_def L.text hr2 rfl (pa_cons (pv 2) (pa_cons (pe_def L.take hr1 rfl (pa_cons (pv 2) (pa_cons (pe_ix (r := rIxL K) ix_list (pe_lst (pa_cons pe_int (pa_cons pe_int (pa_cons pe_int pa_nil)))) (pe_def L.take hr1 rfl (pa_cons (pv 2) (pa_cons pe_int pa_nil))) (fun _ _ => rfl)) pa_nil))) pa_nil)))) (pss_cons (ps_set (i := 5) scL.nd rfl (Or.inl rfl) (pe_def L.spo hr2 rfl (pa_cons (pv 2) (pa_cons (pv 4) pa_nil)))) (pss_one (ps_for PassesOwn.never rfl (pi_list (pe_lst (pa_cons (pv 5) (pa_cons (pe_def L.spo hr2 rfl (pa_cons (pv 2) (pa_cons (pv 5) pa_nil))) (pa_cons (pv 4) (pa_cons (pe_op op_addL (pv 4) pe_str) (pa_cons (pe_op op_addL (pv 4) pe_str) (pa_cons (pe_op op_addL pe_str (pv 4)) (pa_cons (pe_slice sl_str (pv 4) po_none (po_some (pe_un un_neg pe_int))) pa_nil))))))))) (pg_name (i := 6) scL.nd rfl (Or.inl rfl)) (pss_one (ps_if (pt_not (pt_val (pe_def L.good hr rfl (pa_cons (pv 6) pa_nil)))) (pss_one (ps_ret pe_bl)) pss_nil))))))) (pss_cons (ps_set (i := 7) scL.nd rfl (Or.inl rfl) (pe_lst (pa_cons pe_str (pa_cons pe_str (pa_cons pe_str (pa_cons pe_str (pa_cons pe_str (pa_cons pe_str (pa_cons pe_str (pa_cons pe_str (pa_cons pe_str (pa_cons pe_str (pa_cons pe_str (pa_cons pe_str (pa_cons pe_str (pa_cons pe_str (pa_cons pe_str pa_nil))))))))))))))))) (pss_one (ps_if (pt_not (pt_val (pe_def L.good hr rfl (pa_cons (pe_ix ix_list (pv 7) (pe_def L.take hr1 rfl (pa_cons (pv 2) (pa_cons pe_int pa_nil))) (fun _ _ => rfl)) pa_nil)))) (pss_one (ps_ret pe_bl)) pss_nil)))))) (pss_cons (ps_set (i := 8) scL.nd rfl (Or.inl rfl) (pe_op op_addL (pe_op op_addL (pe_op op_mulL pe_str pe_int) pe_str) (pe_op op_mulL pe_str pe_int))) (pss_cons (ps_if (PW.pt (pw_or (pt_not (pt_val (pe_def L.good hr rfl (pa_cons (pv 8) pa_nil)))) (pw_or (pt_not (pt_val (pe_def L.good hr rfl (pa_cons (pe_op op_addL (pe_op op_mulL pe_str pe_int) pe_str) pa_nil)))) (pw_or1 (pt_not (pt_val (pe_def L.good hr rfl (pa_cons (pe_op op_addL (pe_op op_addL pe_str (pv 8)) pe_str) pa_nil)))))))) (pss_one (ps_ret pe_bl)) pss_nil) (pss_cons (ps_set (i := 9) scL.nd rfl (Or.inl rfl) (pe_op op_addL (pe_op op_addL (pe_op op_mulL pe_str pe_int) pe_str) (pe_op op_mulL pe_str pe_int))) (pss_one (ps_ret (pe_and (pe_def L.good hr rfl (pa_cons (pv 9) pa_nil)) (pe_and (pe_def L.good hr rfl (pa_cons (pe_op op_addL (pe_op op_addL (pe_op op_mulL pe_str pe_int) pe_str) (pe_op op_mulL pe_str pe_int)) pa_nil)) (pe_one (pe_def L.good hr rfl (pa_cons (pe_op op_addL (pe_op op_mulL pe_str pe_int) (pe_op op_mulL pe_str pe_int)) pa_nil)))))))))), ?_⟩
    have hsl := line4
    have hg1 := g1
    have hg2 := g2
    have hg3 := g3
    have hg4 := g4
    have hg5 := g5
    refine ⟨_, rfl, a, _, rfl, .inl hS, _, _, rfl, _, _, rfl, ?_⟩
    rw [List.length_map]
    have hj := mult35 ns.length
    revert hj
    generalize (if (if ((ns.length : Nat) : Int) < 5 then ((ns.length : Nat) : Int) else 5) > 3 then (if ((ns.length : Nat) : Int) < 5 then ((ns.length : Nat) : Int) else 5) else 3) = j
    intro hj
    refine ⟨j, rfl, by omega, by omega, for_range (n := j.toNat) (fun i σ H' => ∃ x1 x2 x3 x4 x5 x6 x7 : Option V, σ = [some (.ref a), x1, x2, x3, x4, x5, x6, x7, none, none] ∧ Same H H') ⟨none, none, none, none, none, none, none, rfl, Same.refl H⟩ ?_ ?_⟩
    · rintro i σ H0 hi ⟨x1, x2, x3, x4, x5, x6, x7, rfl, s0⟩
      refine ⟨_, rfl, _, rfl, a, ns, i, by rw [Int.zero_add]; rfl, s0.seq hS, by omega, fun p H1 s1 np hbag => ?_⟩
      have hp0 : H p = none := s0.free np
      have s01 : Same H H1 := s0.trans s1
      refine ⟨4, rfl, by decide, by decide, for_range (n := 4) (fun m σ H' => ∃ x1 x3 x4 x5 x6 x7 : Option V, σ = [some (.ref a), x1, some (.ref p), x3, x4, x5, x6, x7, none, none] ∧ KB p H1 H' ∧ BagOk H' p) ⟨_, _, _, _, _, _, rfl, KB.refl p H1, hbag⟩ ?_ ?_⟩
      · rintro m σ H2 hm ⟨x1, x3, x4, x5, x6, x7, rfl, kb2, hbag2⟩
        refine ⟨_, rfl, _, rfl, (by show 3 ≤ sizeLine; decide), fun pl npl => ?_⟩
        have hpp : pl ≠ p := fun z => by
          obtain ⟨bx, hbx⟩ := hbag2.some
          rw [z, hbx] at npl
          cases npl
        have kb3 : KB p H1 (upd H2 pl (.lst [.int 61, .int 8, .int 3])) := kb2.trans (KB.of (Same.new npl))
        have hbag3 := hbag2.same (Same.new (o := .lst [.int 61, .int 8, .int 3]) npl)
        have hpl : (upd H2 pl (.lst [.int 61, .int 8, .int 3])) pl = some (.lst [.int 61, .int 8, .int 3]) := upd_same
        revert kb3 hbag3 hpl
        generalize upd H2 pl (.lst [.int 61, .int 8, .int 3]) = H3
        intro kb3 hbag3 hpl
        refine ⟨_, rfl, p, 3, rfl, hbag3, by decide, by decide, fun d H4 k4 hbag4 hd0 hd1 => ?_⟩
        obtain ⟨x, hx, hx'⟩ := menu_at d hd0 hd1 61 8 3
        refine ⟨pl, _, _, _, rfl, rfl, SqL.of (k4 _ _ hpp hpl), hx, p, x, rfl, hbag4, by omega, by omega, fun d2 H5 k5 hbag5 he0 he1 => ?_⟩
        obtain ⟨n2, rfl⟩ := Int.eq_ofNat_of_zero_le he0
        refine ⟨p, n2, rfl, hbag5, by omega, fun t H6 k6 hbag6 ht => ?_⟩
        have hlt : t.text.length = 3 * t.size + 1 := by
          rw [Tr.text_len]
        have hlt2 : t.text.length ≤ 300 := by omega
        revert hlt2
        generalize t.text = z
        intro hz
        -- once
        refine ⟨_, rfl, _, rfl, p, z, rfl, hbag6, by omega, fun z1 H7 k7 hbag7 hz1 => ?_⟩
        -- the list
        refine ⟨_, rfl, _, rfl, _, rfl, p, z1, rfl, hbag7, by omega, fun z2 H8 k8 hbag8 hz2 => ?_⟩
        refine ⟨_, rfl, _, rfl, z, _, rfl, rfl, by omega, fun z3 hz3 => ?_⟩
        refine ⟨_, rfl, z, _, rfl, rfl, by omega, fun z4 hz4 => ?_⟩
        refine ⟨_, rfl, _, z, rfl, rfl, by omega, fun z5 hz5 => ?_⟩
        refine ⟨_, rfl, _, rfl, _, rfl, z, rfl, by omega, by show 7 ≤ sizeLine; decide, fun D nD => ?_⟩
        have hc6 := cut_le z none (some (-1))
        have hD : (upd H8 D (.lst [.str z1, .str z2, .str z, .str z3, .str z4, .str z5, .str (cutS z none (some (-1)))])) D = some (.lst [.str z1, .str z2, .str z, .str z3, .str z4, .str z5, .str (cutS z none (some (-1)))]) := upd_same
        have kb9 : KB p H1 (upd H8 D (.lst [.str z1, .str z2, .str z, .str z3, .str z4, .str z5, .str (cutS z none (some (-1)))])) := (((((kb3.trans k4).trans k5).trans k6).trans k7).trans k8).trans (KB.of (Same.new nD))
        have hbag9 := hbag8.same (Same.new (o := .lst [.str z1, .str z2, .str z, .str z3, .str z4, .str z5, .str (cutS z none (some (-1)))]) nD)
        revert hD kb9 hbag9
        generalize upd H8 D (.lst [.str z1, .str z2, .str z, .str z3, .str z4, .str z5, .str (cutS z none (some (-1)))]) = H9
        intro hD kb9 hbag9
        refine ⟨D, rfl, ⟨_, SqL.of hD⟩, for_list (K := K) (a := D) (xs := [.str z1, .str z2, .str z, .str z3, .str z4, .str z5, .str (cutS z none (some (-1)))]) (fun m σ H' => ∃ y1 y3 y4 y5 y6 y7 : Option V, σ = [some (.ref a), y1, some (.ref p), y3, y4, y5, y6, y7, none, none] ∧ Same H9 H') ⟨_, _, _, _, _, _, rfl, Same.refl H9⟩ (fun m σ H' _ z => ?_) ?_ ?_⟩
        · obtain ⟨_, _, _, _, _, _, _, sH⟩ := z
          exact SqL.of (sH _ _ hD)
        · rintro m' y σ H10 hy ⟨y1, y3, y4, y5, y6, y7, rfl, s10⟩
          obtain ⟨zy, rfl, hzy⟩ : ∃ zy : Str, y = .str zy ∧ zy.length ≤ 5000 := all7 (P := fun y => ∃ zy : Str, y = .str zy ∧ zy.length ≤ 5000) hy ⟨_, rfl, by omega⟩ ⟨_, rfl, by omega⟩ ⟨_, rfl, by omega⟩ ⟨_, rfl, by omega⟩ ⟨_, rfl, by omega⟩ ⟨_, rfl, by omega⟩ ⟨_, rfl, by omega⟩
          refine ⟨_, rfl, zy, rfl, by omega, fun H11 s11 => ⟨_, rfl, iteF ?_⟩⟩
          exact ⟨_, _, _, _, _, _, rfl, s10.trans s11⟩
        · rintro σ H10 ⟨y1, y3, y4, y5, y6, y7, rfl, s10⟩
          exact ⟨_, _, _, _, _, _, rfl, kb9.trans (KB.of s10), hbag9.same s10⟩
      · rintro σ H2 ⟨x1, x3, x4, x5, x6, x7, rfl, kb2, hbag2⟩
        refine ⟨by show 15 ≤ sizeLine; decide, fun q nq => ?_⟩
        have kb3 : KB p H1 (upd H2 q (.lst (odds.map V.str))) := kb2.trans (KB.of (Same.new nq))
        have hbag3 := hbag2.same (Same.new (o := .lst (odds.map V.str)) nq)
        have hq : (upd H2 q (.lst (odds.map V.str))) q = some (.lst (odds.map V.str)) := upd_same
        have hqp : q ≠ p := fun z => by
          obtain ⟨bx, hbx⟩ := hbag2.some
          rw [z, hbx] at nq
          cases nq
        refine ⟨_, rfl, _, rfl, p, 15, rfl, hbag3, by decide, by decide, fun d H4 k4 hbag4 hd0 hd1 => ?_⟩
        obtain ⟨z, hz, hzl⟩ := odd_at d hd0 hd1
        refine ⟨q, _, _, _, rfl, rfl, SqL.of (k4 _ _ hqp hq), hz, z, rfl, hzl, fun H5 s5 => ⟨_, rfl, iteF ?_⟩⟩
        refine ⟨_, _, _, _, _, _, _, rfl, fun b o hb => ?_⟩
        exact s5 _ _ ((kb3.trans k4) _ _ (ne_of_none hb hp0) (s01 _ _ hb))
    · rintro σ H0 ⟨x1, x2, x3, x4, x5, x6, x7, rfl, s0⟩
      refine ⟨_, 2000, rfl, rfl, by omega, by omega, by omega, fun z1 h1 => ⟨_, _, rfl, rfl, by omega, fun z2 h2 => ⟨_, 2000, rfl, rfl, by omega, by omega, by omega, fun z3 h3 => ⟨_, _, rfl, rfl, by omega, fun z4 h4 => ?_⟩⟩⟩⟩
      refine ⟨_, rfl, z4, rfl, by omega, fun H2 s2 => ⟨_, rfl, iteF ?_⟩⟩
      refine ⟨_, 2000, rfl, rfl, by omega, by omega, by omega, fun z5 h5 => ⟨_, _, rfl, rfl, by omega, fun z6 h6 => ⟨z6, rfl, by omega, fun H3 s3 => ⟨_, rfl, iteF ?_⟩⟩⟩⟩
      refine ⟨_, rfl, _, _, rfl, rfl, by omega, fun z7 h7 => ⟨_, _, rfl, rfl, by omega, fun z8 h8 => ⟨z8, rfl, by omega, fun H4 s4 => ⟨_, rfl, iteF ?_⟩⟩⟩⟩
      refine ⟨_, 4000, rfl, rfl, by omega, by omega, by omega, fun y1 i1 => ⟨_, _, rfl, rfl, by omega, fun y2 i2 => ⟨_, 4000, rfl, rfl, by omega, by omega, by omega, fun y3 i3 => ⟨_, _, rfl, rfl, by omega, fun y4 i4 => ?_⟩⟩⟩⟩
      refine ⟨_, rfl, y4, rfl, by omega, fun H5 s5 => ⟨_, rfl, iteT ?_⟩⟩
      refine ⟨_, 4001, rfl, rfl, by omega, by omega, by omega, fun w1 j1 => ⟨_, _, rfl, rfl, by omega, fun w2 j2 => ⟨_, 4001, rfl, rfl, by omega, by omega, by omega, fun w3 j3 => ⟨_, _, rfl, rfl, by omega, fun w4 j4 => ⟨w4, rfl, by omega, fun H6 s6 => ⟨_, rfl, iteT ?_⟩⟩⟩⟩⟩⟩
      refine ⟨_, 4000, rfl, rfl, by omega, by omega, by omega, fun v1 l1 => ⟨_, 1000, rfl, rfl, by omega, by omega, by omega, fun v2 l2 => ⟨_, _, rfl, rfl, by omega, fun v3 l3 => ⟨v3, rfl, by omega, fun H7 s7 => ?_⟩⟩⟩⟩
      exact k H7
end
end Js

set_option Elab.async false
set_option linter.all false
set_option maxRecDepth 100000
set_option maxHeartbeats 2000000
namespace Js
open PySem L2 PyProof.Rows
theorem all_mk {P : Program} {w : World} {K : PySem.W.Frag} {h : Heap} {mg : Str → Option Value} {fa C : Addr} (X : K.In h) (G : h.Ns mainGlobals mg) (hfa : mg "law" = some (.ref fa))
    {tM : Tok}
    {oI : Value} {odI anI odT : Option Addr} {slI slT : Array (Option Value)} {kVI dcI pmI cdI ctI ocT : Value} {fI TI : Addr} {nT : Nat}
    {fSt : Addr} {ocSt kVSt dcSt pmSt cdSt ctSt : Value} {odSt anSt : Option Addr} {slSt : Array (Option Value)}
    {fPa : Addr} {ocPa kVPa dcPa pmPa cdPa ctPa : Value} {odPa anPa : Option Addr} {slPa : Array (Option Value)}
    {fSg : Addr} {ocSg kVSg dcSg pmSg cdSg ctSg : Value} {odSg anSg : Option Addr} {slSg : Array (Option Value)}
    {fRd : Addr} {ocRd kVRd dcRd pmRd cdRd ctRd : Value} {odRd anRd : Option Addr} {slRd : Array (Option Value)}
    {fWh : Addr} {ocWh kVWh dcWh pmWh cdWh ctWh : Value} {odWh anWh : Option Addr} {slWh : Array (Option Value)}
    {fDu : Addr} {ocDu kVDu dcDu pmDu cdDu ctDu : Value} {odDu anDu : Option Addr} {slDu : Array (Option Value)}
    {fBa : Addr} {ocBa kVBa dcBa pmBa cdBa ctBa : Value} {odBa anBa : Option Addr} {slBa : Array (Option Value)}
    {fTa : Addr} {ocTa kVTa dcTa pmTa cdTa ctTa : Value} {odTa anTa : Option Addr} {slTa : Array (Option Value)}
    {fTe : Addr} {ocTe kVTe dcTe pmTe cdTe ctTe : Value} {odTe anTe : Option Addr} {slTe : Array (Option Value)}
    {fBk : Addr} {ocBk kVBk dcBk pmBk cdBk ctBk : Value} {odBk anBk : Option Addr} {slBk : Array (Option Value)}
    {fSp : Addr} {ocSp kVSp dcSp pmSp cdSp ctSp : Value} {odSp anSp : Option Addr} {slSp : Array (Option Value)}
    {fGo : Addr} {ocGo kVGo dcGo pmGo cdGo ctGo : Value} {odGo anGo : Option Addr} {slGo : Array (Option Value)}
    {fLaw : Addr} {ocLaw kVLaw dcLaw pmLaw cdLaw ctLaw : Value} {odLaw anLaw : Option Addr} {slLaw : Array (Option Value)}
    {N fN n1 n2 n3 n4 n5 n6 : Addr} {nmN qN : Str} {NN : Addr} {bsN : List Value} {snN : List Str} {subN : List Value} {abN : Bool} {colN : Option Bool} {ddN : Option Addr} {m0N m1N m2N m3N m5N : Option Value}
    {ocN kVN dcN pmN cdN ctN : Value} {odN anN : Option Addr} {slN : Array (Option Value)}
    (aC : PySem.W.nsIn K mainGlobals "Thing" = some (some (.ref C)))
    (pg : PySem.W.plainGet K C Str.empty = true)
    (hd : PySem.W.hasDictIn K C = true)
    (po : PySem.W.plainOver K C = true)
    (sa : PySem.W.findIn K (.ref C) "__setattr__" = some (some (.builtin "object.__setattr__")))
    (mkC : PySem.W.makesIn K C = true)
    (kc : PySem.W.keepIn K (.ref C) = true)
    (nF : PySem.W.findIn K (.ref C) "first" = some none)
    (nS : PySem.W.findIn K (.ref C) "second" = some none)
    (nZ : PySem.W.findIn K (.ref C) "size" = some none)
    (ca : PySem.W.findIn K (.ref C) "__class__" = some (some (.builtin "object.__class__")))
    (cn : PySem.W.specialIn K (.builtin "object.__class__") "__get__" = some (some (.builtin "getset_descriptor.__get__")))
    (ct : PySem.W.takesIn K (.builtin "object.__class__") = some true)
    (cm : PySem.W.mroIn K C (.type "object") = some true)
    (neC : PySem.W.findIn K (.ref C) "__ne__" = some (some (.builtin "object.__ne__")))
    (aM : PySem.W.nsIn K mainGlobals "MOST_PAIRS" = some (some (.int 4000 tM)))
    (aI : PySem.W.findIn K (.ref C) "__init__" = some (some (.ref fI)))
    (iI : PySem.W.isFn K (.ref fI) = true)
    (lI : K.lookup fI = some ⟨oI, odI, .func (PySem.W.fnOf "__init__" "Thing.__init__" (defArgs sInit) (defBody sInit) (defScope sInit) (.ref TI) kVI dcI pmI anI cdI ctI), slI⟩)
    (cI : PySem.W.codeIn K cdI "Thing.__init__" = true)
    (kI : PySem.W.keepIn K (.ref fI) = true)
    (lT : K.lookup TI = some ⟨ocT, odT, .seq #[.none, .none] nT, slT⟩)
    (aSt : PySem.W.findIn K (.ref C) "__str__" = some (some (.ref fSt)))
    (iSt : PySem.W.isFn K (.ref fSt) = true)
    (lSt : K.lookup fSt = some ⟨ocSt, odSt, .func (PySem.W.fnOf "__str__" "Thing.__str__" (defArgs sStr) (defBody sStr) (defScope sStr) .none kVSt dcSt pmSt anSt cdSt ctSt), slSt⟩)
    (cSt : PySem.W.codeIn K cdSt "Thing.__str__" = true)
    (kSt : PySem.W.keepIn K (.ref fSt) = true)
    (aPa : PySem.W.nsIn K mainGlobals "pairs_in" = some (some (.ref fPa)))
    (lPa : K.lookup fPa = some ⟨ocPa, odPa, .func (PySem.W.fnOf "pairs_in" "pairs_in" (defArgs sPairs) (defBody sPairs) (defScope sPairs) .none kVPa dcPa pmPa anPa cdPa ctPa), slPa⟩)
    (cPa : PySem.W.codeIn K cdPa "pairs_in" = true)
    (kPa : PySem.W.keepIn K (.ref fPa) = true)
    (aSg : PySem.W.nsIn K mainGlobals "signs" = some (some (.ref fSg)))
    (lSg : K.lookup fSg = some ⟨ocSg, odSg, .func (PySem.W.fnOf "signs" "signs" (defArgs sSigns) (defBody sSigns) (defScope sSigns) .none kVSg dcSg pmSg anSg cdSg ctSg), slSg⟩)
    (cSg : PySem.W.codeIn K cdSg "signs" = true)
    (kSg : PySem.W.keepIn K (.ref fSg) = true)
    (aRd : PySem.W.nsIn K mainGlobals "read_thing" = some (some (.ref fRd)))
    (lRd : K.lookup fRd = some ⟨ocRd, odRd, .func (PySem.W.fnOf "read_thing" "read_thing" (defArgs sRead) (defBody sRead) (defScope sRead) .none kVRd dcRd pmRd anRd cdRd ctRd), slRd⟩)
    (cRd : PySem.W.codeIn K cdRd "read_thing" = true)
    (kRd : PySem.W.keepIn K (.ref fRd) = true)
    (aWh : PySem.W.nsIn K mainGlobals "is_whole" = some (some (.ref fWh)))
    (lWh : K.lookup fWh = some ⟨ocWh, odWh, .func (PySem.W.fnOf "is_whole" "is_whole" (defArgs sWhole) (defBody sWhole) (defScope sWhole) .none kVWh dcWh pmWh anWh cdWh ctWh), slWh⟩)
    (cWh : PySem.W.codeIn K cdWh "is_whole" = true)
    (kWh : PySem.W.keepIn K (.ref fWh) = true)
    (aDu : PySem.W.nsIn K mainGlobals "signs_due" = some (some (.ref fDu)))
    (lDu : K.lookup fDu = some ⟨ocDu, odDu, .func (PySem.W.fnOf "signs_due" "signs_due" (defArgs sDue) (defBody sDue) (defScope sDue) .none kVDu dcDu pmDu anDu cdDu ctDu), slDu⟩)
    (cDu : PySem.W.codeIn K cdDu "signs_due" = true)
    (kDu : PySem.W.keepIn K (.ref fDu) = true)
    (aBa : PySem.W.nsIn K mainGlobals "_law_bag" = some (some (.ref fBa)))
    (lBa : K.lookup fBa = some ⟨ocBa, odBa, .func (PySem.W.fnOf "_law_bag" "_law_bag" (defArgs sBag) (defBody sBag) (defScope sBag) .none kVBa dcBa pmBa anBa cdBa ctBa), slBa⟩)
    (cBa : PySem.W.codeIn K cdBa "_law_bag" = true)
    (kBa : PySem.W.keepIn K (.ref fBa) = true)
    (aTa : PySem.W.nsIn K mainGlobals "_law_take" = some (some (.ref fTa)))
    (lTa : K.lookup fTa = some ⟨ocTa, odTa, .func (PySem.W.fnOf "_law_take" "_law_take" (defArgs sTake) (defBody sTake) (defScope sTake) .none kVTa dcTa pmTa anTa cdTa ctTa), slTa⟩)
    (cTa : PySem.W.codeIn K cdTa "_law_take" = true)
    (kTa : PySem.W.keepIn K (.ref fTa) = true)
    (aTe : PySem.W.nsIn K mainGlobals "_law_text" = some (some (.ref fTe)))
    (lTe : K.lookup fTe = some ⟨ocTe, odTe, .func (PySem.W.fnOf "_law_text" "_law_text" (defArgs sText) (defBody sText) (defScope sText) .none kVTe dcTe pmTe anTe cdTe ctTe), slTe⟩)
    (cTe : PySem.W.codeIn K cdTe "_law_text" = true)
    (kTe : PySem.W.keepIn K (.ref fTe) = true)
    (aBk : PySem.W.nsIn K mainGlobals "_law_breaks" = some (some (.ref fBk)))
    (lBk : K.lookup fBk = some ⟨ocBk, odBk, .func (PySem.W.fnOf "_law_breaks" "_law_breaks" (defArgs sBrk) (defBody sBrk) (defScope sBrk) .none kVBk dcBk pmBk anBk cdBk ctBk), slBk⟩)
    (cBk : PySem.W.codeIn K cdBk "_law_breaks" = true)
    (kBk : PySem.W.keepIn K (.ref fBk) = true)
    (aSp : PySem.W.nsIn K mainGlobals "_law_spoilt" = some (some (.ref fSp)))
    (lSp : K.lookup fSp = some ⟨ocSp, odSp, .func (PySem.W.fnOf "_law_spoilt" "_law_spoilt" (defArgs sSpo) (defBody sSpo) (defScope sSpo) .none kVSp dcSp pmSp anSp cdSp ctSp), slSp⟩)
    (cSp : PySem.W.codeIn K cdSp "_law_spoilt" = true)
    (kSp : PySem.W.keepIn K (.ref fSp) = true)
    (aGo : PySem.W.nsIn K mainGlobals "_law_good" = some (some (.ref fGo)))
    (lGo : K.lookup fGo = some ⟨ocGo, odGo, .func (PySem.W.fnOf "_law_good" "_law_good" (defArgs sGood) (defBody sGood) (defScope sGood) .none kVGo dcGo pmGo anGo cdGo ctGo), slGo⟩)
    (cGo : PySem.W.codeIn K cdGo "_law_good" = true)
    (kGo : PySem.W.keepIn K (.ref fGo) = true)
    (aLaw : PySem.W.nsIn K mainGlobals "law" = some (some (.ref fLaw)))
    (lLaw : K.lookup fLaw = some ⟨ocLaw, odLaw, .func (PySem.W.fnOf "law" "law" (defArgs sLaw) (defBody sLaw) (defScope sLaw) .none kVLaw dcLaw pmLaw anLaw cdLaw ctLaw), slLaw⟩)
    (cLaw : PySem.W.codeIn K cdLaw "law" = true)
    (kLaw : PySem.W.keepIn K (.ref fLaw) = true)
    (aN : PySem.W.nsIn K mainGlobals "NoText" = some (some (.ref N)))
    (xN : K.lookup N = some (excClassObj nmN qN N NN bsN [.type "ValueError", .type "Exception", .type "BaseException", .type "object"] true snN subN abN colN ddN m0N m1N m2N m3N m5N "ValueError.__new__"))
    (saN : PySem.W.findIn K (.ref N) "__setattr__" = some (some (.builtin "object.__setattr__")))
    (exN : PySem.W.subIn K (.ref N) (.type "BaseException") = some true)
    (tyN : PySem.W.typeIn K (.ref N) = some (.type "type"))
    (kN : PySem.W.keepIn K (.ref N) = true)
    (plN : PySem.W.findIn K (.ref N) "place" = some none)
    (vV : PySem.W.findCls K (.type "ValueError") (.type "type") "__init__" = some (.val (.builtin "ValueError.__init__")))
    (iN : PySem.W.findIn K (.ref N) "__init__" = some (some (.ref fN)))
    (tfN : PySem.W.typeIn K (.ref fN) = some (.type "function"))
    (lN : K.lookup fN = some ⟨ocN, odN, .func (PySem.W.fnOf "__init__" "NoText.__init__" (defArgs sNt) (defBody sNt) (defScope sNt) .none kVN dcN pmN anN cdN ctN), slN⟩)
    (cN : PySem.W.codeIn K cdN "NoText.__init__" = true)
    (kfN : PySem.W.keepIn K (.ref fN) = true)
    (gaN : PySem.W.findIn K (.ref N) "__getattribute__" = some (some (.builtin "BaseException.__getattribute__")))
    (ggN : PySem.W.findIn K (.ref N) "__getattr__" = some none)
    (hdN : PySem.W.hasDictIn K N = true)
    (icN : PySem.W.isClsIn K N = true)
    (scN : PySem.W.subIn K (.ref N) (.ref N) = some true)
    (caN : PySem.W.findIn K (.ref N) "__class__" = some (some (.builtin "object.__class__")))
    (cmN : PySem.W.mroIn K N (.type "object") = some true)
    (veN : PySem.W.kitOne K (.ref N) (.type "ValueError") = some true)
    (ibN : PySem.W.kitOne K (.type "int") (.type "bool") = some false)
    (o1 : PySem.W.nsIn K mainGlobals "NoName" = some (some (.ref n1)))
    (o2 : PySem.W.nsIn K mainGlobals "NoProgram" = some (some (.ref n2)))
    (o3 : PySem.W.nsIn K mainGlobals "NoRoom" = some (some (.ref n3)))
    (o4 : PySem.W.nsIn K mainGlobals "NoSaying" = some (some (.ref n4)))
    (o5 : PySem.W.nsIn K mainGlobals "NoStep" = some (some (.ref n5)))
    (o6 : PySem.W.nsIn K mainGlobals "TooGreat" = some (some (.ref n6)))
    (kaN : PySem.W.kitAny K (.ref N) [.ref n1, .ref n2, .ref n3, .ref n4, .ref n5, .ref n6] = some false)
    (z_len : PySem.W.nsIn K mainGlobals "len" = some none)
    (z_range : PySem.W.nsIn K mainGlobals "range" = some none)
    (z_isinstance : PySem.W.nsIn K mainGlobals "isinstance" = some none)
    (z_enumerate : PySem.W.nsIn K mainGlobals "enumerate" = some none)
    (z_abs : PySem.W.nsIn K mainGlobals "abs" = some none)
    (z_int : PySem.W.nsIn K mainGlobals "int" = some none)
    (z_str : PySem.W.nsIn K mainGlobals "str" = some none)
    (z_max : PySem.W.nsIn K mainGlobals "max" = some none)
    (z_min : PySem.W.nsIn K mainGlobals "min" = some none)
    (z_all : PySem.W.nsIn K mainGlobals "all" = some none)
    (z_bool : PySem.W.nsIn K mainGlobals "bool" = some none)
    (z_ValueError : PySem.W.nsIn K mainGlobals "ValueError" = some none)
    : ∃ fd : FuncData, (∀ (s : Shared) (v : Value), BindsTo s fd ⟨[v], []⟩ [("_law_script", v)]) ∧ ∀ base : Heap, K.In base → base.Ns mainGlobals mg → FnOk P w K mg base CX0 6 fa fd ["_law_script"] (spLaw K) := by
  have e := hfa.symm.trans (PySem.W.mg_of X G aLaw)
  cases e
  have FSt := fun_mk (st := sStr) lSt cSt kSt
  have bSt := FSt.binds (ps := ["self"]) fun _ _ _ _ _ _ us hl => match us, hl with | [_], _ => rfl
  have FPa := fun_mk (st := sPairs) lPa cPa kPa
  have bPa := FPa.binds (ps := ["first", "second"]) fun _ _ _ _ _ _ us hl => match us, hl with | [_, _], _ => rfl
  have FSg := fun_mk (st := sSigns) lSg cSg kSg
  have bSg := FSg.binds (ps := ["thing"]) fun _ _ _ _ _ _ us hl => match us, hl with | [_], _ => rfl
  have FRd := fun_mk (st := sRead) lRd cRd kRd
  have bRd := FRd.binds (ps := ["text"]) fun _ _ _ _ _ _ us hl => match us, hl with | [_], _ => rfl
  have FWh := fun_mk (st := sWhole) lWh cWh kWh
  have bWh := FWh.binds (ps := ["levels"]) fun _ _ _ _ _ _ us hl => match us, hl with | [_], _ => rfl
  have FDu := fun_mk (st := sDue) lDu cDu kDu
  have bDu := FDu.binds (ps := ["levels", "begun"]) fun _ _ _ _ _ _ us hl => match us, hl with | [_, _], _ => rfl
  have FBa := fun_mk (st := sBag) lBa cBa kBa
  have bBa := FBa.binds (ps := ["_law_script", "_law_at"]) fun _ _ _ _ _ _ us hl => match us, hl with | [_, _], _ => rfl
  have FTa := fun_mk (st := sTake) lTa cTa kTa
  have bTa := FTa.binds (ps := ["_law_bag_here", "_law_many"]) fun _ _ _ _ _ _ us hl => match us, hl with | [_, _], _ => rfl
  have FTe := fun_mk (st := sText) lTe cTe kTe
  have bTe := FTe.binds (ps := ["_law_bag_here", "_law_many"]) fun _ _ _ _ _ _ us hl => match us, hl with | [_, _], _ => rfl
  have FBk := fun_mk (st := sBrk) lBk cBk kBk
  have bBk := FBk.binds (ps := ["_law_text_here"]) fun _ _ _ _ _ _ us hl => match us, hl with | [_], _ => rfl
  have FSp := fun_mk (st := sSpo) lSp cSp kSp
  have bSp := FSp.binds (ps := ["_law_bag_here", "_law_text_here"]) fun _ _ _ _ _ _ us hl => match us, hl with | [_, _], _ => rfl
  have FGo := fun_mk (st := sGood) lGo cGo kGo
  have bGo := FGo.binds (ps := ["_law_text_here"]) fun _ _ _ _ _ _ us hl => match us, hl with | [_], _ => rfl
  have FLaw := fun_mk (st := sLaw) lLaw cLaw kLaw
  have bLaw := FLaw.binds (ps := ["_law_script"]) fun _ _ _ _ _ _ us hl => match us, hl with | [_], _ => rfl
  have APa : At K mg "pairs_in" sPairs ["first", "second"] fPa _ := ⟨FPa, PySem.W.mg_of X G aPa, bPa⟩
  have ASg : At K mg "signs" sSigns ["thing"] fSg _ := ⟨FSg, PySem.W.mg_of X G aSg, bSg⟩
  have ARd : At K mg "read_thing" sRead ["text"] fRd _ := ⟨FRd, PySem.W.mg_of X G aRd, bRd⟩
  have AWh : At K mg "is_whole" sWhole ["levels"] fWh _ := ⟨FWh, PySem.W.mg_of X G aWh, bWh⟩
  have ADu : At K mg "signs_due" sDue ["levels", "begun"] fDu _ := ⟨FDu, PySem.W.mg_of X G aDu, bDu⟩
  have ABa : At K mg "_law_bag" sBag ["_law_script", "_law_at"] fBa _ := ⟨FBa, PySem.W.mg_of X G aBa, bBa⟩
  have ATa : At K mg "_law_take" sTake ["_law_bag_here", "_law_many"] fTa _ := ⟨FTa, PySem.W.mg_of X G aTa, bTa⟩
  have ATe : At K mg "_law_text" sText ["_law_bag_here", "_law_many"] fTe _ := ⟨FTe, PySem.W.mg_of X G aTe, bTe⟩
  have ABk : At K mg "_law_breaks" sBrk ["_law_text_here"] fBk _ := ⟨FBk, PySem.W.mg_of X G aBk, bBk⟩
  have ASp : At K mg "_law_spoilt" sSpo ["_law_bag_here", "_law_text_here"] fSp _ := ⟨FSp, PySem.W.mg_of X G aSp, bSp⟩
  have AGo : At K mg "_law_good" sGood ["_law_text_here"] fGo _ := ⟨FGo, PySem.W.mg_of X G aGo, bGo⟩
  have DI : FunD K "__init__" "Thing.__init__" (defArgs sInit) (defBody sInit) (defScope sInit) [.non, .non] [] fI _ := ⟨⟨oI, odI, .ref TI, kVI, dcI, pmI, anI, cdI, ctI, slI, rfl, lI, cI, .inr ⟨by simp, TI, _, [.none, .none], nT, rfl, lT, rfl, .cons rfl (.cons rfl .nil)⟩, .inl rfl⟩, kI⟩
  have b0 := DI.binds1 (ps := ["self", "first", "second"]) 1 0 (by simp) rfl fun T kV doc pm an cdv ct us its h1 h2 => by
    match us, its, h1, h2 with
    | [a], [b, c], _, _ => exact ⟨_, rfl, rfl⟩
  have b3 := DI.binds1 (ps := ["self", "first", "second"]) 3 2 (by simp) rfl fun T kV doc pm an cdv ct us its h1 h2 => by
    match us, its, h1, h2 with
    | [a, b, c], [d, e], _, _ => exact ⟨_, rfl, rfl⟩
  obtain ⟨ds3, hv3, hb3⟩ := b3
  cases hv3
  have T : Txt K mg C := ⟨⟨pg, hd, po, sa⟩, nF, nS, nZ, PySem.W.mg_of X G aC, ⟨tM, PySem.W.mg_of X G aM⟩, PySem.W.mg_none_of X G z_len, PySem.W.mg_none_of X G z_range, PySem.W.mg_none_of X G z_isinstance, ca, cn, ct, cm, neC⟩
  have B : Blt mg := ⟨PySem.W.mg_none_of X G z_len, PySem.W.mg_none_of X G z_range, PySem.W.mg_none_of X G z_abs, PySem.W.mg_none_of X G z_int, PySem.W.mg_none_of X G z_str, PySem.W.mg_none_of X G z_max, PySem.W.mg_none_of X G z_min, PySem.W.mg_none_of X G z_all⟩
  refine ⟨PySem.W.fnOf "law" "law" (defArgs sLaw) (defBody sLaw) (defScope sLaw) .none kVLaw dcLaw pmLaw anLaw cdLaw ctLaw, fun s v => .of_eq rfl, fun base _ _ => ?_⟩
  have GI : FnOk P w K mg base CX0 2 fI _ ["self", "first", "second"] (spInit C) := ok_init DI T APa
  have M : Maker P w K mg base C fI _ := ⟨⟨mkC, aI, iI, kc⟩, GI, T.mgC, hb3, b0⟩
  have SS : Spc P w K mg base C "__str__" 2 ["self"] (spStr C) := ⟨fSt, _, ⟨aSt, iSt⟩, ok_str FSt T ASg, bSt⟩
  have DT : Def P w K mg base "_law_take" 1 ["_law_bag_here", "_law_many"] spTake := ⟨fTa, _, ATa.mgf, kTa, ok_take FTa, bTa⟩
  have FN := fun_mk (st := sNt) lN cN kfN
  have bN := FN.binds (ps := ["self", "place"]) fun _ _ _ _ _ _ us hl => match us, hl with | [_, _], _ => rfl
  have ntC : NtC K mg N := ⟨PySem.W.mg_of X G aN, ⟨⟨nmN, qN, NN, bsN, _, snN, subN, abN, colN, ddN, m0N, m1N, m2N, m3N, m5N, xN, by decide +kernel⟩, saN, exN, tyN, kN⟩, plN, PySem.W.mg_none_of X G z_ValueError, vV⟩
  have NM : NtM P w K mg base N fN _ := ⟨ntC, iN, tfN, ok_nt FN ntC, bN⟩
  have exm : PySem.W.exmOne K (.ref N) (.ref N) = some true := PySem.W.exm_ref exN hdN tyN scN
  have GC : GdC K mg N := ⟨ntC, ⟨gaN, ggN, exN, hdN⟩, ⟨icN, gaN, ggN, exN, caN, cn, ct, cmN⟩, exm, PySem.W.mg_none_of X G z_bool, veN, ibN, ⟨n1, n2, n3, n4, n5, n6, PySem.W.mg_of X G o1, PySem.W.mg_of X G o2, PySem.W.mg_of X G o3, PySem.W.mg_of X G o4, PySem.W.mg_of X G o5, PySem.W.mg_of X G o6, kaN⟩⟩
  have GR := ok_read4 (P := P) (w := w) (base := base) FRd T (PySem.W.mg_none_of X G z_enumerate) M NM AWh ADu
  have DB : Def P w K mg base "_law_breaks" 1 ["_law_text_here"] spBrk := ⟨fBk, _, ABk.mgf, kBk, ok_brk FBk B, bBk⟩
  have L4 : Lib4 P w K mg base := ⟨B, ⟨fBa, _, ABa.mgf, kBa, ok_bag FBa B, bBa⟩, DT, ⟨fTe, _, ATe.mgf, kTe, ok_text FTe B DT, bTe⟩, ⟨fSp, _, ASp.mgf, kSp, ok_spo FSp B DT, bSp⟩, ⟨fGo, _, AGo.mgf, kGo, ok_good FGo B T SS DB GR ARd.mgf kRd bRd GC, bGo⟩⟩
  exact ok_law FLaw L4
theorem walk {l : PySem.W.OpenLaw} {q : Program} {loose : List Str} {XP : (Str → Option Value) → Heap → Prop} {YP : World → Heap → Prop} {d : DefRec} {K : Params → PySem.W.Frag} (hn : l.most = some 63) (hdf : d.params.defaults = [])
    (hY : ∀ (w : World) (h : Heap), YP w h → (K w.params).In h)
    (F : ∀ (w : World) (mg : Str → Option Value) (fa : Addr) (h : Heap), (K w.params).In h → h.Ns mainGlobals mg → mg d.name = some (.ref fa) →
      ∃ fd : FuncData, (∀ (s : Shared) (u : Value), BindsTo s fd ⟨[u], []⟩ [("_law_script", u)]) ∧ ∀ base : Heap, (K w.params).In base → base.Ns mainGlobals mg → FnOk l.prog w (K w.params) mg base CX0 6 fa fd ["_law_script"] (spLaw (K w.params))) :
    PySem.W.WalkO q loose XP YP l.row.toRowW d [] (fun f vs => PySem.call f vs) :=
  L2.walk_of (n := 63) (k := 6) (x := "_law_script") (CX := fun _ => CX0) (sp := fun w => spLaw (K w.params)) hn (by decide) hdf ⟨rfl, by decide, by decide⟩ hY F (fun _ _ a ns hl _ hS => ⟨a, ns, rfl, hS, hl, fun _ => rfl⟩) fun _ _ _ _ _ z => z
end Js

open PySem PySem.W PyProof.Rows in
set_option maxRecDepth 100000 in
set_option maxHeartbeats 0 in
theorem PySem.Challenge.cw_judgeslip_k04_no_texts_of_things_holds : PySem.Challenge.rw_judgeslip_k04_no_texts_of_things.Holds := by
  w_on; o_law; k_head; (case hw => w_witness2)
  k_fill
  refine Js.walk (l := PySem.Challenge.rw_judgeslip_k04_no_texts_of_things) rfl rfl (fun w h Y => PySem.W.kIn_of Y) ?F
  case F =>
    intro w mg fa h KX G hmg
    refine' Js.all_mk KX G hmg ?aC ?pg ?hd ?po ?sa ?mkC ?kc ?nF ?nS ?nZ ?ca ?cn ?ct ?cm ?neC ?aM ?aI ?iI ?lI ?cI ?kI ?lT ?aSt ?iSt ?lSt ?cSt ?kSt ?aPa ?lPa ?cPa ?kPa ?aSg ?lSg ?cSg ?kSg ?aRd ?lRd ?cRd ?kRd ?aWh ?lWh ?cWh ?kWh ?aDu ?lDu ?cDu ?kDu ?aBa ?lBa ?cBa ?kBa ?aTa ?lTa ?cTa ?kTa ?aTe ?lTe ?cTe ?kTe ?aBk ?lBk ?cBk ?kBk ?aSp ?lSp ?cSp ?kSp ?aGo ?lGo ?cGo ?kGo ?aLaw ?lLaw ?cLaw ?kLaw ?aN ?xN ?saN ?exN ?tyN ?kN ?plN ?vV ?iN ?tfN ?lN ?cN ?kfN ?gaN ?ggN ?hdN ?icN ?scN ?caN ?cmN ?veN ?ibN ?o1 ?o2 ?o3 ?o4 ?o5 ?o6 ?kaN ?z_len ?z_range ?z_isinstance ?z_enumerate ?z_abs ?z_int ?z_str ?z_max ?z_min ?z_all ?z_bool ?z_ValueError
    (case aC => k_is)
    (case pg => k_is)
    (case hd => k_is)
    (case po => k_is)
    (case sa => k_is)
    (case mkC => k_is)
    (case kc => k_is)
    (case nF => k_is)
    (case nS => k_is)
    (case nZ => k_is)
    (case ca => k_is)
    (case cn => k_is)
    (case ct => k_is)
    (case cm => k_is)
    (case neC => k_is)
    (case aM => k_is)
    (case aI => k_is)
    (case iI => k_is)
    (case lI => k_is)
    (case cI => k_is)
    (case kI => k_is)
    (case lT => k_is)
    (case aSt => k_is)
    (case iSt => k_is)
    (case lSt => k_is)
    (case cSt => k_is)
    (case kSt => k_is)
    (case aPa => k_is)
    (case lPa => k_is)
    (case cPa => k_is)
    (case kPa => k_is)
    (case aSg => k_is)
    (case lSg => k_is)
    (case cSg => k_is)
    (case kSg => k_is)
    (case aRd => k_is)
    (case lRd => k_is)
    (case cRd => k_is)
    (case kRd => k_is)
    (case aWh => k_is)
    (case lWh => k_is)
    (case cWh => k_is)
    (case kWh => k_is)
    (case aDu => k_is)
    (case lDu => k_is)
    (case cDu => k_is)
    (case kDu => k_is)
    (case aBa => k_is)
    (case lBa => k_is)
    (case cBa => k_is)
    (case kBa => k_is)
    (case aTa => k_is)
    (case lTa => k_is)
    (case cTa => k_is)
    (case kTa => k_is)
    (case aTe => k_is)
    (case lTe => k_is)
    (case cTe => k_is)
    (case kTe => k_is)
    (case aBk => k_is)
    (case lBk => k_is)
    (case cBk => k_is)
    (case kBk => k_is)
    (case aSp => k_is)
    (case lSp => k_is)
    (case cSp => k_is)
    (case kSp => k_is)
    (case aGo => k_is)
    (case lGo => k_is)
    (case cGo => k_is)
    (case kGo => k_is)
    (case aLaw => k_is)
    (case lLaw => k_is)
    (case cLaw => k_is)
    (case kLaw => k_is)
    (case aN => k_is)
    (case xN => k_is)
    (case saN => k_is)
    (case exN => k_is)
    (case tyN => k_is)
    (case kN => k_is)
    (case plN => k_is)
    (case vV => k_is)
    (case iN => k_is)
    (case tfN => k_is)
    (case lN => k_is)
    (case cN => k_is)
    (case kfN => k_is)
    (case gaN => k_is)
    (case ggN => k_is)
    (case hdN => k_is)
    (case icN => k_is)
    (case scN => (first | rfl | k_is))
    (case caN => k_is)
    (case cmN => k_is)
    (case veN => (first | k_is | rfl | decide +kernel))
    (case ibN => (first | k_is | rfl | decide +kernel))
    (case o1 => k_is)
    (case o2 => k_is)
    (case o3 => k_is)
    (case o4 => k_is)
    (case o5 => k_is)
    (case o6 => k_is)
    (case kaN => (first | k_is | rfl | decide +kernel))
    (case z_len => k_is)
    (case z_range => k_is)
    (case z_isinstance => k_is)
    (case z_enumerate => k_is)
    (case z_abs => k_is)
    (case z_int => k_is)
    (case z_str => k_is)
    (case z_max => k_is)
    (case z_min => k_is)
    (case z_all => k_is)
    (case z_bool => k_is)
    (case z_ValueError => k_is)
