import PyProof.Rows.All
import Wide.All
import OpenK.AllK
import Wide.FinOn
import PyProof.EqAt
import PyProof.EqKinds
import PyProof.TupleCall
import HandS.ForMost
import HandS.ForExc
import HandS.IsInst
import HandS.NoneIn
import HandS.Defaults
import HandS.MakeKw
import HandS.OwnEq
import HandS.Walk
import HandS.Rev
import HandS.FStr
import HandS.More
import KE.KCallOwn
import HandS.Conv
import HandS.Replace
import PyProof.NeKinds
import HandS.Zip
import HandS.Zip0
import KE.GoesZip
import KE.GoesMore
import HandS.Small
import PyProof.Rows.EqNone
import HandS.Records
import HandS.TupAny
import KE.KDictKeyed
import KE.KDictDisplayH
import HandS.Dict
import HandS.ExcInit
import HandS.ExcField
import HandS.ExcOwn
import HandS.WordsExc
import KE.KExcIs
import KE.KExcInit
import PyProof.ExcBaseAll.OverflowError
import HandS.HotCalls
import HandS.ExcInitHot
import HandS.TupMul
import HandS.Star
import HandS.Style
import HandS.MakeKwOnly
import HandS.ExcIs
import KE.KExcLine
import PySem.Challenge.RW_judgeslip_k36_late_ones
set_option Elab.async false
set_option linter.all false
set_option maxRecDepth 100000
set_option maxHeartbeats 2000000
/-! rules of our own: len, str, ==, != of an instance by its class's defs; x in a list of such -/
namespace JsLow
open PySem PySem.Spec PyProof.Rows PySem.W
section
variable {prog : Program} {w : World} {A : Around} {E : Value → Shared → Prop} {s : Shared} {K : Frag} {x C f : Addr} {ox : Obj} {od : Option Obj} {y tb : Value}
theorem ifBound_ne {M : Model} {args : List Value} {Q : Option Value → Shared → Prop} (X : K.In s.heap) (I : InstAt s.heap x ox C od) (hs : findIn K (.ref C) "__ne__" = some (some (.builtin "object.__ne__")))
    (h : wpAny M A (call (.builtin "object.__ne__") (.ref x :: args)) (fun v => Q (some v)) E s) : wpAny M A (callSpecialIfBound? (.ref x) "__ne__" args) Q E s := by
  simp only [callSpecialIfBound?, bindSpecialIfBound?]
  refine wpAny_holding (wpAny_bind (wpAny_bind (wpAny_bind (I.type.here ((looks_findIn X hs).here ?_)))))
  refine wpAny_bind (wpAny_askSetting (wpAny_ite ?_))
  have fin : wpAny M A (call (.builtin "object.__ne__") ([.ref x] ++ args) >>= fun v => pure (some v)) Q E s := wpAny_bind (wpAny_mono h (fun v s' h' => wpAny_pure h') fun _ _ h' => h')
  split
  · exact wpAny_bind (wpAny_of_eq (F.cmp_object.ne.bind _) (wpAny_pure (by exact fin)))
  · exact wpAny_tryCatch (wpAny_bind (wpAny_of_eq (F.cmp_object.ne.bind _) (wpAny_pure (by exact fin))))
theorem objNe_K {Q : Fin → Shared → Prop} (hu : A.units < cLine) (X : K.In s.heap) (I : InstAt s.heap x ox C od) (he : findIn K (.ref C) "__eq__" = some (some (.ref f))) (hf : isFn K (.ref f) = true)
    (hcall : wpAny (model prog w) A (call (.ref f) [.ref x, y]) (fun v s' => ∃ b, v = .bool b ∧ Q (.done (.ret (.bool (!b)))) s') E s) :
    wpAny (model prog w) A (Builtin.«object.__ne__» ⟨[.ref x, y], []⟩) Q E s := by
  unfold Builtin.«object.__ne__»
  repeat (first
    | with_reducible refine wpAny_cRoomFor hu ?_
    | (refine wpAny_bind (m := callSpecialIfBound? (.ref x) (Str.ofString "__eq__") [y])
        (ifBound_K X I he hf (wpAny_mono hcall (fun r s' hr => by
          obtain ⟨b, rfl, hq⟩ := hr
          repeat (first | exact hq | exact wpAny_pure hq | exact wpAny_truthy_bool hq | (refine wpAny_bind (m := truthy (.bool _)) (wpAny_truthy_bool ?_)) | wp_step)) fun _ _ e => e)))
    | wp_step)
/-- x != y by the class's __eq__ -/
theorem ne_K {Q : Value → Shared → Prop} (hu : A.units + 1 < cLine) (X : K.In s.heap) (I : InstAt s.heap x ox C od) (hb : Looks (model prog w) s.heap (typeOf y) tb) (hn : notFirst K C tb = true)
    (hm : mroIn K C (.type "object") = some true) (hne : findIn K (.ref C) "__ne__" = some (some (.builtin "object.__ne__"))) (he : findIn K (.ref C) "__eq__" = some (some (.ref f))) (hf : isFn K (.ref f) = true)
    (h : wpAny (model prog w) A.in1 (call (.ref f) [.ref x, y]) (fun v s' => ∃ b, v = .bool b ∧ Q (.bool (!b)) s') E s) : wpAny (model prog w) A (richCompare .NotEq (.ref x) y) Q E s := by
  have hu1 : A.in1.units < cLine := by show A.units + 1 < cLine; exact hu
  have one : wpAny (model prog w) A (tryCompare (.ref x) "__ne__" y) (fun r s' => ∃ v, r = some v ∧ Q v s') E s := by
    unfold tryCompare
    refine wpAny_bind (ifBound_ne X I hne ?_)
    refine wpAny_call (codeAny_call_builtin F.cmp_object.ne.plain F.cmpEntry_ne (check_slot F.cmpKind_ne F.cmpSplit_ne (I.type.andThen (looks_mroIn X hm)) (F.cmpArgs_ne _ _) (objNe_K (A := A.in1) hu1 X I he hf (wpAny_mono h (fun v s' hv => ?_) fun _ _ e => e))))
    obtain ⟨b, rfl, hq⟩ := hv
    first | exact ⟨b, rfl, wpAny_pure ⟨_, rfl, hq⟩⟩ | exact ⟨b, rfl, ⟨_, rfl, hq⟩⟩
  have hu0 : A.units < cLine := Nat.lt_of_succ_lt hu
  unfold richCompare
  simp only [oneThing_ref]
  refine wpAny_holding (wpAny_bind (wpAny_cRoomFor hu0 ?_))
  rw [cmpInfo_NotEq]
  dsimp only
  refine wpAny_bind (I.type.here (wpAny_bind (hb.here ?_)))
  split
  · rename_i q
    have e : subIn K tb (.ref C) = some false := by
      rcases Bool.or_eq_true_iff.mp hn with e | e
      · rw [beq_iff_eq.mp e] at q; simp at q
      · exact beq_iff_eq.mp e
    refine wpAny_bind ((looks_subIn X e).here ?_)
    simp only [Bool.false_eq_true, if_false]
    refine wpAny_bind (wpAny_mono one (fun r s' z => ?_) fun _ _ e => e)
    obtain ⟨v, rfl, hq⟩ := z
    exact wpAny_pure hq
  · refine wpAny_bind (wpAny_pure ?_)
    simp only [Bool.false_eq_true, if_false]
    refine wpAny_bind (wpAny_mono one (fun r s' z => ?_) fun _ _ e => e)
    obtain ⟨v, rfl, hq⟩ := z
    exact wpAny_pure hq
end
end JsLow

namespace L2
open PySem PySem.Spec PyProof.Rows
section
variable {X : Cx} {CX : CXT} {n : Nat} {C f : Addr} {fd : FuncData} {ps : List Str} {sp : Sp} {E : XK} {pins : List (Addr × Obj)} {σ : St} {H : Hp} {s : Shared}
/-- the callee runs somewhere below the body -/
theorem run_fnA {A : Around} {Q : VK} {us : List Value} {vs : List V} (F : FnOk X.prog X.w X.K X.mg X.base CX n f fd ps sp) (hr : Room n A) (e0 : Env0 X.prog X.w X.K X.mg X.base A X.stack s H) (hb : Binds X.K fd ps []) (hx : Passes CX X E)
    (I : Inv X pins σ H s) (r : Vals vs us) (h : sp vs H Q E) : wpAny (model X.prog X.w) A (call (.ref f) us) (EP X pins σ Q) X.xe s := by
  have hl : (us ++ []).length = ps.length := by rw [List.append_nil, ← r.length]; exact F.len _ _ _ _ h
  have hb' := hb s us I.kIn hl
  rw [List.append_nil] at hb'
  refine wpAny_call (codeAny_mono (F.run A X.stack s H ⟨us, []⟩ us vs Q E hr e0 hb' r h) fun r s' hq => ?_)
  cases r with
  | error e => exact hx pins σ H s e s' I hq
  | ok fl =>
    cases fl with
    | ret u => exact I.after hq
    | next => exact False.elim hq
    | brk => exact False.elim hq
    | cont => exact False.elim hq
theorem inst_of {a dx : Addr} {fs : List (Str × V)} (I : Inv X pins σ H s) (ha : H a = some (.ins C dx fs)) : ∃ od, PySem.W.InstAt s.heap a (PySem.W.instObj C dx) C (some od) := by
  obtain ⟨mA, J, _⟩ := ins_get I.hok ha
  obtain ⟨od, J, _⟩ := J.look
  exact ⟨od, J⟩
/-- what the text says of a class with a special def of its own -/
structure Own (K : PySem.W.Frag) (C : Addr) (name : Str) (f : Addr) : Prop where
  at_ : PySem.W.findIn K (.ref C) name = some (some (.ref f))
  fn : PySem.W.isFn K (.ref f) = true
/-- len(x) -/
def rLenOwn (C : Addr) (sp : Sp) (E : XK) : List V → Hp → VK → Prop := fun xs H Q => ∃ a dx fs, xs = [V.ref a] ∧ H a = some (.ins C dx fs) ∧ sp [.ref a] H (fun z H' => ∃ i : Int, z = .int i ∧ (0 ≤ i ∧ i < 2 ^ 63) ∧ Q (.int i) H') E
theorem call_lenOwn (o : Own X.K C "__len__" f) (F : FnOk X.prog X.w X.K X.mg X.base CX n f fd ps sp) (hb : Binds X.K fd ps []) (hr : Room (n + 1) X.A) (hx : Passes CX X E) : CallR X (.builtin "len") (rLenOwn C sp E) := by
  intro pins s σ H xs us Q I r h
  obtain ⟨a, dx, fs, rfl, ha, q⟩ := h
  obtain ⟨u, rfl, ru⟩ := vals1 r
  cases (show u = Value.ref a from ru)
  obtain ⟨od, J⟩ := inst_of I ha
  obtain ⟨m, hF⟩ := I.fr
  refine PySem.W.len_K hF I.ok.mod.kin J o.at_ o.fn (wpAny_mono (run_fnA (us := [.ref a]) (vs := [.ref a]) F hr.in1 I.env0.in1 hb hx I (.cons rfl .nil) q) (fun w s' z => ?_) fun _ _ x => x)
  obtain ⟨z', H', I', rz, i, ei, hi, qz⟩ := z
  subst ei
  obtain ⟨t, e⟩ := (show ∃ t, w = Value.int i t from rz)
  cases e
  exact ⟨hi, .int i, H', I'.tok _, ⟨_, rfl⟩, qz⟩
/-- str(x) -/
def rStrOwn (C : Addr) (sp : Sp) (E : XK) : List V → Hp → VK → Prop := fun xs H Q => ∃ a dx fs, xs = [V.ref a] ∧ H a = some (.ins C dx fs) ∧ sp [.ref a] H (fun z H' => ∃ i : Str, z = .str i ∧ Q (.str i) H') E
theorem call_strOwn (o : Own X.K C "__str__" f) (F : FnOk X.prog X.w X.K X.mg X.base CX n f fd ps sp) (hb : Binds X.K fd ps []) (hr : Room (n + 2) X.A) (hx : Passes CX X E) : CallR X (.type "str") (rStrOwn C sp E) := by
  intro pins s σ H xs us Q I r h
  obtain ⟨a, dx, fs, rfl, ha, q⟩ := h
  obtain ⟨u, rfl, ru⟩ := vals1 r
  cases (show u = Value.ref a from ru)
  obtain ⟨od, J⟩ := inst_of I ha
  have hr2 : Room n X.A.in1.in1 := (show Room (n + 1) X.A.in1 from Room.in1 hr).in1
  refine PySem.W.kso_call hr2.units0 I.kIn J o.at_ o.fn (wpAny_mono (run_fnA (us := [.ref a]) (vs := [.ref a]) F hr2 I.env0.in1.in1 hb hx I (.cons rfl .nil) q) (fun w s' z => ?_) fun _ _ x => x)
  obtain ⟨z', H', I', rz, i, ei, qz⟩ := z
  subst ei
  obtain ⟨t, e⟩ := (show ∃ t, w = Value.str i t from rz)
  cases e
  exact ⟨.str i, H', I', ⟨_, rfl⟩, qz⟩
/-- repr(x) -/
theorem call_reprOwn (o : Own X.K C "__repr__" f) (F : FnOk X.prog X.w X.K X.mg X.base CX n f fd ps sp) (hb : Binds X.K fd ps []) (hr : Room (n + 1) X.A) (hx : Passes CX X E) : CallR X (.builtin "repr") (rStrOwn C sp E) := by
  intro pins s σ H xs us Q I r h
  obtain ⟨a, dx, fs, rfl, ha, q⟩ := h
  obtain ⟨u, rfl, ru⟩ := vals1 r
  cases (show u = Value.ref a from ru)
  obtain ⟨od, J⟩ := inst_of I ha
  obtain ⟨m, hF⟩ := I.fr
  have hr2 : Room n X.A.in1 := Room.in1 hr
  refine PySem.W.repr_K hr2.units0 hF I.ok.mod.kin J o.at_ o.fn (wpAny_mono (run_fnA (us := [.ref a]) (vs := [.ref a]) F hr2 I.env0.in1 hb hx I (.cons rfl .nil) q) (fun w s' z => ?_) fun _ _ x => x)
  obtain ⟨z', H', I', rz, i, ei, qz⟩ := z
  subst ei
  obtain ⟨t, e⟩ := (show ∃ t, w = Value.str i t from rz)
  cases e
  exact ⟨.str i, H', I', ⟨_, rfl⟩, qz⟩
/-- x == y, both of the class at C, by its __eq__ -/
def rEqOwn (C : Addr) (sp : Sp) (E : XK) : R2 := fun x y H Q => ∃ a dx fs b dy gs, x = .ref a ∧ y = .ref b ∧ H a = some (.ins C dx fs) ∧ H b = some (.ins C dy gs) ∧ sp [x, y] H (fun z H' => ∃ b, z = .bl b ∧ Q (.bl b) H') E
def rNeOwn (C : Addr) (sp : Sp) (E : XK) : R2 := fun x y H Q => ∃ a dx fs b dy gs, x = .ref a ∧ y = .ref b ∧ H a = some (.ins C dx fs) ∧ H b = some (.ins C dy gs) ∧ sp [x, y] H (fun z H' => ∃ b, z = .bl b ∧ Q (.bl (!b)) H') E
/-- == of two of the class at A, below the body -/
theorem rc_own {A : Around} {Q : Bool → Hp → Prop} {a b dx dy : Addr} {fs gs : List (Str × V)} (o : Own X.K C "__eq__" f) (F : FnOk X.prog X.w X.K X.mg X.base CX n f fd ps sp) (hb : Binds X.K fd ps []) (hr : Room n A) (e0 : Env0 X.prog X.w X.K X.mg X.base A X.stack s H) (hx : Passes CX X E)
    (I : Inv X pins σ H s) (ha : H a = some (.ins C dx fs)) (hb' : H b = some (.ins C dy gs)) (q : sp [.ref a, .ref b] H (fun z H' => ∃ b, z = .bl b ∧ Q b H') E) :
    wpAny (model X.prog X.w) A (richCompare .Eq (.ref a) (.ref b)) (fun v s' => ∃ r, v = .bool r ∧ ∃ H', Inv X pins σ H' s' ∧ Q r H') X.xe s := by
  obtain ⟨od, J⟩ := inst_of I ha
  obtain ⟨od', J'⟩ := inst_of I hb'
  obtain ⟨m, hF⟩ := I.fr
  refine PySem.W.cmp_K (op := .Eq) (tb := .ref C) hr.units0 hF I.ok.mod.kin J J'.type (by simp [PySem.W.notFirst]) o.at_ o.fn (wpAny_mono (run_fnA (us := [.ref a, .ref b]) (vs := [.ref a, .ref b]) F hr e0 hb hx I (.cons rfl (.cons rfl .nil)) q) (fun w s' z => ?_) fun _ _ x => x)
  obtain ⟨z', H', I', rz, i, ei, qz⟩ := z
  subst ei
  cases (show w = Value.bool i from rz)
  exact ⟨i, rfl, H', I', qz⟩
theorem op_eqOwn (o : Own X.K C "__eq__" f) (F : FnOk X.prog X.w X.K X.mg X.base CX n f fd ps sp) (hb : Binds X.K fd ps []) (hr : Room n X.A) (hx : Passes CX X E) : OpR X (compareOp .Eq) (rEqOwn C sp E) := by
  intro pins s σ H x y v u Q I rx ry h
  obtain ⟨a, dx, fs, b, dy, gs, rfl, rfl, ha, hb', q⟩ := h
  cases (show v = Value.ref a from rx)
  cases (show u = Value.ref b from ry)
  show wpAny _ _ (richCompare .Eq (.ref a) (.ref b)) _ _ _
  refine wpAny_mono (rc_own (Q := fun r H' => Q (.bl r) H') o F hb hr I.env0 hx I ha hb' q) (fun w s' z => ?_) fun _ _ x => x
  obtain ⟨r, rfl, H', I', qz⟩ := z
  exact ⟨.bl r, H', I', rfl, qz⟩
/-- what != asks besides -/
structure OwnNe (K : PySem.W.Frag) (C : Addr) : Prop where
  ne : PySem.W.findIn K (.ref C) "__ne__" = some (some (.builtin "object.__ne__"))
  mro : PySem.W.mroIn K C (.type "object") = some true
theorem op_neOwn (o : Own X.K C "__eq__" f) (on : OwnNe X.K C) (F : FnOk X.prog X.w X.K X.mg X.base CX n f fd ps sp) (hb : Binds X.K fd ps []) (hr : Room (n + 1) X.A) (hx : Passes CX X E) : OpR X (compareOp .NotEq) (rNeOwn C sp E) := by
  intro pins s σ H x y v u Q I rx ry h
  obtain ⟨a, dx, fs, b, dy, gs, rfl, rfl, ha, hb', q⟩ := h
  cases (show v = Value.ref a from rx)
  cases (show u = Value.ref b from ry)
  show wpAny _ _ (richCompare .NotEq (.ref a) (.ref b)) _ _ _
  obtain ⟨od, J⟩ := inst_of I ha
  obtain ⟨od', J'⟩ := inst_of I hb'
  refine JsLow.ne_K (tb := .ref C) (hu_of hr) I.kIn J J'.type (by simp [PySem.W.notFirst]) on.mro on.ne o.at_ o.fn (wpAny_mono (run_fnA (us := [.ref a, .ref b]) (vs := [.ref a, .ref b]) F hr.in1 I.env0.in1 hb hx I (.cons rfl (.cons rfl .nil)) q) (fun w s' z => ?_) fun _ _ x => x)
  obtain ⟨z', H', I', rz, i, ei, qz⟩ := z
  subst ei
  cases (show w = Value.bool i from rz)
  exact ⟨i, rfl, .bl (!i), H', I', rfl, qz⟩
end
end L2

set_option Elab.async false
set_option linter.all false
set_option maxRecDepth 100000
set_option maxHeartbeats 2000000
namespace GQ
open PySem PySem.SeqAt
open AutoSeq1 (wpAny_loadPart')
open MeetsSeq MeetsSeq2 MeetsSeq3 SeqRoads2
section
variable {prog : Program} {w : World} {A : Around} {R : Result → Shared → Prop}
/-- x in a list: at each turn the list is read anew -/
def InI (prog : Program) (w : World) (A : Around) (R : Result → Shared → Prop) (l : Addr) (x : Value) (N : Nat) (I : Nat → Shared → Prop) : Prop :=
  ∀ i s, I i s → ∃ (items : Array Value) (n : Nat), s.heap.get? l = some { cls := .type "list", data := .seq items n } ∧ items.size = N ∧
    ∀ (h1 : i < items.size), wpAny (model prog w) A.in1 (eqBool items[i] x) (fun r s' => if r = true then R (.ok (.ret (.bool true))) s' else I (i + 1) s') (fun e s' => R (.error e) s') s
theorem in_loopG (l : Addr) (x : Value) (N : Nat) (I : Nat → Shared → Prop) (hl : InI prog w A R l x N I)
    (fin : ∀ s, I N s → R (.ok (.ret (.bool false))) s) (k : Nat) :
    ∀ i : Nat, N - i = k → i ≤ N → ∀ s, I i s →
      wpAny (model prog w) A.in1 (Builtin.«list.__contains__.loop» ⟨[.ref l, x, rawInt i], []⟩) (FinOf prog w A R) (fun e s' => R (.error e) s') s := by
  induction k with
  | zero =>
    intro i hk hi s h
    obtain ⟨items, n, hl1, hs1, _⟩ := hl _ _ h
    have hi' : i = N := by omega
    have hR : R (.ok (.ret (.bool false))) s := fin s (hi' ▸ h)
    obtain ⟨hp, g, d, tk, os⟩ := s
    wp_walk using wpAny_loadPart' hl1
    have hi1 : items[((i : Nat) : Int).toNat]? = none := by simp; omega
    rw [hi1]
    wp_walk
    exact hR
  | succ k ih =>
    intro i hk hi s h
    obtain ⟨items, n, hl1, hs1, turn⟩ := hl _ _ h
    have hlt : i < items.size := by omega
    have ht := turn hlt
    obtain ⟨hp, g, d, tk, os⟩ := s
    wp_walk using wpAny_loadPart' hl1
    have hi1 : items[((i : Nat) : Int).toNat]? = some items[i] := by simp [hlt]
    have hc : ((i : Int) + 1) = ((i + 1 : Nat) : Int) := by omega
    rw [hi1]
    refine wpAny_bind (wpAny_mono ht (fun r s2 h2 => ?_) fun _ _ x => x)
    cases r with
    | true =>
      rw [if_pos rfl] at h2
      obtain ⟨hp2, g2, d2, tk2, os2⟩ := s2
      wp_walk
      exact h2
    | false =>
      rw [if_neg Bool.false_ne_true] at h2
      have hrec := ih (i + 1) (by omega) (by omega) s2 h2
      obtain ⟨hp2, g2, d2, tk2, os2⟩ := s2
      wp_walk
      rw [hc]
      exact ⟨plainId_quiet plain_contains_loop _, codeAny_builtin entry_contains_loop (by
        rw [Around.under_plainId plain_contains_loop _]
        exact hrec)⟩
theorem list_inG (l : Addr) (x : Value) (N : Nat) (I : Nat → Shared → Prop) (hl : InI prog w A R l x N I)
    (fin : ∀ s, I N s → R (.ok (.ret (.bool false))) s) {s : Shared} (h : I 0 s) :
    wpAny (model prog w) A.in1 (Builtin.«list.__contains__» ⟨[.ref l, x], []⟩) (FinOf prog w A R) (fun e s' => R (.error e) s') s := by
  obtain ⟨items, n, hl1, hs1, _⟩ := hl _ _ h
  have hrec := in_loopG (A := A) (R := R) l x N I hl fin _ 0 rfl (Nat.zero_le _) s h
  obtain ⟨hp, g, d, tk, os⟩ := s
  wp_walk using wpAny_loadPart' hl1
  exact ⟨plainId_quiet plain_contains_loop _, codeAny_builtin entry_contains_loop (by
    rw [Around.under_plainId plain_contains_loop _]
    exact hrec)⟩
theorem op_in_listG {E : Value → Shared → Prop} {s : Shared} {l : Addr} {x : Value} {N : Nat} {Q : Value → Shared → Prop} (I : Nat → Shared → Prop)
    (hl : InI prog w A (wants (fun v s' => ∃ b, v = .bool b ∧ Q (.bool b) s') E) l x N I)
    (fin : ∀ s, I N s → Q (.bool false) s) (h : I 0 s) : wpAny (model prog w) A (compareOp .In x (.ref l)) Q E s := by
  obtain ⟨items, n, hl1, hs1, _⟩ := hl _ _ h
  show wpAny _ A (do return .bool (← contains (.ref l) x)) Q E s
  refine wpAny_bind (wpAny_contains_slot ⟨_, hl1, rfl⟩ F.slot_list_contains (wpAny_mono (call_here F.slot_list_contains ⟨_, hl1, rfl⟩ F.entry_list_contains (F.args_list_contains_2 _ _)
    (list_inG (R := wants (fun v s' => ∃ b, v = .bool b ∧ Q (.bool b) s') E) l x N I hl (fun s' q => ⟨false, rfl, fin s' q⟩) h)) (fun v s' hv => ?_) fun _ _ e => e))
  obtain ⟨b, rfl, hq⟩ := hv
  exact wpAny_truthy_bool (wpAny_pure hq)
end
end GQ
namespace L2
open PySem PySem.Spec PyProof.Rows
/-- how == answers, by the abstract heap -/
abbrev Tells := V → V → Bool → Hp → Prop
def EqT (X : Cx) (n : Nat) (D : Tells) : Prop :=
  ∀ (A : Around) (pins : List (Addr × Obj)) (s : Shared) (σ : St) (H : Hp) (x y : V) (u v : Value) (r : Bool), Sub X n A → Inv X pins σ H s → RelV x u → RelV y v → D x y r H →
    wpAny (model X.prog X.w) A (eqBool u v) (fun r' s' => r' = r ∧ ∃ H', Inv X pins σ H' s' ∧ Same H H') X.xe s
def rInT (D : Tells) : R2 := fun x y H Q => ∃ (p : Addr) (xs : List V) (bs : List Bool), y = .ref p ∧ H p = some (.lst xs) ∧ bs.length = xs.length ∧ (∀ (i : Nat) z b, xs[i]? = some z → bs[i]? = some b → D z x b H) ∧ ∀ H', Same H H' → Q (.bl (bs.any id)) H'
theorem op_inT {X : Cx} {n : Nat} {D : Tells} (h : EqT X n D) (mon : ∀ x y r H H', Same H H' → D x y r H → D x y r H') (hr : Room (n + 1) X.A) : OpR X (compareOp .In) (rInT D) := by
  intro pins s σ H x y v u Q I rx ry hq
  obtain ⟨p, xs, bs, rfl, hp, hl, hd, q⟩ := hq
  cases (show u = Value.ref p from ry)
  refine GQ.op_in_listG (N := xs.length) (fun i s' => (∃ H', Inv X pins σ H' s' ∧ Same H H') ∧ (bs.take i).any id = false) (fun i s' z => ?_) (fun s' z => ?_) ⟨⟨H, I, Same.refl H⟩, by simp⟩
  · obtain ⟨⟨H1, I1, e1⟩, nb⟩ := z
    obtain ⟨z, its, k, r, e⟩ := I1.hok p _ (e1 _ _ hp)
    refine ⟨its.toArray, k, e, by rw [List.size_toArray, ← r.length], fun h1 => ?_⟩
    have h1' : i < its.length := by simpa using h1
    have k1 : i < xs.length := by rw [r.length]; exact h1'
    have k2 : i < bs.length := by rw [hl]; exact k1
    obtain ⟨w', hw, rw'⟩ := r.get (List.getElem?_eq_getElem k1)
    have g1 : its[i]? = some its.toArray[i] := by rw [List.getElem?_eq_getElem h1'] <;> simp
    rw [g1] at hw
    rw [Option.some.inj hw]
    refine wpAny_mono (h X.A.in1 pins s' σ H1 _ x w' v _ ⟨hr.in1, rfl⟩ I1 rw' rx (mon _ _ _ _ _ e1 (hd i _ _ (List.getElem?_eq_getElem k1) (List.getElem?_eq_getElem k2)))) (fun r' s2 q2 => ?_) fun _ _ x => x
    obtain ⟨er, H2, I2, e2⟩ := q2
    subst er
    have tk : (bs.take (i + 1)).any id = bs[i] := by
      rw [List.take_succ_eq_append_getElem k2, List.any_append, nb]
      simp
    cases hb : bs[i] with
    | true =>
      rw [if_pos rfl]
      refine ⟨true, rfl, .bl true, H2, I2, rfl, ?_⟩
      have qq := q H2 (e1.trans e2)
      have : bs.any id = true := List.any_eq_true.mpr ⟨bs[i], List.getElem_mem k2, by rw [hb]; rfl⟩
      rw [this] at qq
      exact qq
    | false =>
      rw [if_neg Bool.false_ne_true]
      exact ⟨⟨H2, I2, e1.trans e2⟩, by rw [tk, hb]⟩
  · obtain ⟨⟨H1, I1, e1⟩, nb⟩ := z
    rw [← hl, List.take_length] at nb
    have qq := q H1 e1
    rw [nb] at qq
    exact ⟨.bl false, H1, I1, rfl, qq⟩
/-- == inside a list of two of the class at C -/
theorem eqT_own {X : Cx} {CX : CXT} {n : Nat} {C f : Addr} {fd : FuncData} {ps : List Str} {sp : Sp} {E : XK} {D : Tells} (o : Own X.K C "__eq__" f) (F : FnOk X.prog X.w X.K X.mg X.base CX n f fd ps sp) (hb : Binds X.K fd ps []) (hx : Passes CX X E)
    (hD : ∀ x y r H, D x y r H → ∃ a b dx dy fs gs, x = .ref a ∧ y = .ref b ∧ H a = some (.ins C dx fs) ∧ H b = some (.ins C dy gs) ∧ (a = b → r = true) ∧ sp [.ref a, .ref b] H (fun z H' => ∃ b, z = .bl b ∧ b = r ∧ Same H H') E) : EqT X n D := by
  intro A pins s σ H x y u v r sb I rx ry d
  obtain ⟨a, b, dx, dy, fs, gs, rfl, rfl, ha, hb', hab, q⟩ := hD _ _ _ _ d
  cases (show u = Value.ref a from rx)
  cases (show v = Value.ref b from ry)
  by_cases hc : a = b
  · subst hc
    rw [hab rfl]
    exact SeqAt.EqAt.same (A := A) (s := s) (.ref a) X.prog X.w X.xe _ ⟨rfl, H, I, Same.refl H⟩
  · have e0 : Env0 X.prog X.w X.K X.mg X.base A X.stack s H := by
      have e := I.env0
      exact ⟨by rw [sb.fr]; exact e.frames, e.mod, e.bs, e.bsz, e.funs, e.frf, e.hok, e.bare⟩
    refine GQ.eqBool_refG hc (wpAny_mono (rc_own (Q := fun r' H' => r' = r ∧ Same H H') o F hb sb.room e0 hx I ha hb' q) (fun w s' z => ?_) fun _ _ x => x)
    obtain ⟨r', hw, H', I', er, sm⟩ := z
    exact ⟨r', hw, er, H', I', sm⟩

/-! ### o[a:c] = ys -/
def gSlice (to : TE) (tl th : TO) : TG := fun v σ H Q => to σ H fun o H1 => tl σ H1 fun l H2 => th σ H2 fun u H3 => ∃ (p q : Addr) (xs ys : List V) (a c : Int), o = .ref p ∧ v = .ref q ∧ l = some a ∧ u = some c ∧ H3 p = some (.lst xs) ∧ H3 q = some (.lst ys) ∧ p ≠ q ∧
  0 ≤ a ∧ a ≤ c ∧ c ≤ xs.length ∧ xs.length + ys.length ≤ sizeLine ∧ Q σ (upd H3 p (.lst (xs.take a.toNat ++ ys ++ xs.drop c.toNat)))
theorem pg_slice {X : Cx} {o : Expr} {lo hi : Option Expr} {to : TE} {tl th : TO} {p2 pos : Pos} (ho : PE X o to) (hl : PO X lo tl) (hu : PO X hi th)
    (ha : ∀ v, assign (.Subscript o (.Slice lo hi none p2) pos) X.env v = (do
      let ov ← holding [v] (eval o X.env)
      let iv ← holding [v, ov] (eval (.Slice lo hi none p2) X.env)
      standAt pos
      holding [v, ov, iv] (setItem ov iv v)
      release [iv, v, ov] []) := by intro _; rfl) : PG X (.Subscript o (.Slice lo hi none p2) pos) (gSlice to tl th) := by
  refine ⟨fun pins s σ H v u Q I r h => ?_⟩
  rw [ha]
  refine wpAny_bind (wpAny_holding (thn (ho.run pins s σ H _ I h) fun ov s1 ⟨x, H1, I1, r1, q1⟩ => ?_))
  refine wpAny_bind (wpAny_holding (wpAny_Slice (thn (hl.run pins s1 σ H1 _ I1 q1) fun vl s2 ⟨l, H2, I2, pl, q2⟩ => thn (hu.run pins s2 σ H2 _ I2 q2) fun vu s3 ⟨m, H3, I3, pu, q3⟩ => ?_)))
  rw [evalPart_none]
  refine wpAny_pure ?_
  have I4 : Inv X pins σ H3 { s3 with heap := s3.heap.push { cls := .type "slice", data := .fields #[vl, vu, .none] } } := I3.kept (t' := s3.toks) fun b ob q => Heap.get?_push_of_some _ q
  obtain ⟨p, q, xs, ys, a, c, rfl, rfl, rfl, rfl, hp, hq, hne, h0, hac, hc, hz, k⟩ := q3
  cases (show ov = Value.ref p from r1)
  cases (show u = Value.ref q from r)
  refine wpAny_bind (wpAny_standAt (wpAny_bind (wpAny_holding ?_)))
  have ra : RelV (.int a) vl := by cases pl; exact ⟨_, rfl⟩
  have rc : RelV (.int c) vu := by cases pu; exact ⟨_, rfl⟩
  exact set_slice I4 hp hq hne (Heap.IsSliceOf.new ..) ra rc h0 hac hc hz fun s' I5 => wpAny_release ⟨σ, _, I5, k⟩

/-! ### enumerate(text) -/
def Itse (x : Str) : It := ⟨fun i _ => i < x.cps.size, fun i H v H' => ∃ T c, v = .ref T ∧ H T = none ∧ H' = upd H T (.tup [.int (i : Nat), .str ⟨#[c]⟩]) ∧ x.cps[i]? = some c, fun i _ => i = x.cps.size⟩
theorem draws_str {prog : Program} {w : World} {A : Around} (hh : A.handled = none) (it : Addr) (x : Str) (t : Tok) :
    Draws prog w A it [it] x.cps.size (fun i v => ∃ c u, x.cps[i]? = some c ∧ v = .str ⟨#[c]⟩ u) (fun i h => h.IsStrIter it (strIterType x) x t i) := by
  unfold strIterType
  split
  · exact Draws.strAscii hh it x t
  · exact Draws.strWide hh it x t
theorem turn_enumS {P : Program} {w : World} {K : PySem.W.Frag} {elts : List Expr} {kk : Nat} {tpos : Pos} (x : Str) (t : Tok) (e it : Addr) :
    Turn P w K (.Tuple elts kk tpos) (Itse x) [e, it] e (fun i h => (∃ old, IsEnum h e it ((i : Nat) : Int) old) ∧ h.IsStrIter it (strIterType x) x t i ∧ e ≠ it) where
  mem := by simp
  obj := fun i h st b hb => by
    obtain ⟨⟨old, he⟩, ⟨o, ho, hc, hd⟩, _⟩ := st
    have e' : b = e ∨ b = it := by simpa using hb
    rcases e' with z | z
    · rw [z]; exact ⟨_, he, fun v q => nomatch q⟩
    · rw [z]; exact ⟨o, ho, fun v q => by rw [hd] at q; cases q⟩
  keep := fun i h h' st k => let ⟨⟨old, he⟩, ⟨o, ho, r⟩, hne⟩ := st; ⟨⟨old, k e (by simp) _ he⟩, ⟨o, k it (by simp) o ho, r⟩, hne⟩
  item := by
    intro X hP hw hK hc i pins s σ H E I hf st hg
    subst hP hw hK
    obtain ⟨⟨old, he⟩, hit, hne⟩ := st
    have hel : e < s.heap.objs.size := Heap.lt_size he
    have hil : it < s.heap.objs.size := by obtain ⟨_, q, _⟩ := hit; exact Heap.lt_size q
    refine wpAny_pyNext_enum_itemD (draws_str (A := X.A.in1) (show X.A.in1.handled = none from I.ok.hd hc) it x t) he hit hg hne (by simpa using hne) fun u h' tk hPx ho hit' hT hsz hk => ?_
    obtain ⟨c, tu, hcx, rfl⟩ := hPx
    refine ⟨_, rfl, wpAny_letOwnedTupleGo_enum (s := { s with heap := h', toks := tk + 1 }) ho fun h'' he' sb => ?_⟩
    have hT2 : h''.get? s.heap.objs.size = some { cls := .type "tuple", data := .seq #[.int i tk, .str ⟨#[c]⟩ tu] } := (sb.2 _ (Nat.ne_of_gt hel)).trans hT
    have new : ObjOk X.prog X.w (upd H s.heap.objs.size (.tup [.int (i : Nat), .str ⟨#[c]⟩])) h'' s.heap.objs.size (.tup [.int (i : Nat), .str ⟨#[c]⟩]) :=
      ⟨by show 2 ≤ sizeLine; decide, [.int i tk, .str ⟨#[c]⟩ tu], .cons ⟨_, rfl⟩ (.cons ⟨_, rfl⟩ .nil), ⟨_, hT2, rfl, _, rfl⟩⟩
    have I1 : Inv X pins σ (upd H s.heap.objs.size (.tup [.int (i : Nat), .str ⟨#[c]⟩])) { s with heap := h'', toks := tk + 1 } :=
      I.turnedNew (ch := [e, it]) (fun b ob hb q => (sb.2 b (fun z => hb (by simp [z]))).trans (hk b ob (fun z => hb (by simp [z])) (fun z => hb (by simp [z])) q)) hf (Nat.le_refl _) new
    refine ⟨.ref s.heap.objs.size, _, I1, rfl, ⟨_, c, rfl, I.hok.fresh (Nat.le_refl _), rfl, hcx⟩, ⟨⟨.str ⟨#[c]⟩ tu, ?_⟩, ?_, hne⟩, fun b hb => ?_⟩
    · have e1 : ((i + 1 : Nat) : Int) = (i : Int) + 1 := by omega
      rw [e1]; exact he'
    · obtain ⟨o, q, r⟩ := hit'
      exact ⟨o, (sb.2 it (Ne.symm hne)).trans q, r⟩
    · have hb' : b < s.heap.objs.size := by
        have e' : b = e ∨ b = it := by simpa using hb
        rcases e' with z | z
        · rw [z]; exact hel
        · rw [z]; exact hil
      rw [upd_ne (Nat.ne_of_lt hb')]
      exact (hf b hb).1
  done := by
    intro X hP hw hK hc i pins s σ H E I hf st hg
    subst hP hw hK
    obtain ⟨⟨old, he⟩, hit, hne⟩ := st
    obtain ⟨f0, f1, f2, f3, f4, f5⟩ := hf it (by simp)
    have hin : i = x.cps.size := hg
    subst hin
    exact wpAny_pyNext_enum_endD (draws_str (A := X.A.in1) (show X.A.in1.handled = none from I.ok.hd hc) it x t) he hit fun h' eb => ⟨rfl, I.turned (t' := s.toks) (fun b o hb q => eb b o hb q) f0 f1 f3 f4 f5⟩
  self := fun A i s Q E st h => let ⟨⟨_, he⟩, _⟩ := st; wpAny_pyIter_enum he h
def iEnumS (ta : TA) : TI := fun σ H R => ta σ H fun vs H1 => ∃ x, vs = [.str x] ∧ R (Itse x) H1
theorem pi_enumS {X : Cx} {e : Expr} {ta : TA} {p pos tpos : Pos} {elts : List Expr} {kk : Nat} (hg : Gl X "enumerate") (hm : X.mg "enumerate" = none) (ha : PA X [e] ta) (hs : starEach [e] X.env = [(false, eval e X.env)] := by rfl) :
    PI X (.Tuple elts kk tpos) (.Call (.Name "enumerate" p) [e] [] pos) (iEnumS ta) := by
  refine ⟨fun pins s σ H R I h => ?_⟩
  refine Call_ (ld_blt I hg hm boot_enumerate (PyProof.Rows.callWith_type1 (thn (ha.run pos pins s σ H _ I h) fun us s1 ⟨vs, H1, I1, r1, q1⟩ => ?_) hs rfl))
  obtain ⟨x, ex, q⟩ := q1
  subst ex
  obtain ⟨u, rfl, ru⟩ := vals1 r1
  obtain ⟨t, rfl⟩ := ru
  refine call_enumerate_str fun h' he hit hsz hk => wpAny_pyIter_enum he ?_
  have I2 : Inv X pins σ H1 { s1 with heap := h' } := I1.kept (t' := s1.toks) hk
  refine ⟨s1.heap.objs.size + 1, [s1.heap.objs.size + 1, s1.heap.objs.size], _, _, H1, rfl, I2, turn_enumS x t (s1.heap.objs.size + 1) s1.heap.objs.size, ⟨⟨.none, he⟩, hit, Nat.succ_ne_self _⟩, fun b hb => ?_, q⟩
  have e' : b = s1.heap.objs.size + 1 ∨ b = s1.heap.objs.size := by simpa using hb
  have hle : s1.heap.objs.size ≤ b := by
    rcases e' with z | z
    · rw [z]; exact Nat.le_add_right _ _
    · rw [z]; exact Nat.le_refl _
  exact I1.fpOk hle (I1.hok.fresh hle)
theorem walk_enumS {z : Str} : Walk (Itse z) z.cps.size (fun _ => True) (fun i H v H' => ∃ T c, v = .ref T ∧ H T = none ∧ H' = upd H T (.tup [.int (i : Nat), .str ⟨#[c]⟩]) ∧ z.cps[i]? = some c) :=
  ⟨fun _ _ h _ => h, fun _ _ => rfl, fun _ _ _ _ _ _ y => y⟩
end L2

set_option Elab.async false
set_option linter.all false
set_option maxRecDepth 100000
set_option maxHeartbeats 2000000
namespace L2
open PySem PySem.Spec PyProof.Rows
/-! ### len(range(n)) -/
theorem call_len_range {prog : Program} {w : World} {A : Around} {E : Value → Shared → Prop} {s : Shared} {r : Addr} {a b : Int} {t u v : Tok} {Q : Value → Shared → Prop} (hr : IsRange s.heap r a b 1 t u v) (h : (b - a).toNat < 2 ^ 62)
    (hq : Q (.int ((b - a).toNat : Nat) (s.toks + 1)) { s with toks := s.toks + 1 + 1 }) : wpAny (model prog w) A (call (.builtin "len") [.ref r]) Q E s := by
  have hT : s.TypeIs (.ref r) "range" := ⟨_, hr, rfl⟩
  have hn : Builtin.Range.rangeSize a b 1 = ((b - a).toNat : Nat) := rangeSize_nat a b
  refine call_len_slot (n := ((b - a).toNat : Nat)) hT F.slot_range_len (fun Q' hq' => wpAny_call_entry F.slot_range_len hT F.entry_range_len ?_ (F.args_range_len_1 _)) (by omega) (by omega) hq
  obtain ⟨hp, g, d, tk, os⟩ := s
  unfold Builtin.«range.__len__»
  have h2 : ¬ ((((b - a).toNat : Nat) : Int) ≥ 2 ^ 63) := by omega
  refine wpAny_bind (wpAny_pure ?_)
  show wpAny _ _ (Builtin.Range.rangeFields (.ref r) >>= _) _ _ _
  unfold Builtin.Range.rangeFields
  repeat (first
    | (with_reducible refine wpAny_bind ?_)
    | (with_reducible refine wpAny_field hr rfl rfl ?_)
    | (with_reducible refine wpAny_pure ?_)
    | (simp only [hn, if_neg h2])
    | wp_step)
  all_goals first | exact ⟨_, rfl, hq'⟩ | exact hq' | skip
def tLenRg (te : St → Hp → (Int → Int → Hp → Prop) → Prop) : TE := fun σ H Q => te σ H fun a b H1 => (b - a).toNat < 2 ^ 62 ∧ Q (.int ((b - a).toNat : Nat)) H1
theorem pe_lenRg {X : Cx} {e : Expr} {te : St → Hp → (Int → Int → Hp → Prop) → Prop} {p pos : Pos} (hg : Gl X "len") (hm : X.mg "len" = none) (he : PRg X e te) (na : starEach [e] X.env = (false, eval e X.env) :: starEach [] X.env := by rfl) :
    PE X (.Call (.Name "len" p) [e] [] pos) (tLenRg te) := by
  refine ⟨fun pins s σ H Q I h => ?_⟩
  refine Call_ (ld_blt I hg hm PySem.boot_len (PyProof.Rows.callWith_builtin1 (args_cons (thn (he pins s σ H _ I h) fun x s1 ⟨r, a, b, t, u, v, H1, ex, hr, I1, ok, q⟩ => args_nil ?_) na) na rfl))
  subst ex
  exact call_len_range hr ok ⟨.int _, H1, I1.tok _, ⟨_, rfl⟩, q⟩
end L2

set_option Elab.async false
set_option linter.all false
set_option maxRecDepth 100000
set_option maxHeartbeats 2000000
/-! trees: what a thing is; their texts; how they stand in the heap -/
namespace Js
open PySem L2
inductive Tr where
  | nil
  | pr (l r : Tr)
  deriving DecidableEq
namespace Tr
def size : Tr → Nat
  | nil => 0
  | pr l r => 1 + l.size + r.size
def codes : Tr → List Nat
  | nil => [46]
  | pr l r => 40 :: (l.codes ++ (r.codes ++ [41]))
def text (t : Tr) : Str := ⟨t.codes.toArray⟩
theorem text_list (t : Tr) : t.text.cps.toList = t.codes := rfl
theorem codes_len : ∀ t : Tr, t.codes.length = 3 * t.size + 1
  | nil => rfl
  | pr l r => by
    have h1 := codes_len l
    have h2 := codes_len r
    simp only [codes, size, List.length_cons, List.length_append, List.length_nil]
    omega
theorem text_len (t : Tr) : t.text.length = 3 * t.size + 1 := by
  have h : t.text.length = t.codes.length := by
    show t.codes.toArray.size = _
    rw [List.size_toArray]
  rw [h, codes_len]
/-- codes are read in one way -/
theorem codes_pre : ∀ (t u : Tr) (p q : List Nat), t.codes ++ p = u.codes ++ q → t = u ∧ p = q
  | nil, nil, p, q, h => ⟨rfl, by simpa [codes] using h⟩
  | nil, pr l r, p, q, h => by simp [codes] at h
  | pr l r, nil, p, q, h => by simp [codes] at h
  | pr l r, pr l' r', p, q, h => by
    simp only [codes, List.cons_append, List.append_assoc, List.cons.injEq, true_and] at h
    obtain ⟨e1, h1⟩ := codes_pre l l' _ _ h
    obtain ⟨e2, h2⟩ := codes_pre r r' _ _ h1
    subst e1 e2
    simp only [List.nil_append, List.cons.injEq, true_and] at h2
    exact ⟨rfl, h2⟩
theorem codes_inj {t u : Tr} (h : t.codes = u.codes) : t = u := (codes_pre t u [] [] (by simpa using h)).1
theorem text_inj {t u : Tr} (h : t.text = u.text) : t = u := codes_inj (by rw [← text_list, ← text_list, h])
theorem size_nil {t : Tr} (h : t.size = 0) : t = nil := by
  cases t with
  | nil => rfl
  | pr l r => simp [size] at h
theorem small_eq {t u : Tr} (h : t.size = u.size) (h1 : t.size ≤ 1) : t = u := by
  cases t with
  | nil => exact (size_nil h.symm).symm
  | pr l r =>
    cases u with
    | nil => simp [size] at h
    | pr l' r' =>
      simp only [size] at h h1
      have e1 := size_nil (t := l) (by omega)
      have e2 := size_nil (t := r) (by omega)
      have e3 := size_nil (t := l') (by omega)
      have e4 := size_nil (t := r') (by omega)
      rw [e1, e2, e3, e4]
def head : Tr → Tr
  | nil => nil
  | pr l _ => l
def tail : Tr → Tr
  | nil => nil
  | pr _ r => r
end Tr
open Tr (small_eq)
/-! ### the attributes -/
theorem n_fs : ¬ (("first" : Str) = "second") := by decide +kernel
theorem n_fz : ¬ (("first" : Str) = "size") := by decide +kernel
theorem n_sf : ¬ (("second" : Str) = "first") := by decide +kernel
theorem n_sz : ¬ (("second" : Str) = "size") := by decide +kernel
def tf (f s : V) (n : Int) : List (Str × V) := putF "size" (.int n) (putF "second" s (putF "first" f []))
theorem tf_len (f s : V) (n : Int) : (tf f s n).length ≤ 3 := by
  unfold tf
  have h1 := length_putF "first" f []
  have h2 := length_putF "second" s (putF "first" f [])
  have h3 := length_putF "size" (.int n) (putF "second" s (putF "first" f []))
  simp only [List.length_nil] at h1
  omega
theorem tf_first (f s : V) (n : Int) : (tf f s n).lookup ("first" : Str) = some f := by
  unfold tf
  rw [lookup_putF, if_neg n_fz, lookup_putF, if_neg n_fs, lookup_putF, if_pos rfl]
theorem tf_second (f s : V) (n : Int) : (tf f s n).lookup ("second" : Str) = some s := by
  unfold tf
  rw [lookup_putF, if_neg n_sz, lookup_putF, if_pos rfl]
theorem tf_size (f s : V) (n : Int) : (tf f s n).lookup ("size" : Str) = some (.int n) := by
  unfold tf
  rw [lookup_putF, if_pos rfl]
theorem tf_no (f s : V) (n : Int) {m : Str} (h1 : ¬ m = "size") (h2 : ¬ m = "second") (h3 : ¬ m = "first") : (tf f s n).lookup m = none := by
  unfold tf
  rw [lookup_putF, if_neg h1, lookup_putF, if_neg h2, lookup_putF, if_neg h3]
  all_goals rfl
/-- a thing stands at a -/
inductive Th (C : Addr) (H : Hp) : Addr → Tr → Prop where
  | nil {a dx : Addr} (h : H a = some (.ins C dx (tf .non .non 0))) : Th C H a .nil
  | pr {a dx b c : Addr} {l r : Tr} (h : H a = some (.ins C dx (tf (.ref b) (.ref c) ((Tr.pr l r).size : Nat)))) (hl : Th C H b l) (hr : Th C H c r) : Th C H a (.pr l r)
/-- all that is no list stays -/
def KT (H H' : Hp) : Prop := ∀ a o, H a = some o → (∀ xs, o ≠ HO.lst xs) → H' a = some o
theorem KT.of {H H' : Hp} (s : Same H H') : KT H H' := fun _ _ h _ => s _ _ h
theorem KT.refl (H : Hp) : KT H H := fun _ _ h _ => h
theorem KT.trans {H H1 H2 : Hp} (a : KT H H1) (b : KT H1 H2) : KT H H2 := fun x o h n => b x o (a x o h n) n
theorem KT.lst {H : Hp} {p : Addr} {o : HO} {xs : List V} (hp : H p = some (.lst xs)) : KT H (upd H p o) := fun a u h n => by
  rw [upd_ne]
  · exact h
  · intro e
    subst e
    exact n _ (Option.some.inj (h.symm.trans hp))
theorem KT.new {H : Hp} {p : Addr} {o : HO} (hp : H p = none) : KT H (upd H p o) := fun a u h n => by
  rw [upd_ne (ne_of_none h hp)]
  exact h
theorem _root_.L2.Same.new {H : Hp} {p : Addr} {o : HO} (hp : H p = none) : Same H (upd H p o) := fun a u h => by
  rw [upd_ne (ne_of_none h hp)]
  exact h
/-- a list that is new since H0 changes -/
theorem _root_.L2.Same.set {H0 H : Hp} {p : Addr} {o : HO} (s : Same H0 H) (hp : H0 p = none) : Same H0 (upd H p o) := fun a u h => by
  rw [upd_ne (ne_of_none h hp)]
  exact s _ _ h
theorem Th.kt {C : Addr} {H H' : Hp} (k : KT H H') {a : Addr} {t : Tr} (h : Th C H a t) : Th C H' a t := by
  induction h with
  | nil h => exact .nil (k _ _ h (fun _ e => nomatch e))
  | pr h _ _ ih1 ih2 => exact .pr (k _ _ h (fun _ e => nomatch e)) ih1 ih2
theorem Th.same {C : Addr} {H H' : Hp} (s : Same H H') {a : Addr} {t : Tr} (h : Th C H a t) : Th C H' a t := h.kt (KT.of s)
theorem Th.obj {C : Addr} {H : Hp} {a : Addr} {t : Tr} (h : Th C H a t) : ∃ dx f s, H a = some (.ins C dx (tf f s (t.size : Nat))) := by
  cases h with
  | nil h => exact ⟨_, _, _, h⟩
  | pr h _ _ => exact ⟨_, _, _, h⟩
theorem tf_ref_inj {C dx dx' : Addr} {f s f' s' : V} {n n' : Int} (h : HO.ins C dx (tf f s n) = HO.ins C dx' (tf f' s' n')) : f = f' ∧ s = s' ∧ n = n' := by
  injection h with _ _ h3
  have e1 := congrArg (List.lookup ("first" : Str)) h3
  have e2 := congrArg (List.lookup ("second" : Str)) h3
  have e3 := congrArg (List.lookup ("size" : Str)) h3
  rw [tf_first, tf_first] at e1
  rw [tf_second, tf_second] at e2
  rw [tf_size, tf_size] at e3
  exact ⟨Option.some.inj e1, Option.some.inj e2, V.int.inj (Option.some.inj e3)⟩
theorem Th.inj {C : Addr} {H : Hp} {a : Addr} {t u : Tr} (h : Th C H a t) (h' : Th C H a u) : t = u := by
  induction h generalizing u with
  | nil h =>
    cases h' with
    | nil _ => rfl
    | pr h' _ _ =>
      have e := Option.some.inj (h.symm.trans h')
      exact V.noConfusion (tf_ref_inj e).1
  | pr h _ _ ih1 ih2 =>
    cases h' with
    | nil h' =>
      have e := Option.some.inj (h.symm.trans h')
      exact V.noConfusion (tf_ref_inj e).1
    | pr h' h1 h2 =>
      have e := tf_ref_inj (Option.some.inj (h.symm.trans h'))
      have e1 := V.ref.inj e.1
      have e2 := V.ref.inj e.2.1
      subst e1 e2
      rw [ih1 h1, ih2 h2]
/-- a pair: what its attributes hold -/
theorem Th.pair {C : Addr} {H : Hp} {a : Addr} {l r : Tr} (h : Th C H a (.pr l r)) : ∃ dx b c, H a = some (.ins C dx (tf (.ref b) (.ref c) ((Tr.pr l r).size : Nat))) ∧ Th C H b l ∧ Th C H c r := by
  cases h with
  | pr h hl hr => exact ⟨_, _, _, h, hl, hr⟩
theorem pr_tru (l r : Tr) : true = ((((Tr.pr l r).size : Nat) : Int) != 0) := by
  have : (((Tr.pr l r).size : Nat) : Int) ≠ 0 := by simp only [Tr.size]; omega
  exact (bne_iff_ne.mpr this).symm
/-! ### stacks: the top comes first -/
theorem last_rev {α : Type} (v : α) (r : List α) : (v :: r).reverse[(v :: r).reverse.length - 1]? = some v := by
  rw [List.reverse_cons, List.length_append, List.length_reverse]
  show (r.reverse ++ [v])[r.length + 1 - 1]? = some v
  rw [Nat.add_sub_cancel, List.getElem?_append_right (by rw [List.length_reverse]; exact Nat.le_refl _), List.length_reverse, Nat.sub_self]
  rfl
theorem drop_rev {α : Type} (v : α) (r : List α) : (v :: r).reverse.dropLast = r.reverse := by
  rw [List.reverse_cons, List.dropLast_concat]
theorem push_rev {α : Type} (v : α) (r : List α) : r.reverse ++ [v] = (v :: r).reverse := by
  rw [List.reverse_cons]
/-! ### two stacks of things -/
/-- a pair of things, in a tuple -/
def PrAt (C : Addr) (H : Hp) (v : V) (p : Tr × Tr) : Prop := ∃ q a b, v = .ref q ∧ H q = some (.tup [.ref a, .ref b]) ∧ Th C H a p.1 ∧ Th C H b p.2
theorem PrAt.kt {C : Addr} {H H' : Hp} (k : KT H H') {v : V} {p : Tr × Tr} (h : PrAt C H v p) : PrAt C H' v p := by
  obtain ⟨q, a, b, e, hq, h1, h2⟩ := h
  exact ⟨q, a, b, e, k _ _ hq (fun _ e => nomatch e), h1.kt k, h2.kt k⟩
theorem prs_kt {C : Addr} {H H' : Hp} (k : KT H H') : ∀ {rs : List V} {ps : List (Tr × Tr)}, Paired (PrAt C H) rs ps → Paired (PrAt C H') rs ps
  | _, _, .nil => .nil
  | _, _, .cons h t => .cons (h.kt k) (prs_kt k t)
def pm (ps : List (Tr × Tr)) : Nat := (ps.map fun p => 2 * p.1.size + 1).sum
theorem pm_cons (p : Tr × Tr) (ps : List (Tr × Tr)) : pm (p :: ps) = 2 * p.1.size + 1 + pm ps := by simp [pm]
theorem pm_len : ∀ ps : List (Tr × Tr), ps.length ≤ pm ps
  | [] => Nat.zero_le _
  | p :: ps => by
    have := pm_len ps
    rw [pm_cons, List.length_cons]
    omega
/-- a thing that waits, or a bracket to shut -/
def WtAt (C : Addr) (H : Hp) (v : V) (o : Option Tr) : Prop := (v = .non ∧ o = none) ∨ ∃ a t, v = .ref a ∧ o = some t ∧ Th C H a t
theorem WtAt.kt {C : Addr} {H H' : Hp} (k : KT H H') {v : V} {o : Option Tr} (h : WtAt C H v o) : WtAt C H' v o := by
  rcases h with h | ⟨a, t, e1, e2, h⟩
  · exact .inl h
  · exact .inr ⟨a, t, e1, e2, h.kt k⟩
theorem wts_kt {C : Addr} {H H' : Hp} (k : KT H H') : ∀ {rs : List V} {ps : List (Option Tr)}, Paired (WtAt C H) rs ps → Paired (WtAt C H') rs ps
  | _, _, .nil => .nil
  | _, _, .cons h t => .cons (h.kt k) (wts_kt k t)
def wout : Option Tr → List Nat
  | none => [41]
  | some t => t.codes
def wouts (ps : List (Option Tr)) : List Nat := (ps.map wout).flatten
theorem wouts_cons (p : Option Tr) (ps : List (Option Tr)) : wouts (p :: ps) = wout p ++ wouts ps := by simp [wouts]
def wm1 : Option Tr → Nat
  | none => 1
  | some t => 3 * t.size + 1
def wm (ps : List (Option Tr)) : Nat := (ps.map wm1).sum
theorem wm_cons (p : Option Tr) (ps : List (Option Tr)) : wm (p :: ps) = wm1 p + wm ps := by simp [wm]
theorem wm_len : ∀ ps : List (Option Tr), ps.length ≤ wm ps
  | [] => Nat.zero_le _
  | p :: ps => by
    have := wm_len ps
    rw [wm_cons, List.length_cons]
    cases p with
    | none => simp only [wm1]; omega
    | some t => simp only [wm1]; omega
theorem line4 : 100000 < sizeLine := by rw [sizeLine_eq]; decide
end Js

set_option Elab.async false
set_option linter.all false
set_option maxRecDepth 100000
set_option maxHeartbeats 2000000
namespace Js
open PySem L2
def top (i : Nat) : Stmt := PySem.Challenge.pw_judgeslip_k36_late_ones.main.body.getD i (.Pass ⟨0, 0, 0, 0⟩)
abbrev sInit : Stmt := inClass (top 6) 0
abbrev sHead : Stmt := inClass (top 6) 1
abbrev sTail : Stmt := inClass (top 6) 2
abbrev sLen : Stmt := inClass (top 6) 3
abbrev sEq : Stmt := inClass (top 6) 4
abbrev sStr : Stmt := inClass (top 6) 5
abbrev sRepr : Stmt := inClass (top 6) 6
abbrev sPairs : Stmt := top 7
abbrev sAlike : Stmt := top 8
abbrev sSigns : Stmt := top 9
/-- what the text says of Thing, and which built-ins are as they were -/
structure Txt (K : PySem.W.Frag) (mg : Str → Option Value) (C : Addr) : Prop where
  cl : Cls K C
  nF : NoAttr K C "first"
  nS : NoAttr K C "second"
  nZ : NoAttr K C "size"
  mgC : mg "Thing" = some (.ref C)
  mgM : ∃ t, mg "MOST_PAIRS" = some (.int 4000 t)
  len : mg "len" = none
  range : mg "range" = none
  isi : mg "isinstance" = none
  ca : PySem.W.findIn K (.ref C) "__class__" = some (some (.builtin "object.__class__"))
  cn : PySem.W.specialIn K (.builtin "object.__class__") "__get__" = some (some (.builtin "getset_descriptor.__get__"))
  ct : PySem.W.takesIn K (.builtin "object.__class__") = some true
  cm : PySem.W.mroIn K C (.type "object") = some true
  ne : PySem.W.findIn K (.ref C) "__ne__" = some (some (.builtin "object.__ne__"))
/-- a def of the top: where it stands -/
structure At (K : PySem.W.Frag) (mg : Str → Option Value) (x : Str) (st : Stmt) (ps : List Str) (f : Addr) (fd : FuncData) : Prop where
  F : Fun K x x st f fd
  mgf : mg x = some (.ref f)
  b : Binds K fd ps []
/-! ### promises -/
def PairsOf (C : Addr) (H : Hp) (x y : V) (n : Nat) : Prop := (x = .non ∧ y = .non ∧ n = 0) ∨ ∃ a b t u, x = .ref a ∧ y = .ref b ∧ Th C H a t ∧ Th C H b u ∧ n = 1 + t.size + u.size
def spPairs (C : Addr) : Sp := fun vs H Q _ => ∃ x y n, vs = [x, y] ∧ PairsOf C H x y n ∧ Q (.int (n : Nat)) H
def spInit (C : Addr) : Sp := fun vs H Q _ => ∃ (p dx : Addr) (x y : V) (n : Nat), vs = [.ref p, x, y] ∧ H p = some (.ins C dx []) ∧ PairsOf C H x y n ∧ n ≤ 4000 ∧ Q .non (upd H p (.ins C dx (tf x y (n : Nat))))
def spHead (C : Addr) : Sp := fun vs H Q _ => ∃ a t, vs = [.ref a] ∧ Th C H a t ∧ ∀ b, Th C H b t.head → Q (.ref b) H
def spTail (C : Addr) : Sp := fun vs H Q _ => ∃ a t, vs = [.ref a] ∧ Th C H a t ∧ ∀ b, Th C H b t.tail → Q (.ref b) H
def spLen (C : Addr) : Sp := fun vs H Q _ => ∃ a t, vs = [.ref a] ∧ Th C H a t ∧ t.size ≤ 4000 ∧ Q (.int (t.size : Nat)) H
def spEqT (C : Addr) : Sp := fun vs H Q _ => ∃ a b t u, vs = [.ref a, .ref b] ∧ Th C H a t ∧ Th C H b u ∧ t.size ≤ 4000 ∧ ∀ H', Same H H' → Q (.bl (decide (t = u))) H'
def sgn (c : Nat) : V := .str ⟨#[c]⟩
def spSigns (C : Addr) : Sp := fun vs H Q _ => ∃ a t, vs = [.ref a] ∧ Th C H a t ∧ t.size ≤ 4000 ∧ ∀ p H', Same H H' → H p = none → H' p = some (.lst (t.codes.map sgn)) → Q (.ref p) H'
def spStr (C : Addr) : Sp := fun vs H Q _ => ∃ a t, vs = [.ref a] ∧ Th C H a t ∧ t.size ≤ 4000 ∧ ∀ H', Same H H' → Q (.str t.text) H'
theorem mk_pr {C a b : Addr} {H : Hp} {t u : Tr} {Q : VK} {E : XK} (ha : Th C H a t) (hb : Th C H b u) (hz : 1 + t.size + u.size ≤ 4000) (k : ∀ x H', Same H H' → H x = none → Th C H' x (.pr t u) → Q (.ref x) H') :
    ∀ x dx, H x = none → H dx = none → dx ≠ x → spInit C (.ref x :: ([.ref a, .ref b] ++ [])) (upd (upd H dx (.own x)) x (.ins C dx [])) (fun v H3 => v = .non ∧ Q (.ref x) H3) E := by
  intro x dx nx ndx ne
  have s0 : Same H (upd (upd H dx (.own x)) x (.ins C dx [])) := fun b o e => by
    rw [upd_ne (ne_of_none e nx), upd_ne (ne_of_none e ndx)]
    exact e
  refine ⟨x, dx, _, _, 1 + t.size + u.size, rfl, upd_same, .inr ⟨a, b, t, u, rfl, rfl, ha.same s0, hb.same s0, rfl⟩, hz, rfl, ?_⟩
  rw [upd_upd]
  have s1 : Same H (upd (upd H dx (.own x)) x (.ins C dx (tf (.ref a) (.ref b) ((1 + t.size + u.size : Nat) : Int)))) := fun b o e => by
    rw [upd_ne (ne_of_none e nx), upd_ne (ne_of_none e ndx)]
    exact e
  exact k x _ s1 nx (.pr upd_same (ha.same s1) (hb.same s1))
theorem mk_nil {C : Addr} {H : Hp} {Q : VK} {E : XK} (k : ∀ x H', Same H H' → H x = none → Th C H' x .nil → Q (.ref x) H') :
    ∀ x dx, H x = none → H dx = none → dx ≠ x → spInit C (.ref x :: ([] ++ [.non, .non])) (upd (upd H dx (.own x)) x (.ins C dx [])) (fun v H3 => v = .non ∧ Q (.ref x) H3) E := by
  intro x dx nx ndx ne
  refine ⟨x, dx, _, _, 0, rfl, upd_same, .inl ⟨rfl, rfl, rfl⟩, by decide, rfl, ?_⟩
  rw [upd_upd]
  have s1 : Same H (upd (upd H dx (.own x)) x (.ins C dx (tf .non .non ((0 : Nat) : Int)))) := fun b o e => by
    rw [upd_ne (ne_of_none e nx), upd_ne (ne_of_none e ndx)]
    exact e
  exact k x _ s1 nx (.nil upd_same)
section
variable {P : Program} {w : World} {K : PySem.W.Frag} {mg : Str → Option Value} {base : Heap} {C : Addr}
theorem scP : FnScope ["first", "second"] ["first", "second"] (defScope sPairs) := ⟨rfl, rfl, rfl, by decide +kernel, rfl, by decide +kernel, by decide +kernel⟩
theorem ok_pairs {f : Addr} {fd : FuncData} (F : Fun K "pairs_in" "pairs_in" sPairs f fd) (T : Txt K mg C) : FnOk P w K mg base CX0 1 f fd ["first", "second"] (spPairs C) := by
  refine F.ok scP (fun vs H Q E h => ?_) (fun cdv A outer s H vs Q E hr h => ?_)
  · obtain ⟨x, y, n, rfl, _⟩ := h
    rfl
  · obtain ⟨x, y, n, rfl, hp, k⟩ := h
    refine ⟨_, pss_cons (ps_if (PW.pt (pw_and (pt_cmp (pc_isN (pv 0))) (pw_and1 (pt_cmp (pc_isN (pv 1)))))) (pss_one (ps_ret pe_int)) pss_nil)
      (pss_one (ps_ret (pe_op op_add (pe_op op_add pe_int (pe_fld (pv 0) rfl)) (pe_fld (pv 1) rfl)))), ?_⟩
    rcases hp with ⟨rfl, rfl, rfl⟩ | ⟨a, b, t, u, rfl, rfl, ha, hb, rfl⟩
    · refine ⟨_, rfl, _, rfl, ?_⟩
      refine iteT ⟨_, rfl, _, rfl, ?_⟩
      exact iteT k
    · refine ⟨_, rfl, _, rfl, ?_⟩
      refine iteF ?_
      refine iteF ?_
      obtain ⟨dx, f1, s1, h1⟩ := ha.obj
      obtain ⟨dy, f2, s2, h2⟩ := hb.obj
      refine ⟨_, rfl, _, _, _, _, _, rfl, h1, T.cl, T.nZ, tf_size _ _ _, _, _, rfl, rfl, _, rfl, _, _, _, _, _, rfl, h2, T.cl, T.nZ, tf_size _ _ _, _, _, rfl, rfl, ?_⟩
      have e : ((1 : Int) + (t.size : Nat) + (u.size : Nat)) = ((1 + t.size + u.size : Nat) : Int) := by omega
      show Q (V.int ((1 : Int) + (t.size : Nat) + (u.size : Nat))) H
      rw [e]
      exact k
theorem scI : FnScope ["self", "first", "second", "size"] ["self", "first", "second"] (defScope sInit) := ⟨rfl, rfl, rfl, by decide +kernel, rfl, by decide +kernel, by decide +kernel⟩
theorem ok_init {f fP : Addr} {fd fdP : FuncData} (F : FunD K "__init__" "Thing.__init__" (defArgs sInit) (defBody sInit) (defScope sInit) [.non, .non] [] f fd) (T : Txt K mg C) (AP : At K mg "pairs_in" sPairs ["first", "second"] fP fdP) : FnOk P w K mg base CX0 2 f fd ["self", "first", "second"] (spInit C) := by
  have GP : FnOk P w K mg base CX0 1 fP fdP ["first", "second"] (spPairs C) := ok_pairs AP.F T
  obtain ⟨tm, mgM⟩ := T.mgM
  refine F.ok scI (fun vs H Q E h => ?_) (fun cdv A outer s H vs Q E hr h => ?_)
  · obtain ⟨p, dx, x, y, n, rfl, _⟩ := h
    rfl
  · obtain ⟨p, dx, x, y, n, rfl, hp, hxy, hn, k⟩ := h
    refine ⟨_, PSs.nox (pss_cons (ps_set (i := 3) scI.nd rfl (Or.inl rfl) (pe_call GP hr rfl AP.mgf AP.F.kp AP.b .nil pass0 (pa_cons (pv 1) (pa_cons (pv 2) pa_nil))))
      (pss_cons (ps_if (pt_cmpR op_gt (pv 3) (pe_glob (v := .int 4000) rfl mgM ⟨_, rfl⟩) (nomark _)) (pss_one ps_never) pss_nil)
      (pss_cons (ps_fld (pv 0) (pv 1) rfl) (pss_cons (ps_fld (pv 0) (pv 2) rfl) (pss_one (ps_fld (pv 0) (pv 3) rfl)))))), ?_⟩
    refine ⟨_, rfl, _, rfl, x, y, n, rfl, hxy, ?_⟩
    refine ⟨_, rfl, _, _, rfl, rfl, _, rfl, ?_⟩
    have ed : decide ((4000 : Int) < (n : Nat)) = false := decide_eq_false (by omega)
    rw [ed]
    refine iteF ?_
    refine ⟨_, rfl, _, rfl, p, C, dx, [], rfl, hp, T.cl, T.nF, (by show 0 < 1000; decide), ?_⟩
    refine ⟨_, rfl, _, rfl, p, C, dx, _, rfl, upd_same, T.cl, T.nS, Nat.lt_of_le_of_lt (length_putF _ _ _) (by show 0 + 1 < 1000; decide), ?_⟩
    refine ⟨_, rfl, _, rfl, p, C, dx, _, rfl, upd_same, T.cl, T.nZ, ?_, ?_⟩
    · have h1 := length_putF "first" x []
      have h2 := length_putF "second" y (putF "first" x [])
      simp only [List.length_nil] at h1
      omega
    · show Q .non (upd (upd (upd H p _) p _) p (.ins C dx (tf x y (n : Nat))))
      rw [upd_upd, upd_upd]
      exact k
theorem scH : FnScope ["self"] ["self"] (defScope sHead) := ⟨rfl, rfl, rfl, by decide +kernel, rfl, by decide +kernel, by decide +kernel⟩
theorem ok_head {f : Addr} {fd : FuncData} (F : Fun K "head" "Thing.head" sHead f fd) (T : Txt K mg C) : FnOk P w K mg base CX0 1 f fd ["self"] (spHead C) := by
  refine F.ok scH (fun vs H Q E h => ?_) (fun cdv A outer s H vs Q E hr h => ?_)
  · obtain ⟨a, t, rfl, _⟩ := h
    rfl
  · obtain ⟨a, t, rfl, ha, k⟩ := h
    refine ⟨_, pss_one (ps_ret (pe_ifExp (pt_truth (pe_fld (pv 0) rfl) (by intro _; rfl)) (pe_fld (pv 0) rfl) (pv 0))), ?_⟩
    have ha' := ha
    cases ha with
    | nil h =>
      refine ⟨_, rfl, _, _, _, _, _, rfl, h, T.cl, T.nZ, tf_size _ _ _, _, rfl, ?_⟩
      exact iteF ⟨_, rfl, k _ ha'⟩
    | @pr _ dx b c l r h hl hr' =>
      refine ⟨_, rfl, _, _, _, _, _, rfl, h, T.cl, T.nZ, tf_size _ _ _, true, ?_, ?_⟩
      · show true = ((((Tr.pr l r).size : Nat) : Int) != 0)
        exact pr_tru l r
      · exact iteT ⟨_, rfl, _, _, _, _, _, rfl, h, T.cl, T.nF, tf_first _ _ _, k _ hl⟩
theorem scTl : FnScope ["self"] ["self"] (defScope sTail) := ⟨rfl, rfl, rfl, by decide +kernel, rfl, by decide +kernel, by decide +kernel⟩
theorem ok_tail {f : Addr} {fd : FuncData} (F : Fun K "tail" "Thing.tail" sTail f fd) (T : Txt K mg C) : FnOk P w K mg base CX0 1 f fd ["self"] (spTail C) := by
  refine F.ok scTl (fun vs H Q E h => ?_) (fun cdv A outer s H vs Q E hr h => ?_)
  · obtain ⟨a, t, rfl, _⟩ := h
    rfl
  · obtain ⟨a, t, rfl, ha, k⟩ := h
    refine ⟨_, pss_one (ps_ret (pe_ifExp (pt_truth (pe_fld (pv 0) rfl) (by intro _; rfl)) (pe_fld (pv 0) rfl) (pv 0))), ?_⟩
    have ha' := ha
    cases ha with
    | nil h =>
      refine ⟨_, rfl, _, _, _, _, _, rfl, h, T.cl, T.nZ, tf_size _ _ _, _, rfl, ?_⟩
      exact iteF ⟨_, rfl, k _ ha'⟩
    | @pr _ dx b c l r h hl hr' =>
      refine ⟨_, rfl, _, _, _, _, _, rfl, h, T.cl, T.nZ, tf_size _ _ _, true, ?_, ?_⟩
      · show true = ((((Tr.pr l r).size : Nat) : Int) != 0)
        exact pr_tru l r
      · exact iteT ⟨_, rfl, _, _, _, _, _, rfl, h, T.cl, T.nS, tf_second _ _ _, k _ hr'⟩
theorem scLn : FnScope ["self"] ["self"] (defScope sLen) := ⟨rfl, rfl, rfl, by decide +kernel, rfl, by decide +kernel, by decide +kernel⟩
theorem ok_len {f : Addr} {fd : FuncData} (F : Fun K "__len__" "Thing.__len__" sLen f fd) (T : Txt K mg C) : FnOk P w K mg base CX0 1 f fd ["self"] (spLen C) := by
  refine F.ok scLn (fun vs H Q E h => ?_) (fun cdv A outer s H vs Q E hr h => ?_)
  · obtain ⟨a, t, rfl, _⟩ := h
    rfl
  · obtain ⟨a, t, rfl, ha, hz, k⟩ := h
    refine ⟨_, pss_one (ps_ret (pe_lenRg rfl T.len (prg_1 rfl T.range (pe_fld (pv 0) rfl)))), ?_⟩
    obtain ⟨dx, f1, s1, h⟩ := ha.obj
    refine ⟨_, rfl, _, _, _, _, _, rfl, h, T.cl, T.nZ, tf_size _ _ _, _, rfl, ?_, ?_⟩
    · omega
    · have e : (((((t.size : Nat) : Int) - 0).toNat : Nat) : Int) = (t.size : Nat) := by omega
      show Q (.int (((((t.size : Nat) : Int) - 0).toNat : Nat) : Int)) H
      rw [e]
      exact k
end
end Js

set_option Elab.async false
set_option linter.all false
set_option maxRecDepth 100000
set_option maxHeartbeats 2000000
namespace Js
open PySem L2
def spAlike (C : Addr) : Sp := spEqT C
section
variable {P : Program} {w : World} {K : PySem.W.Frag} {mg : Str → Option Value} {base : Heap} {C : Addr}
theorem scA : FnScope ["one", "other", "waiting", "left", "right"] ["one", "other"] (defScope sAlike) := ⟨rfl, rfl, rfl, by decide +kernel, rfl, by decide +kernel, by decide +kernel⟩
theorem ok_alike {f : Addr} {fd : FuncData} (F : Fun K "alike" "alike" sAlike f fd) (T : Txt K mg C) : FnOk P w K mg base CX0 1 f fd ["one", "other"] (spAlike C) := by
  refine F.ok scA (fun vs H Q E h => ?_) (fun cdv A outer s H vs Q E hr h => ?_)
  · obtain ⟨a, b, t, u, rfl, _⟩ := h
    rfl
  · obtain ⟨a, b, t, u, rfl, ha, hb, hz, k⟩ := h
    refine ⟨_, pss_cons (ps_set (i := 2) scA.nd rfl (Or.inl rfl) (pe_lst (pa_cons (pe_tup (pa_cons (pv 0) (pa_cons (pv 1) pa_nil))) pa_nil)))
      (pss_cons (ps_while PassesOwn.never (pt_truth (pv 2) (by intro _; rfl))
        (pss_cons (ps_asg (pe_bm0 PySem.F.plainAttrs_list PySem.F.slot_list_pop PySem.F.type_list_pop mt_pop (pv 2)) (pg_tup rfl (pgs_cons (pg_name (i := 3) scA.nd rfl (Or.inl rfl)) (pgs_cons (pg_name (i := 4) scA.nd rfl (Or.inl rfl)) pgs_nil))))
        (pss_cons (ps_if (pt_cmpR op_ne (pe_fld (pv 3) rfl) (pe_fld (pv 4) rfl) (nomark _)) (pss_one (ps_ret pe_bl)) pss_nil)
        (pss_one (ps_if (pt_cmpR op_gt (pe_fld (pv 3) rfl) pe_int (nomark _))
          (pss_cons (ps_expr (pe_bm PySem.F.plainAttrs_list PySem.F.slot_list_append PySem.F.type_list_append mt_append (pv 2) (pa_cons (pe_tup (pa_cons (pe_fld (pv 3) rfl) (pa_cons (pe_fld (pv 4) rfl) pa_nil))) pa_nil)))
          (pss_one (ps_expr (pe_bm PySem.F.plainAttrs_list PySem.F.slot_list_append PySem.F.type_list_append mt_append (pv 2) (pa_cons (pe_tup (pa_cons (pe_fld (pv 3) rfl) (pa_cons (pe_fld (pv 4) rfl) pa_nil))) pa_nil))))) pss_nil)))))
      (pss_one (ps_ret pe_bl))), ?_⟩
    refine ⟨_, rfl, _, rfl, (by show 2 ≤ sizeLine; decide), fun q0 nq0 => ?_⟩
    refine ⟨(by show 1 ≤ sizeLine; decide), fun wl nwl => ?_⟩
    have hwl : H wl = none := by
      have := nwl
      unfold upd at this
      split at this
      · cases this
      · exact this
    have nqw : q0 ≠ wl := ne_of_none (o := .tup [.ref a, .ref b]) upd_same nwl
    -- the loop
    refine ⟨fun m σ H' => ∃ (rs : List V) (ps : List (Tr × Tr)) (x3 x4 : Option V), σ = [some (.ref a), some (.ref b), some (.ref wl), x3, x4] ∧ Same H H' ∧ H' wl = some (.lst rs.reverse) ∧ Paired (PrAt C H') rs ps ∧
      ((∀ p ∈ ps, p.1 = p.2) ↔ t = u) ∧ m = pm ps ∧ m ≤ 2 * t.size + 1, ?_, ?_⟩
    · have s1 : Same H (upd (upd H q0 (.tup [.ref a, .ref b])) wl (.lst [.ref q0])) := (Same.new nq0).set hwl
      refine ⟨_, [.ref q0], [(t, u)], none, none, rfl, s1, upd_same, .cons ⟨q0, a, b, rfl, ?_, ha.same s1, hb.same s1⟩ .nil, ?_, rfl, ?_⟩
      · exact (upd_ne nqw).trans upd_same
      · simp
      · simp [pm]
    · rintro m σ H' ⟨rs, ps, x3, x4, rfl, s1, hw, hps, hiff, rfl, hm⟩
      refine ⟨_, rfl, !rs.reverse.isEmpty, .inl ⟨_, SqL.of hw, rfl⟩, ?_⟩
      cases hps with
      | nil =>
        refine iteF ?_
        have : t = u := hiff.mp (fun p hp => by cases hp)
        have z := k H' s1
        rw [decide_eq_true this] at z
        exact z
      | @cons v p rs ps hv hps =>
        have e1 : (!(v :: rs).reverse.isEmpty) = true := by simp
        rw [e1]
        refine iteT ⟨fun σ' H2 => ∃ m', m' < pm (p :: ps) ∧ _, fun σ' H2 z => z, ?_⟩
        obtain ⟨q, x, y, rfl, hq, hx, hy⟩ := hv
        have hlen : rs.length ≤ pm ps := by rw [Paired.length hps]; exact pm_len ps
        rw [pm_cons] at hm
        refine ⟨_, rfl, .inl ⟨rfl, _, SqL.of hw⟩, wl, _, _, rfl, rfl, hw, last_rev _ _, ?_⟩
        rw [drop_rev]
        have nqwl : q ≠ wl := ne_of hq hw (by intro z; cases z)
        have k1 : KT H' (upd H' wl (.lst rs.reverse)) := KT.lst hw
        have s2 : Same H (upd H' wl (.lst rs.reverse)) := s1.set hwl
        have hx2 := hx.kt k1
        have hy2 := hy.kt k1
        have hps2 := prs_kt k1 hps
        obtain ⟨dx, f1, g1, h1⟩ := hx2.obj
        obtain ⟨dy, f2, g2, h2⟩ := hy2.obj
        refine ⟨q, _, rfl, SqT.of ((upd_ne nqwl).trans hq), rfl, _, _, rfl, _, _, rfl, rfl, ?_⟩
        refine ⟨_, rfl, _, _, _, _, _, rfl, h1, T.cl, T.nZ, tf_size _ _ _, _, rfl, _, _, _, _, _, rfl, h2, T.cl, T.nZ, tf_size _ _ _, rfl, _, rfl, ?_⟩
        by_cases hsz : p.1.size = p.2.size
        · have ed : (!decide (V.int (p.1.size : Nat) = V.int (p.2.size : Nat))) = false := by rw [hsz]; simp
          rw [ed]
          refine iteF ?_
          refine ⟨_, rfl, _, _, _, _, _, rfl, h1, T.cl, T.nZ, tf_size _ _ _, _, _, rfl, rfl, _, rfl, ?_⟩
          by_cases h1z : 1 < p.1.size
          · have ed2 : decide ((1 : Int) < (p.1.size : Nat)) = true := decide_eq_true (by omega)
            rw [ed2]
            refine iteT ?_
            obtain ⟨t1, u1⟩ := p
            cases t1 with
            | nil => simp [Tr.size] at h1z
            | pr l1 r1 =>
            cases u1 with
            | nil => simp [Tr.size] at hsz
            | pr l2 r2 =>
            obtain ⟨dx', b1, c1, hX, hb1, hc1⟩ := hx2.pair
            obtain ⟨dy', b2, c2, hY, hb2, hc2⟩ := hy2.pair
            -- waiting.append((left.second, right.second))
            refine ⟨_, rfl, .inl ⟨rfl, _, SqL.of upd_same⟩, _, rfl, _, _, _, _, _, rfl, hX, T.cl, T.nS, tf_second _ _ _, _, rfl, _, _, _, _, _, rfl, hY, T.cl, T.nS, tf_second _ _ _, (by show 2 ≤ sizeLine; decide), fun q1 nq1 => ?_⟩
            have nq1w : wl ≠ q1 := ne_of_none (o := .lst rs.reverse) upd_same nq1
            have hsl := line4
            simp only [Tr.size] at hm
            refine ⟨wl, _, _, rfl, rfl, (upd_ne nq1w).trans upd_same, (by rw [List.length_reverse]; omega), ?_⟩
            have k2 : KT (upd H' wl (.lst rs.reverse)) (upd (upd (upd H' wl (.lst rs.reverse)) q1 (.tup [.ref c1, .ref c2])) wl (.lst (rs.reverse ++ [.ref q1]))) := (KT.new nq1).trans (KT.lst ((upd_ne nq1w).trans upd_same))
            have s3 : Same H (upd (upd (upd H' wl (.lst rs.reverse)) q1 (.tup [.ref c1, .ref c2])) wl (.lst (rs.reverse ++ [.ref q1]))) := (s2.trans (Same.new nq1)).set hwl
            have hq1 : (upd (upd (upd H' wl (.lst rs.reverse)) q1 (.tup [.ref c1, .ref c2])) wl (.lst (rs.reverse ++ [.ref q1]))) q1 = some (.tup [.ref c1, .ref c2]) := (upd_ne (Ne.symm nq1w)).trans upd_same
            have hw3 : (upd (upd (upd H' wl (.lst rs.reverse)) q1 (.tup [.ref c1, .ref c2])) wl (.lst (rs.reverse ++ [.ref q1]))) wl = some (.lst (rs.reverse ++ [.ref q1])) := upd_same
            have hX3 := k2 _ _ hX (fun _ e => nomatch e)
            have hY3 := k2 _ _ hY (fun _ e => nomatch e)
            have hps3 := prs_kt k2 hps2
            have hb1' := hb1.kt k2
            have hc1' := hc1.kt k2
            have hb2' := hb2.kt k2
            have hc2' := hc2.kt k2
            revert s3 hq1 hw3 hX3 hY3 hps3 hb1' hc1' hb2' hc2'
            generalize (upd (upd (upd H' wl (.lst rs.reverse)) q1 (.tup [.ref c1, .ref c2])) wl (.lst (rs.reverse ++ [.ref q1]))) = H3
            intro s3 hq1 hw3 hX3 hY3 hps3 hb1' hc1' hb2' hc2'
            -- waiting.append((left.first, right.first))
            refine ⟨_, rfl, .inl ⟨rfl, _, SqL.of hw3⟩, _, rfl, _, _, _, _, _, rfl, hX3, T.cl, T.nF, tf_first _ _ _, _, rfl, _, _, _, _, _, rfl, hY3, T.cl, T.nF, tf_first _ _ _, (by show 2 ≤ sizeLine; decide), fun q2 nq2 => ?_⟩
            have nq2w : wl ≠ q2 := ne_of_none hw3 nq2
            refine ⟨wl, _, _, rfl, rfl, (upd_ne nq2w).trans hw3, (by rw [List.length_append, List.length_reverse, List.length_singleton]; omega), ?_⟩
            have k4 : KT H3 (upd (upd H3 q2 (.tup [.ref b1, .ref b2])) wl (.lst (rs.reverse ++ [.ref q1] ++ [.ref q2]))) := (KT.new nq2).trans (KT.lst ((upd_ne nq2w).trans hw3))
            refine ⟨pm ((l1, l2) :: (r1, r2) :: ps), ?_, .ref q2 :: .ref q1 :: rs, (l1, l2) :: (r1, r2) :: ps, _, _, rfl, (s3.trans (Same.new nq2)).set hwl, ?_, .cons ⟨q2, b1, b2, rfl, (upd_ne (Ne.symm nq2w)).trans upd_same, hb1'.kt k4, hb2'.kt k4⟩ (.cons ⟨q1, c1, c2, rfl, k4 _ _ hq1 (fun _ e => nomatch e), hc1'.kt k4, hc2'.kt k4⟩ (prs_kt k4 hps3)), ?_, rfl, ?_⟩
            · rw [pm_cons, pm_cons, pm_cons]
              simp only [Tr.size]
              omega
            · rw [upd_same, push_rev, push_rev]
            · rw [← hiff]
              simp only [List.mem_cons, forall_eq_or_imp, Tr.pr.injEq]
              constructor
              · rintro ⟨h1, h2, h3⟩
                exact ⟨⟨h1, h2⟩, h3⟩
              · rintro ⟨⟨h1, h2⟩, h3⟩
                exact ⟨h1, h2, h3⟩
            · rw [pm_cons, pm_cons]
              show 2 * l1.size + 1 + (2 * r1.size + 1 + pm ps) ≤ _
              omega
          · have ed2 : decide ((1 : Int) < (p.1.size : Nat)) = false := decide_eq_false (by omega)
            rw [ed2]
            refine iteF ?_
            have ep : p.1 = p.2 := Tr.small_eq hsz (by omega)
            refine ⟨pm ps, by rw [pm_cons]; omega, rs, ps, _, _, rfl, s2, upd_same, hps2, ?_, rfl, by omega⟩
            rw [← hiff]
            simp [ep]
        · have ed : (!decide (V.int (p.1.size : Nat) = V.int (p.2.size : Nat))) = true := by
            simp
            omega
          rw [ed]
          refine iteT ?_
          have : ¬ t = u := fun z => hsz (by rw [hiff.mpr z p (by simp)])
          have z := k _ s2
          rw [decide_eq_false this] at z
          exact z
theorem scE : FnScope ["self", "other"] ["self", "other"] (defScope sEq) := ⟨rfl, rfl, rfl, by decide +kernel, rfl, by decide +kernel, by decide +kernel⟩
theorem kit_self (K : PySem.W.Frag) (C : Addr) : PySem.W.kitOne K (.ref C) (.ref C) = some true := by
  unfold PySem.W.kitOne
  rw [if_pos (by simp)]
theorem ok_eq {f fA : Addr} {fd fdA : FuncData} (F : Fun K "__eq__" "Thing.__eq__" sEq f fd) (T : Txt K mg C) (AA : At K mg "alike" sAlike ["one", "other"] fA fdA) : FnOk P w K mg base CX0 2 f fd ["self", "other"] (spEqT C) := by
  have GA : FnOk P w K mg base CX0 1 fA fdA ["one", "other"] (spAlike C) := ok_alike AA.F T
  refine F.ok scE (fun vs H Q E h => ?_) (fun cdv A outer s H vs Q E hr h => ?_)
  · obtain ⟨a, b, t, u, rfl, _⟩ := h
    rfl
  · obtain ⟨a, b, t, u, rfl, ha, hb, hz, k⟩ := h
    refine ⟨_, pss_one (ps_ret (pe_and (pe_callB call_isi (by rfl) T.isi PyProof.Rows.boot_isinstance (pa_cons (pv 1) (pa_cons (pe_glob (v := .ref C) rfl T.mgC rfl) pa_nil)))
      (pe_one (pe_call GA hr rfl AA.mgf AA.F.kp AA.b .nil pass0 (pa_cons (pv 0) (pa_cons (pv 1) pa_nil)))))), ?_⟩
    obtain ⟨dy, f2, g2, h2⟩ := hb.obj
    refine ⟨_, rfl, _, _, _, _, true, rfl, ClsV.own C, .base (.ins h2 T.cl T.ca T.cn T.ct T.cm), kit_self _ _, true, rfl, ?_⟩
    refine iteT ?_
    exact ⟨_, rfl, _, rfl, a, b, t, u, rfl, ha, hb, hz, k⟩
theorem e41 : ((")" : Str)) = ⟨#[41]⟩ := by decide +kernel
theorem e40 : (("(" : Str)) = ⟨#[40]⟩ := by decide +kernel
theorem e46 : (("." : Str)) = ⟨#[46]⟩ := by decide +kernel
theorem scS : FnScope ["thing", "found", "waiting", "part"] ["thing"] (defScope sSigns) := ⟨rfl, rfl, rfl, by decide +kernel, rfl, by decide +kernel, by decide +kernel⟩
theorem ok_signs {f : Addr} {fd : FuncData} (F : Fun K "signs" "signs" sSigns f fd) (T : Txt K mg C) : FnOk P w K mg base CX0 1 f fd ["thing"] (spSigns C) := by
  refine F.ok scS (fun vs H Q E h => ?_) (fun cdv A outer s H vs Q E hr h => ?_)
  · obtain ⟨a, t, rfl, _⟩ := h
    rfl
  · obtain ⟨a, t, rfl, ha, hz, k⟩ := h
    refine ⟨_, pss_cons (ps_set (i := 1) scS.nd rfl (Or.inl rfl) (pe_lst pa_nil)) (pss_cons (ps_set (i := 2) scS.nd rfl (Or.inl rfl) (pe_lst (pa_cons (pv 0) pa_nil)))
      (pss_cons (ps_while PassesOwn.never (pt_truth (pv 2) (by intro _; rfl))
        (pss_cons (ps_set (i := 3) scS.nd rfl (Or.inl rfl) (pe_bm0 PySem.F.plainAttrs_list PySem.F.slot_list_pop PySem.F.type_list_pop mt_pop (pv 2)))
        (pss_one (ps_if (pt_cmp (pc_isN (pv 3)))
          (pss_one (ps_expr (pe_bm PySem.F.plainAttrs_list PySem.F.slot_list_append PySem.F.type_list_append mt_append (pv 1) (pa_cons pe_str pa_nil))))
          (pss_one (ps_if (pt_cmpR op_eq (pe_fld (pv 3) rfl) pe_int (nomark _))
            (pss_one (ps_expr (pe_bm PySem.F.plainAttrs_list PySem.F.slot_list_append PySem.F.type_list_append mt_append (pv 1) (pa_cons pe_str pa_nil))))
            (pss_cons (ps_expr (pe_bm PySem.F.plainAttrs_list PySem.F.slot_list_append PySem.F.type_list_append mt_append (pv 1) (pa_cons pe_str pa_nil)))
              (pss_one (ps_expr (pe_bm PySem.F.plainAttrs_list PySem.F.slot_list_extend PySem.F.type_list_extend mt_extend (pv 2) (pa_cons (pe_lst (pa_cons pe_non (pa_cons (pe_fld (pv 3) rfl) (pa_cons (pe_fld (pv 3) rfl) pa_nil)))) pa_nil)))))))))))
      (pss_one (ps_ret (pv 1))))), ?_⟩
    refine ⟨Nat.zero_le _, fun fl nfl => ?_⟩
    refine ⟨_, rfl, (by show 1 ≤ sizeLine; decide), fun wl nwl => ?_⟩
    have nfw : fl ≠ wl := ne_of_none (o := .lst []) upd_same nwl
    have hwl : H wl = none := by
      have := nwl
      rw [upd_ne (Ne.symm nfw)] at this
      exact this
    have hsl := line4
    refine ⟨fun m σ H' => ∃ (rs : List V) (ps : List (Option Tr)) (dn : List Nat) (x3 : Option V), σ = [some (.ref a), some (.ref fl), some (.ref wl), x3] ∧ Same H H' ∧ H' fl = some (.lst (dn.map sgn)) ∧ H' wl = some (.lst rs.reverse) ∧ Paired (WtAt C H') rs ps ∧
      dn ++ wouts ps = t.codes ∧ m = wm ps ∧ m ≤ 3 * t.size + 1, ?_, ?_⟩
    · have s1 : Same H (upd (upd H fl (.lst [])) wl (.lst [.ref a])) := (Same.new nfl).set hwl
      refine ⟨_, [.ref a], [some t], [], none, rfl, s1, (upd_ne nfw).trans upd_same, upd_same, .cons (.inr ⟨a, t, rfl, rfl, ha.same s1⟩) .nil, ?_, rfl, ?_⟩
      · simp [wouts, wout]
      · simp [wm, wm1]
    · rintro m σ H' ⟨rs, ps, dn, x3, rfl, s1, hf, hw, hps, hc, rfl, hm⟩
      have hcl := congrArg List.length hc
      rw [List.length_append, Tr.codes_len] at hcl
      refine ⟨_, rfl, !rs.reverse.isEmpty, .inl ⟨_, SqL.of hw, rfl⟩, ?_⟩
      cases hps with
      | nil =>
        refine iteF ?_
        have e : dn = t.codes := by simpa [wouts] using hc
        subst e
        exact ⟨_, rfl, k fl H' s1 nfl hf⟩
      | @cons v p rs ps hv hps =>
        have e1 : (!(v :: rs).reverse.isEmpty) = true := by simp
        rw [e1]
        refine iteT ⟨fun σ' H2 => ∃ m', m' < wm (p :: ps) ∧ _, fun σ' H2 z => z, ?_⟩
        have hlen : rs.length ≤ wm ps := by rw [Paired.length hps]; exact wm_len ps
        rw [wm_cons] at hm
        rw [wouts_cons] at hc
        refine ⟨_, rfl, .inl ⟨rfl, _, SqL.of hw⟩, wl, _, _, rfl, rfl, hw, last_rev _ _, ?_⟩
        rw [drop_rev]
        have k1 : KT H' (upd H' wl (.lst rs.reverse)) := KT.lst hw
        have s2 : Same H (upd H' wl (.lst rs.reverse)) := s1.set hwl
        have hf2 : (upd H' wl (.lst rs.reverse)) fl = some (.lst (dn.map sgn)) := (upd_ne nfw).trans hf
        have hw2 : (upd H' wl (.lst rs.reverse)) wl = some (.lst rs.reverse) := upd_same
        have hv2 := hv.kt k1
        have hps2 := wts_kt k1 hps
        revert s2 hf2 hw2 hv2 hps2
        generalize (upd H' wl (.lst rs.reverse)) = H2
        intro s2 hf2 hw2 hv2 hps2
        have hd : (dn.map sgn).length < sizeLine := by rw [List.length_map]; omega
        rcases hv2 with ⟨rfl, rfl⟩ | ⟨x, t1, rfl, rfl, hx⟩
        · refine ⟨_, rfl, _, rfl, ?_⟩
          refine iteT ?_
          refine ⟨_, rfl, .inl ⟨rfl, _, SqL.of hf2⟩, fl, _, _, rfl, rfl, hf2, hd, ?_⟩
          refine ⟨wm ps, by rw [wm_cons]; simp only [wm1]; omega, rs, ps, dn ++ [41], _, rfl, s2.set nfl, ?_, (upd_ne (Ne.symm nfw)).trans hw2, wts_kt (KT.lst hf2) hps2, ?_, rfl, by omega⟩
          · rw [upd_same, List.map_append, e41]
            rfl
          · rw [← hc]
            simp [wout]
        · refine ⟨_, rfl, _, rfl, ?_⟩
          refine iteF ?_
          obtain ⟨dx, f1, g1, h1⟩ := hx.obj
          refine ⟨_, rfl, _, _, _, _, _, rfl, h1, T.cl, T.nZ, tf_size _ _ _, rfl, _, rfl, ?_⟩
          have hx' := hx
          cases hx with
          | nil h =>
            refine iteT ?_
            refine ⟨_, rfl, .inl ⟨rfl, _, SqL.of hf2⟩, fl, _, _, rfl, rfl, hf2, hd, ?_⟩
            refine ⟨wm ps, by rw [wm_cons]; simp only [wm1]; omega, rs, ps, dn ++ [46], _, rfl, s2.set nfl, ?_, (upd_ne (Ne.symm nfw)).trans hw2, wts_kt (KT.lst hf2) hps2, ?_, rfl, by omega⟩
            · rw [upd_same, List.map_append, e46]
              rfl
            · rw [← hc]
              simp [wout, Tr.codes]
          | @pr _ dx' b c l r h hl hr' =>
            have ed : decide (V.int ((Tr.pr l r).size : Nat) = V.int 0) = false := by
              simp only [Tr.size, decide_eq_false_iff_not, V.int.injEq]
              omega
            rw [ed]
            refine iteF ?_
            refine ⟨_, rfl, .inl ⟨rfl, _, SqL.of hf2⟩, fl, _, _, rfl, rfl, hf2, hd, ?_⟩
            have k3 : KT H2 (upd H2 fl (.lst (dn.map sgn ++ [.str "("]))) := KT.lst hf2
            have s3 : Same H (upd H2 fl (.lst (dn.map sgn ++ [.str "("]))) := s2.set nfl
            have hf3 : (upd H2 fl (.lst (dn.map sgn ++ [.str "("]))) fl = some (.lst ((dn ++ [40]).map sgn)) := by
              rw [upd_same, List.map_append, e40]
              rfl
            have hw3 : (upd H2 fl (.lst (dn.map sgn ++ [.str "("]))) wl = some (.lst rs.reverse) := (upd_ne (Ne.symm nfw)).trans hw2
            have h3 := k3 _ _ h (fun _ e => nomatch e)
            have hl3 := hl.kt k3
            have hr3 := hr'.kt k3
            have hps3 := wts_kt k3 hps2
            revert s3 hf3 hw3 h3 hl3 hr3 hps3
            generalize (upd H2 fl (.lst (dn.map sgn ++ [.str "("]))) = H3
            intro s3 hf3 hw3 h3 hl3 hr3 hps3
            refine ⟨_, rfl, .inl ⟨rfl, _, SqL.of hw3⟩, _, rfl, _, _, _, _, _, rfl, h3, T.cl, T.nS, tf_second _ _ _, _, rfl, _, _, _, _, _, rfl, h3, T.cl, T.nF, tf_first _ _ _, (by show 3 ≤ sizeLine; decide), fun q nq => ?_⟩
            have nqw : wl ≠ q := ne_of_none hw3 nq
            have nqf : fl ≠ q := ne_of_none hf3 nq
            simp only [wm1, Tr.size] at hm
            refine ⟨wl, q, _, _, rfl, rfl, (upd_ne nqw).trans hw3, upd_same, (by rw [List.length_reverse]; show rs.length + 3 ≤ sizeLine; omega), ?_⟩
            have k4 : KT H3 (upd (upd H3 q (.lst [.non, .ref c, .ref b])) wl (.lst (rs.reverse ++ [.non, .ref c, .ref b]))) := (KT.new nq).trans (KT.lst ((upd_ne nqw).trans hw3))
            refine ⟨wm (some l :: some r :: none :: ps), ?_, .ref b :: .ref c :: .non :: rs, some l :: some r :: none :: ps, dn ++ [40], _, rfl, (s3.trans (Same.new nq)).set hwl, (upd_ne nfw).trans ((upd_ne nqf).trans hf3), ?_,
              .cons (.inr ⟨b, l, rfl, rfl, hl3.kt k4⟩) (.cons (.inr ⟨c, r, rfl, rfl, hr3.kt k4⟩) (.cons (.inl ⟨rfl, rfl⟩) (wts_kt k4 hps3))), ?_, rfl, ?_⟩
            · rw [wm_cons, wm_cons, wm_cons, wm_cons]
              simp only [wm1, Tr.size]
              omega
            · rw [upd_same]
              simp
            · rw [← hc, wouts_cons, wouts_cons, wouts_cons]
              simp [wout, Tr.codes]
            · rw [wm_cons, wm_cons, wm_cons]
              simp only [wm1]
              omega
theorem joinL_signs : ∀ cs : List Nat, TL.joinL [] ((cs.map fun c => (⟨#[c]⟩ : Str)).map TL.tl) = cs
  | [] => rfl
  | [c] => rfl
  | c :: d :: r => by
    have ih := joinL_signs (d :: r)
    show [c] ++ ([] ++ TL.joinL [] (((d :: r).map fun c => (⟨#[c]⟩ : Str)).map TL.tl)) = c :: d :: r
    rw [ih]
    rfl
theorem join_signs (cs : List Nat) : (PySem.Txt.join ("" : Str) (cs.map fun c => (⟨#[c]⟩ : Str))) = ⟨cs.toArray⟩ := by
  rw [TL.join_eq]
  apply PyProof.Rows.ext_toList
  exact (TL.tl_join _ _).trans (joinL_signs cs)
theorem sum_signs : ∀ cs : List Nat, ((cs.map fun c => (⟨#[c]⟩ : Str)).map (·.length)).sum = cs.length
  | [] => rfl
  | c :: r => by
    have ih := sum_signs r
    rw [List.map_cons, List.map_cons, List.sum_cons, ih, List.length_cons]
    show 1 + _ = _
    omega
theorem scSt : FnScope ["self"] ["self"] (defScope sStr) := ⟨rfl, rfl, rfl, by decide +kernel, rfl, by decide +kernel, by decide +kernel⟩
theorem ok_str {f fS : Addr} {fd fdS : FuncData} (F : Fun K "__str__" "Thing.__str__" sStr f fd) (T : Txt K mg C) (AS : At K mg "signs" sSigns ["thing"] fS fdS) : FnOk P w K mg base CX0 2 f fd ["self"] (spStr C) := by
  have GS : FnOk P w K mg base CX0 1 fS fdS ["thing"] (spSigns C) := ok_signs AS.F T
  refine F.ok scSt (fun vs H Q E h => ?_) (fun cdv A outer s H vs Q E hr h => ?_)
  · obtain ⟨a, t, rfl, _⟩ := h
    rfl
  · obtain ⟨a, t, rfl, ha, hz, k⟩ := h
    refine ⟨_, pss_one (ps_ret (pe_join pe_str (pe_call GS hr rfl AS.mgf AS.F.kp AS.b .nil pass0 (pa_cons (pv 0) pa_nil)))), ?_⟩
    refine ⟨⟨_, rfl⟩, _, rfl, a, t, rfl, ha, hz, fun p H' s1 np hp => ?_⟩
    refine ⟨_, p, t.codes.map (fun c => (⟨#[c]⟩ : Str)), rfl, rfl, .inl (SqL.of (by rw [hp, List.map_map]; rfl)), ?_, ?_⟩
    · rw [sum_signs, Tr.codes_len, List.length_map, Tr.codes_len]
      show 3 * t.size + 1 + (3 * t.size + 1) * 0 ≤ 16777216
      omega
    · show Q (.str (PySem.Txt.join ("" : Str) (t.codes.map fun c => (⟨#[c]⟩ : Str)))) H'
      rw [join_signs]
      exact k H' s1
end
end Js

set_option Elab.async false
set_option linter.all false
set_option maxRecDepth 100000
set_option maxHeartbeats 2000000
namespace Js
open PySem L2
/-- how a Thing is made -/
structure Maker (P : Program) (w : World) (K : PySem.W.Frag) (mg : Str → Option Value) (base : Heap) (C fI : Addr) (fdI : FuncData) : Prop where
  M : Mk K C fI
  G : FnOk P w K mg base CX0 2 fI fdI ["self", "first", "second"] (spInit C)
  mgC : mg "Thing" = some (.ref C)
  b2 : Binds K fdI ["self", "first", "second"] []
  b0 : ∃ ds, Vals [V.non, V.non] ds ∧ Binds K fdI ["self", "first", "second"] ds
/-- Thing(x, y) -/
def tT (C : Addr) (t : TA) : TE := fun σ H Q => t σ H fun vs H1 => ∃ a b t u, vs = [.ref a, .ref b] ∧ Th C H1 a t ∧ Th C H1 b u ∧ 1 + t.size + u.size ≤ 4000 ∧ ∀ z H', Same H1 H' → H1 z = none → Th C H' z (.pr t u) → Q (.ref z) H'
/-- Thing() -/
def tT0 (C : Addr) : TE := fun _ H Q => ∀ z H', Same H H' → H z = none → Th C H' z .nil → Q (.ref z) H'
section
open PyProof.Rows
variable {X : Cx} {C fI : Addr} {fdI : FuncData} {p pos : Pos} {e : Expr} {es : List Expr} {t : TA}
theorem pe_T2 (mk : Maker X.prog X.w X.K X.mg X.base C fI fdI) (hr : Room 3 X.A) (hg : Gl X "Thing") (ha : PA X (e :: es) t)
    (he : starEach (e :: es) X.env = (false, eval e X.env) :: starEach es X.env := by rfl) (hpl : (backTo pos (starEach es X.env)).any (·.1) = false := by rfl) : PE X (.Call (.Name "Thing" p) (e :: es) [] pos) (tT C t) := by
  refine ⟨fun pins s σ H Q I h => ?_⟩
  refine wpAny_Call_Name_kw (ld_glob I hg mk.mgC ?_ (by decide))
  refine PySem.W.callWith_K (h₀ := X.base) I.ok.mod.kin mk.M.kp (thn (ha.run pos pins s σ H _ I h) fun us s1 ⟨vs, H1, I1, r, q⟩ => ⟨I1.kIn, ?_⟩) he hpl
  obtain ⟨a, b, t, u, rfl, h1, h2, hz, k⟩ := q
  exact run_make mk.M mk.G hr mk.b2 .nil pass0 I1 r (mk_pr h1 h2 hz k)
theorem pe_T0 (mk : Maker X.prog X.w X.K X.mg X.base C fI fdI) (hr : Room 3 X.A) (hg : Gl X "Thing") : PE X (.Call (.Name "Thing" p) [] [] pos) (tT0 C) := by
  obtain ⟨ds, hv, hb⟩ := mk.b0
  refine ⟨fun pins s σ H Q I h => ?_⟩
  refine wpAny_Call_Name_kw (ld_glob I hg mk.mgC ?_ (by decide))
  exact PySem.W.callWith_K0 I.kIn mk.M.kp (run_make (us := []) mk.M mk.G hr hb hv pass0 I .nil (mk_nil h))
end
def ThV (C : Addr) (H : Hp) (v : V) (t : Tr) : Prop := ∃ a, v = .ref a ∧ Th C H a t
theorem ThV.kt {C : Addr} {H H' : Hp} (k : KT H H') {v : V} {t : Tr} (h : ThV C H v t) : ThV C H' v t := by
  obtain ⟨a, e, h⟩ := h
  exact ⟨a, e, h.kt k⟩
theorem ths_kt {C : Addr} {H H' : Hp} (k : KT H H') : ∀ {vs : List V} {ts : List Tr}, Paired (ThV C H) vs ts → Paired (ThV C H') vs ts
  | _, _, .nil => .nil
  | _, _, .cons h t => .cons (h.kt k) (ths_kt k t)
theorem paired_get {α β : Type} {F : α → β → Prop} : ∀ {xs : List α} {ys : List β}, Paired F xs ys → ∀ {i : Nat} {x : α}, xs[i]? = some x → ∃ y, ys[i]? = some y ∧ F x y
  | _, _, .nil, i, x, h => by simp at h
  | _, _, .cons h t, 0, x, e => by
    simp at e
    subst e
    exact ⟨_, rfl, h⟩
  | _, _, .cons h t, i + 1, x, e => by
    simp at e
    obtain ⟨y, e1, e2⟩ := paired_get t e
    exact ⟨y, by simpa using e1, e2⟩
theorem paired_snoc {α β : Type} {F : α → β → Prop} : ∀ {xs : List α} {ys : List β} {x : α} {y : β}, Paired F xs ys → F x y → Paired F (xs ++ [x]) (ys ++ [y])
  | _, _, _, _, .nil, h => .cons h .nil
  | _, _, _, _, .cons h t, h' => .cons h (paired_snoc t h')
end Js

set_option Elab.async false
set_option linter.all false
set_option maxRecDepth 100000
set_option maxHeartbeats 2000000
namespace Js
open PySem L2
abbrev sBag : Stmt := top 64
abbrev sTake : Stmt := top 65
/-- which built-ins are as they were -/
structure Blt (mg : Str → Option Value) : Prop where
  len : mg "len" = none
  range : mg "range" = none
  abs : mg "abs" = none
  int : mg "int" = none
  str : mg "str" = none
  max : mg "max" = none
  min : mg "min" = none
  all : mg "all" = none
structure BagOk (H : Hp) (p : Addr) : Prop where
  ex : ∃ x0 x1 pr x3 : Int, H p = some (.lst [.int x0, .int x1, .int pr, .int x3]) ∧ 0 ≤ x0 ∧ 0 ≤ x1 ∧ x1 < 2147483648 ∧ 0 < pr ∧ pr < 2147483648
/-- all but what stands at p stays -/
def KB (p : Addr) (H H' : Hp) : Prop := ∀ a o, a ≠ p → H a = some o → H' a = some o
theorem KB.refl (p : Addr) (H : Hp) : KB p H H := fun _ _ _ h => h
theorem KB.of {p : Addr} {H H' : Hp} (s : Same H H') : KB p H H' := fun _ _ _ h => s _ _ h
theorem KB.trans {p : Addr} {H H1 H2 : Hp} (a : KB p H H1) (b : KB p H1 H2) : KB p H H2 := fun x o n h => b x o n (a x o n h)
theorem KB.set {p : Addr} {H : Hp} {o : HO} : KB p H (upd H p o) := fun x u n h => by rw [upd_ne n]; exact h
theorem KB.kt {p : Addr} {H H' : Hp} (k : KB p H H') {xs : List V} (hp : H p = some (.lst xs)) : KT H H' := fun a o h n => k a o (fun z => by subst z; exact n _ (Option.some.inj (h.symm.trans hp))) h
theorem BagOk.kt {p : Addr} {H H' : Hp} (b : BagOk H p) (k : KB p H H') : KT H H' := by
  obtain ⟨x0, x1, pr, x3, h, _⟩ := b.ex
  exact k.kt h
theorem BagOk.same {p : Addr} {H H' : Hp} (b : BagOk H p) (s : Same H H') : BagOk H' p := by
  obtain ⟨x0, x1, pr, x3, h, r⟩ := b.ex
  exact ⟨x0, x1, pr, x3, s _ _ h, r⟩
theorem BagOk.some {p : Addr} {H : Hp} (b : BagOk H p) : ∃ xs, H p = some (.lst xs) := by
  obtain ⟨x0, x1, pr, x3, h, r⟩ := b.ex
  exact ⟨_, h⟩
def spBag (K : PySem.W.Frag) : Sp := fun vs H Q _ => ∃ (a : Addr) (ns : List Int) (k : Nat), vs = [.ref a, .int (k : Nat)] ∧ SqL K H a (ns.map V.int) ∧ k < 8 ∧ ∀ p H', Same H H' → H p = none → BagOk H' p → Q (.ref p) H'
def spTake : Sp := fun vs H Q _ => ∃ (p : Addr) (m : Int), vs = [.ref p, .int m] ∧ BagOk H p ∧ 0 < m ∧ m < 1073741824 ∧ ∀ (d : Int) H', KB p H H' → BagOk H' p → 0 ≤ d → d < m → Q (.int d) H'
def primes : List V := [.int 2147483629, .int 2147483587, .int 2147483579, .int 2147483563, .int 2147483549, .int 2147483543, .int 2147483497, .int 2147483489]
theorem prime_at (k : Nat) (hk : k < 8) : ∃ pr : Int, atI primes ((k : Int) % 8) = some (.int pr) ∧ 0 < pr ∧ pr < 2147483648 := by
  have e : ((k : Int) % 8) = (k : Nat) := by omega
  rw [e]
  match k, hk with
  | 0, _ => exact ⟨_, atI_nat rfl, by decide, by decide⟩
  | 1, _ => exact ⟨_, atI_nat rfl, by decide, by decide⟩
  | 2, _ => exact ⟨_, atI_nat rfl, by decide, by decide⟩
  | 3, _ => exact ⟨_, atI_nat rfl, by decide, by decide⟩
  | 4, _ => exact ⟨_, atI_nat rfl, by decide, by decide⟩
  | 5, _ => exact ⟨_, atI_nat rfl, by decide, by decide⟩
  | 6, _ => exact ⟨_, atI_nat rfl, by decide, by decide⟩
  | 7, _ => exact ⟨_, atI_nat rfl, by decide, by decide⟩
section
variable {P : Program} {w : World} {K : PySem.W.Frag} {mg : Str → Option Value} {base : Heap} {C fI : Addr} {fdI : FuncData}
theorem scB : FnScope ["_law_script", "_law_at", "_law_cell", "_law_prime"] ["_law_script", "_law_at"] (defScope sBag) := ⟨rfl, rfl, rfl, by decide +kernel, rfl, by decide +kernel, by decide +kernel⟩
theorem ok_bag {f : Addr} {fd : FuncData} (F : Fun K "_law_bag" "_law_bag" sBag f fd) (B : Blt mg) : FnOk P w K mg base CX0 1 f fd ["_law_script", "_law_at"] (spBag K) := by
  refine F.ok scB (fun vs H Q E h => ?_) (fun cdv A outer s H vs Q E hr h => ?_)
  · obtain ⟨a, ns, k, rfl, _⟩ := h
    rfl
  · obtain ⟨a, ns, kk, rfl, hS, hk, k⟩ := h
    refine ⟨_, pss_cons (ps_set (i := 2) scB.nd rfl (Or.inl rfl) pe_int)
      (pss_cons (ps_if (pt_cmpR op_lt (pv 1) (pe_callB call_len_seq (by rfl) B.len PySem.boot_len (pa_cons (pv 0) pa_nil)) (nomark _))
        (pss_one (ps_set (i := 2) scB.nd rfl (Or.inl rfl) (pe_callB call_abs (by rfl) B.abs PyProof.Rows.boot_abs (pa_cons (pe_ix ix_list (pv 0) (pv 1) (fun _ _ => rfl)) pa_nil)))) pss_nil)
      (pss_cons (ps_set (i := 3) scB.nd rfl (Or.inl rfl) (pe_ix ix_list (pe_lst (pa_cons pe_int (pa_cons pe_int (pa_cons pe_int (pa_cons pe_int (pa_cons pe_int (pa_cons pe_int (pa_cons pe_int (pa_cons pe_int pa_nil))))))))) (pe_op op_mod (pv 1) pe_int) (fun _ _ => rfl)))
      (pss_one (ps_ret (pe_lst (pa_cons (pe_op op_mul (pv 2) (pe_callTy call_int1 (by rfl) B.int PyProof.Rows.boot_int (pa_cons (pe_cmpR op_ge (pv 2) (pe_op op_pow pe_int pe_int) (nomark _)) pa_nil)))
        (pa_cons (pe_op op_mod (pe_op op_pow (pe_op op_add (pe_op op_add (pe_op op_mod (pv 2) pe_int) (pe_op op_mul pe_int (pv 1))) pe_int) pe_int) (pv 3)) (pa_cons (pv 3) (pa_cons pe_int pa_nil))))))))), ?_⟩
    -- behind the first if
    have rest : ∀ (cell : Int), 0 ≤ cell → tSeq (tAsg (tOp (rIxL K) (tLst (tCons (tC (V.int 2147483629)) (tCons (tC (V.int 2147483587)) (tCons (tC (V.int 2147483579)) (tCons (tC (V.int 2147483563)) (tCons (tC (V.int 2147483549)) (tCons (tC (V.int 2147483543)) (tCons (tC (V.int 2147483497)) (tCons (tC (V.int 2147483489)) tNil))))))))) (tOp (rI (fun _ j => 0 < j) fun i j => .int (i % j)) (tVar 1) (tC (V.int 8)))) (gName 3))
        (tRet (tLst (tCons (tOp (rI CMul fun i j => .int (i * j)) (tVar 2) (tCB (fun xs H Q => (∃ i, xs = [.int i] ∧ Q (.int i) H) ∨ ∃ k, xs = [.bl k] ∧ Q (.int (if k then 1 else 0)) H) (tCons (tOp (rI0 fun i j => .bl (decide (j ≤ i))) (tVar 2) (tOp (rI CPow fun i j => .int (i ^ j.toNat)) (tC (.int 10)) (tC (.int 18)))) tNil)))
          (tCons (tOp (rI (fun _ j => 0 < j) fun i j => .int (i % j)) (tOp (rI CPow fun i j => .int (i ^ j.toNat)) (tOp (rI0 fun i j => .int (i + j)) (tOp (rI0 fun i j => .int (i + j)) (tOp (rI (fun _ j => 0 < j) fun i j => .int (i % j)) (tVar 2) (tC (.int 2147483647))) (tOp (rI CMul fun i j => .int (i * j)) (tC (.int 104729)) (tVar 1))) (tC (.int 7))) (tC (.int 5))) (tVar 3)) (tCons (tVar 3) (tCons (tC (.int 0)) tNil))))))
        { nx := fun _ H' => Q .non H', rt := Q } [some (.ref a), some (.int (kk : Nat)), some (.int cell), none] H := by
      intro cell hc
      refine ⟨(by show 8 ≤ sizeLine; decide), fun pl npl => ?_⟩
      obtain ⟨pr, e1, e2, e3⟩ := prime_at kk hk
      refine ⟨_, rfl, _, _, rfl, rfl, (by show (0 : Int) < 8; decide), pl, _, _, _, rfl, rfl, SqL.of upd_same, e1, ?_⟩
      refine ⟨_, rfl, _, rfl, _, _, rfl, rfl, ⟨by decide, by decide, by decide⟩, _, _, rfl, rfl, .inr ⟨_, rfl, _, _, rfl, rfl, .inr ?_, ?_⟩⟩
      · split
        · exact ⟨by decide, by decide⟩
        · exact ⟨by decide, by decide⟩
      · refine ⟨_, rfl, _, _, rfl, rfl, (by show (0 : Int) < 2147483647; decide), _, rfl, _, _, rfl, rfl, .inl ⟨by decide, by decide⟩, _, _, rfl, rfl, _, _, rfl, rfl, _, _, rfl, rfl, ⟨by decide, by decide, ?_⟩, _, rfl, _, _, rfl, rfl, e2, _, rfl, (by show 4 ≤ sizeLine; decide), fun p np => ?_⟩
        · have h1 : 0 ≤ cell % 2147483647 := Int.emod_nonneg _ (by decide)
          have h2 : cell % 2147483647 < 2147483647 := Int.emod_lt_of_pos _ (by decide)
          show (cell % 2147483647 + 104729 * (kk : Int) + 7).natAbs < 2 ^ 64
          omega
        · have hne : H p = none := (Same.new npl).free np
          refine k p _ ((Same.new npl).trans (Same.new np)) hne ⟨_, _, pr, 0, upd_same, ?_, ?_, ?_, e2, e3⟩
          · split
            · simpa using hc
            · simp
          · exact Int.emod_nonneg _ (by omega)
          · exact Int.lt_trans (Int.emod_lt_of_pos _ e2) e3
    refine ⟨_, rfl, _, rfl, a, _, rfl, .inl hS, _, _, rfl, rfl, _, rfl, ?_⟩
    refine ite2 (fun hlt => ?_) (fun _ => rest 0 (by decide))
    have hlt' : kk < ns.length := by
      have := of_decide_eq_true hlt
      rw [List.length_map] at this
      omega
    refine ⟨_, rfl, _, rfl, a, _, _, _, rfl, rfl, hS, atI_nat (v := .int ns[kk]) (by rw [List.getElem?_map, List.getElem?_eq_getElem hlt']; rfl), _, rfl, ?_⟩
    exact rest _ (by split <;> omega)
theorem scTk : FnScope ["_law_bag_here", "_law_many", "_law_digit"] ["_law_bag_here", "_law_many"] (defScope sTake) := ⟨rfl, rfl, rfl, by decide +kernel, rfl, by decide +kernel, by decide +kernel⟩
theorem ok_take {f : Addr} {fd : FuncData} (F : Fun K "_law_take" "_law_take" sTake f fd) : FnOk P w K mg base CX0 1 f fd ["_law_bag_here", "_law_many"] spTake := by
  refine F.ok scTk (fun vs H Q E h => ?_) (fun cdv A outer s H vs Q E hr h => ?_)
  · obtain ⟨p, m, rfl, _⟩ := h
    rfl
  · obtain ⟨p, m, rfl, ⟨x0, x1, pr, x3, hp, h0, h1, h1', hp0, hp1⟩, hm0, hm1, k⟩ := h
    refine ⟨_, pss_cons (ps_if (pt_cmpR op_gt (pe_ix ix_list (pv 0) pe_int (fun _ _ => rfl)) pe_int (nomark _))
        (pss_cons (ps_set (i := 2) scTk.nd rfl (Or.inl rfl) (pe_op op_mod (pe_ix ix_list (pv 0) pe_int (fun _ _ => rfl)) (pv 1)))
        (pss_cons (ps_asg (pe_op op_fdiv (pe_ix ix_list (pv 0) pe_int (fun _ _ => rfl)) (pv 1)) (pg_sub (pv 0) pe_int set_list)) (pss_one (ps_ret (pv 2))))) pss_nil)
      (pss_cons (ps_asg (pe_op op_add (pe_ix ix_list (pv 0) pe_int (fun _ _ => rfl)) pe_int) (pg_sub (pv 0) pe_int set_list))
      (pss_cons (ps_asg (pe_op op_mod (pe_op op_add (pe_op op_add (pe_op op_mul (pe_ix ix_list (pv 0) pe_int (fun _ _ => rfl)) pe_int) (pe_op op_mul pe_int (pe_ix ix_list (pv 0) pe_int (fun _ _ => rfl)))) pe_int) (pe_ix ix_list (pv 0) pe_int (fun _ _ => rfl))) (pg_sub (pv 0) pe_int set_list))
      (pss_one (ps_ret (pe_op op_mod (pe_op op_mod (pe_op op_pow (pe_op op_fdiv (pe_ix ix_list (pv 0) pe_int (fun _ _ => rfl)) pe_int) pe_int) pe_int) (pv 1)))))), ?_⟩
    refine ⟨_, rfl, p, _, _, .int x0, rfl, rfl, SqL.of hp, rfl, _, _, rfl, rfl, _, rfl, ?_⟩
    refine ite2 (fun hlt => ?_) (fun _ => ?_)
    · refine ⟨_, rfl, p, _, _, .int x0, rfl, rfl, SqL.of hp, rfl, _, rfl, _, _, rfl, rfl, hm0, ?_⟩
      refine ⟨_, rfl, p, _, _, .int x0, rfl, rfl, SqL.of hp, rfl, _, rfl, _, _, rfl, rfl, ⟨hm0, hm1⟩, _, rfl, p, _, _, 0, rfl, rfl, hp, rfl, ?_⟩
      refine ⟨_, rfl, k _ _ KB.set ⟨x0 / m, x1, pr, x3, upd_same, ?_, h1, h1', hp0, hp1⟩ ?_ ?_⟩
      · exact Int.ediv_nonneg h0 (by omega)
      · exact Int.emod_nonneg _ (by omega)
      · exact Int.emod_lt_of_pos _ hm0
    · refine ⟨_, rfl, p, _, _, .int x3, rfl, rfl, SqL.of hp, rfl, _, _, rfl, rfl, _, rfl, p, _, _, 3, rfl, rfl, hp, rfl, ?_⟩
      have hp2 : (upd H p (.lst [.int x0, .int x1, .int pr, .int (x3 + 1)])) p = some (.lst [.int x0, .int x1, .int pr, .int (x3 + 1)]) := upd_same
      refine ⟨_, rfl, p, _, _, .int x1, rfl, rfl, SqL.of hp2, rfl, _, _, rfl, rfl, .inr ⟨by decide, by decide⟩, _, rfl, p, _, _, .int (x3 + 1), rfl, rfl, SqL.of hp2, rfl, _, _, rfl, rfl, .inl ⟨by decide, by decide⟩, _, _, rfl, rfl, _, _, rfl, rfl, _, rfl, p, _, _, .int pr, rfl, rfl, SqL.of hp2, rfl, _, _, rfl, rfl, hp0, _, rfl, p, _, _, 1, rfl, rfl, hp2, rfl, ?_⟩
      have g0 : 0 ≤ (x1 * 48271 + 7919 * (x3 + 1) + 11) % pr := Int.emod_nonneg _ (by omega)
      have g1 : (x1 * 48271 + 7919 * (x3 + 1) + 11) % pr < pr := Int.emod_lt_of_pos _ hp0
      have hp3 : (upd (upd H p (.lst [.int x0, .int x1, .int pr, .int (x3 + 1)])) p (.lst [.int x0, .int ((x1 * 48271 + 7919 * (x3 + 1) + 11) % pr), .int pr, .int (x3 + 1)])) p = some (.lst [.int x0, .int ((x1 * 48271 + 7919 * (x3 + 1) + 11) % pr), .int pr, .int (x3 + 1)]) := upd_same
      refine ⟨_, rfl, p, _, _, .int ((x1 * 48271 + 7919 * (x3 + 1) + 11) % pr), rfl, rfl, SqL.of hp3, rfl, _, _, rfl, rfl, ⟨by decide, by decide⟩, _, _, rfl, rfl, ⟨by decide, by decide, ?_⟩, _, _, rfl, rfl, (by show (0 : Int) < 2147483629; decide), _, rfl, _, _, rfl, rfl, hm0, ?_⟩
      · generalize (x1 * 48271 + 7919 * (x3 + 1) + 11) % pr = y at g0 g1
        show (y / 8).natAbs < 2 ^ 64
        omega
      · refine k _ _ (KB.set.trans KB.set) ⟨x0, _, pr, x3 + 1, hp3, h0, g0, by omega, hp0, hp1⟩ ?_ ?_
        · exact Int.emod_nonneg _ (by omega)
        · exact Int.emod_lt_of_pos _ hm0
end
end Js

set_option Elab.async false
set_option linter.all false
set_option maxRecDepth 100000
set_option maxHeartbeats 2000000
namespace Js
open PySem L2
/-- a def of the top keeps its promise -/
def Def (P : Program) (w : World) (K : PySem.W.Frag) (mg : Str → Option Value) (base : Heap) (x : Str) (k : Nat) (ps : List Str) (sp : Sp) : Prop :=
  ∃ f fd, mg x = some (.ref f) ∧ PySem.W.keepIn K (.ref f) = true ∧ FnOk P w K mg base CX0 k f fd ps sp ∧ Binds K fd ps []
/-- a special method of the class -/
def Spc (P : Program) (w : World) (K : PySem.W.Frag) (mg : Str → Option Value) (base : Heap) (C : Addr) (x : Str) (k : Nat) (ps : List Str) (sp : Sp) : Prop :=
  ∃ f fd, Own K C x f ∧ FnOk P w K mg base CX0 k f fd ps sp ∧ Binds K fd ps []
/-- a method of the class -/
def Mth (P : Program) (w : World) (K : PySem.W.Frag) (mg : Str → Option Value) (base : Heap) (C : Addr) (x : Str) (k : Nat) (ps : List Str) (sp : Sp) : Prop :=
  ∃ f fd, Meth K C x f ∧ FnOk P w K mg base CX0 k f fd ps sp ∧ Binds K fd ps []
section
open PyProof.Rows
variable {X : Cx} {C : Addr} {p pos apos : Pos} {e o : Expr} {es : List Expr} {t : TA} {ta : TE} {x : Str} {k : Nat} {ps : List Str} {sp : Sp}
theorem pe_def (D : Def X.prog X.w X.K X.mg X.base x k ps sp) (hr : Room k X.A) (hg : Gl X x) (ha : PA X (e :: es) t) (hdb : (x == ("__debug__" : Str)) = false := by decide)
    (he : starEach (e :: es) X.env = (false, eval e X.env) :: starEach es X.env := by rfl) (hpl : (backTo pos (starEach es X.env)).any (·.1) = false := by rfl) : PE X (.Call (.Name x p) (e :: es) [] pos) (tCall sp [] E0 t) := by
  obtain ⟨f, fd, hm, hk, F, hb⟩ := D
  exact pe_call F hr hg hm hk hb .nil pass0 ha hdb he hpl
/-- == of things -/
def rEqT (C : Addr) : R2 := fun x y H Q => ∃ a b t u, x = .ref a ∧ y = .ref b ∧ Th C H a t ∧ Th C H b u ∧ t.size ≤ 4000 ∧ ∀ H', Same H H' → Q (.bl (decide (t = u))) H'
def rNeT (C : Addr) : R2 := fun x y H Q => ∃ a b t u, x = .ref a ∧ y = .ref b ∧ Th C H a t ∧ Th C H b u ∧ t.size ≤ 4000 ∧ ∀ H', Same H H' → Q (.bl (!decide (t = u))) H'
theorem OpR.imp {f : Value → Value → Sem Value} {r r' : R2} (h : OpR X f r) (hi : ∀ x y H Q, r' x y H Q → r x y H Q) : OpR X f r' := fun pins s σ H x y v u Q I rx ry q => h pins s σ H x y v u Q I rx ry (hi x y H Q q)
theorem CallR.imp {f : Value} {r r' : List V → Hp → VK → Prop} (h : CallR X f r) (hi : ∀ xs H Q, r' xs H Q → r xs H Q) : CallR X f r' := fun pins s σ H xs us Q I rx q => h pins s σ H xs us Q I rx (hi xs H Q q)
theorem op_eqT (S : Spc X.prog X.w X.K X.mg X.base C "__eq__" 2 ["self", "other"] (spEqT C)) (hr : Room 2 X.A) : OpR X (compareOp .Eq) (rEqT C) := by
  obtain ⟨f, fd, ow, F, hb⟩ := S
  refine OpR.imp (op_eqOwn ow F hb hr (pass0)) fun x y H Q h => ?_
  obtain ⟨a, b, t, u, rfl, rfl, ha, hb', hz, q⟩ := h
  obtain ⟨dx, f1, g1, h1⟩ := ha.obj
  obtain ⟨dy, f2, g2, h2⟩ := hb'.obj
  exact ⟨a, dx, _, b, dy, _, rfl, rfl, h1, h2, a, b, t, u, rfl, ha, hb', hz, fun H' s => ⟨_, rfl, q H' s⟩⟩
theorem op_neT (S : Spc X.prog X.w X.K X.mg X.base C "__eq__" 2 ["self", "other"] (spEqT C)) (T : Txt X.K X.mg C) (hr : Room 3 X.A) : OpR X (compareOp .NotEq) (rNeT C) := by
  obtain ⟨f, fd, ow, F, hb⟩ := S
  refine OpR.imp (op_neOwn ow ⟨T.ne, T.cm⟩ F hb hr (pass0)) fun x y H Q h => ?_
  obtain ⟨a, b, t, u, rfl, rfl, ha, hb', hz, q⟩ := h
  obtain ⟨dx, f1, g1, h1⟩ := ha.obj
  obtain ⟨dy, f2, g2, h2⟩ := hb'.obj
  exact ⟨a, dx, _, b, dy, _, rfl, rfl, h1, h2, a, b, t, u, rfl, ha, hb', hz, fun H' s => ⟨_, rfl, q H' s⟩⟩
theorem call_lenT (S : Spc X.prog X.w X.K X.mg X.base C "__len__" 1 ["self"] (spLen C)) (hr : Room 2 X.A) : CallR X (.builtin "len") (fun xs H Q => ∃ a t, xs = [.ref a] ∧ Th C H a t ∧ t.size ≤ 4000 ∧ Q (.int (t.size : Nat)) H) := by
  obtain ⟨f, fd, ow, F, hb⟩ := S
  refine CallR.imp (call_lenOwn ow F hb hr (pass0)) fun xs H Q h => ?_
  obtain ⟨a, t, rfl, ha, hz, q⟩ := h
  obtain ⟨dx, f1, g1, h1⟩ := ha.obj
  exact ⟨a, dx, _, rfl, h1, a, t, rfl, ha, hz, _, rfl, by omega, q⟩
theorem call_strT (S : Spc X.prog X.w X.K X.mg X.base C "__str__" 2 ["self"] (spStr C)) (hr : Room 4 X.A) : CallR X (.type "str") (fun xs H Q => ∃ a t, xs = [.ref a] ∧ Th C H a t ∧ t.size ≤ 4000 ∧ ∀ H', Same H H' → Q (.str t.text) H') := by
  obtain ⟨f, fd, ow, F, hb⟩ := S
  refine CallR.imp (call_strOwn ow F hb hr (pass0)) fun xs H Q h => ?_
  obtain ⟨a, t, rfl, ha, hz, q⟩ := h
  obtain ⟨dx, f1, g1, h1⟩ := ha.obj
  exact ⟨a, dx, _, rfl, h1, a, t, rfl, ha, hz, fun H' s => ⟨_, rfl, q H' s⟩⟩
/-- a thing in a list of things -/
def rInTh (C : Addr) : R2 := fun x y H Q => ∃ b u p xs ts, x = .ref b ∧ Th C H b u ∧ y = .ref p ∧ H p = some (.lst xs) ∧ Paired (ThV C H) xs ts ∧ (∀ t ∈ ts, t.size ≤ 4000) ∧ ∀ H', Same H H' → Q (.bl (ts.any fun t => decide (t = u))) H'
def DTh (C : Addr) : Tells := fun x y r H => ∃ a b t u, x = .ref a ∧ y = .ref b ∧ Th C H a t ∧ Th C H b u ∧ t.size ≤ 4000 ∧ r = decide (t = u)
theorem op_inTh (S : Spc X.prog X.w X.K X.mg X.base C "__eq__" 2 ["self", "other"] (spEqT C)) (hr : Room 3 X.A) : OpR X (compareOp .In) (rInTh C) := by
  obtain ⟨f, fd, ow, F, hb⟩ := S
  have ET : EqT X 2 (DTh C) := eqT_own ow F hb (pass0) fun x y r H d => by
    obtain ⟨a, b, t, u, rfl, rfl, ha, hb', hz, rfl⟩ := d
    obtain ⟨dx, f1, g1, h1⟩ := ha.obj
    obtain ⟨dy, f2, g2, h2⟩ := hb'.obj
    refine ⟨a, b, dx, dy, _, _, rfl, rfl, h1, h2, fun e => ?_, a, b, t, u, rfl, ha, hb', hz, fun H' s => ⟨_, rfl, rfl, s⟩⟩
    subst e
    exact decide_eq_true (ha.inj hb')
  refine OpR.imp (op_inT ET (fun x y r H H' s d => ?_) hr) fun x y H Q h => ?_
  · obtain ⟨a, b, t, u, e1, e2, ha, hb', hz, e3⟩ := d
    exact ⟨a, b, t, u, e1, e2, ha.same s, hb'.same s, hz, e3⟩
  · obtain ⟨b, u, p, xs, ts, rfl, hb', rfl, hp, hps, hz, q⟩ := h
    refine ⟨p, xs, ts.map fun t => decide (t = u), rfl, hp, by rw [List.length_map]; exact (Paired.length hps).symm, fun i z r h1 h2 => ?_, fun H' s => ?_⟩
    · obtain ⟨ty, e1, a, rfl, ha⟩ := paired_get hps h1
      rw [List.getElem?_map, e1] at h2
      exact ⟨a, b, ty, u, rfl, rfl, ha, hb', hz ty (List.mem_of_getElem? e1), (Option.some.inj h2).symm⟩
    · have := q H' s
      rw [List.any_map]
      exact this
theorem pe_mth {pl : Sem Bool} (M : Mth X.prog X.w X.K X.mg X.base C x k ps sp) (T : Txt X.K X.mg C) (hr : Room k X.A) (he : PE X o ta)
    (ht : eval (.Call (.Attribute o x apos) [] [] pos) X.env = (do
      let ov ← eval o X.env
      standAt apos.atName
      let (f, first) ← holding [ov] (getMethod ov x pl)
      callWith pos f first (backTo pos (starEach [] X.env)) (backToKw pos (keywordEach [] X.env))) := by rfl) :
    PE X (.Call (.Attribute o x apos) [] [] pos) (tMeth C x sp [] E0 ta tNil) := by
  obtain ⟨f, fd, hm, F, hb⟩ := M
  exact pe_meth0 he T.cl hm F hr hb .nil pass0 ht
end
/-- what the law's defs lean on -/
structure Lib (P : Program) (w : World) (K : PySem.W.Frag) (mg : Str → Option Value) (base : Heap) (C fI : Addr) (fdI : FuncData) : Prop where
  T : Txt K mg C
  B : Blt mg
  made : Maker P w K mg base C fI fdI
  eq : Spc P w K mg base C "__eq__" 2 ["self", "other"] (spEqT C)
  str : Spc P w K mg base C "__str__" 2 ["self"] (spStr C)
  len : Spc P w K mg base C "__len__" 1 ["self"] (spLen C)
  head : Mth P w K mg base C "head" 1 ["self"] (spHead C)
  tail : Mth P w K mg base C "tail" 1 ["self"] (spTail C)
  bag : Def P w K mg base "_law_bag" 1 ["_law_script", "_law_at"] (spBag K)
  take : Def P w K mg base "_law_take" 1 ["_law_bag_here", "_law_many"] spTake
theorem n_hd1 : ¬ (("head" : Str) = "size") := by decide +kernel
theorem n_hd2 : ¬ (("head" : Str) = "second") := by decide +kernel
theorem n_hd3 : ¬ (("head" : Str) = "first") := by decide +kernel
theorem n_tl1 : ¬ (("tail" : Str) = "size") := by decide +kernel
theorem n_tl2 : ¬ (("tail" : Str) = "second") := by decide +kernel
theorem n_tl3 : ¬ (("tail" : Str) = "first") := by decide +kernel
theorem tf_head (f s : V) (n : Int) : (tf f s n).lookup ("head" : Str) = none := tf_no f s n n_hd1 n_hd2 n_hd3
theorem tf_tail (f s : V) (n : Int) : (tf f s n).lookup ("tail" : Str) = none := tf_no f s n n_tl1 n_tl2 n_tl3
end Js

set_option Elab.async false
set_option linter.all false
set_option maxRecDepth 100000
set_option maxHeartbeats 2000000
namespace Js
open PySem L2
/-! ### texts, by their signs -/
def tx (cs : List Nat) : Str := ⟨cs.toArray⟩
theorem tx_list (cs : List Nat) : (tx cs).cps.toList = cs := rfl
theorem tx_len (cs : List Nat) : (tx cs).length = cs.length := by
  show cs.toArray.size = _
  rw [List.size_toArray]
theorem tx_of (x : Str) : tx x.cps.toList = x := PyProof.Rows.ext_toList (by rw [tx_list])
theorem tx_text (t : Tr) : t.text = tx t.codes := rfl
theorem tx_append (a b : List Nat) : tx a ++ tx b = tx (a ++ b) := by
  apply PyProof.Rows.ext_toList
  rw [tx_list]
  show (a.toArray ++ b.toArray).toList = a ++ b
  simp
theorem tx_inj {a b : List Nat} (h : tx a = tx b) : a = b := by rw [← tx_list a, ← tx_list b, h]
def repl (n : Nat) (xs : List Nat) : List Nat := (List.replicate n xs).flatten
theorem repl_succ (n : Nat) (xs : List Nat) : repl (n + 1) xs = xs ++ repl n xs := by simp [repl, List.replicate_succ]
theorem repl_len (n : Nat) (xs : List Nat) : (repl n xs).length = n * xs.length := by
  induction n with
  | zero => simp [repl]
  | succ n ih => rw [repl_succ, List.length_append, ih, Nat.succ_mul]; omega
theorem foldl_repl (xs : Array Nat) : ∀ (n : Nat) (acc : Array Nat), ((List.replicate n xs).foldl (· ++ ·) acc).toList = acc.toList ++ repl n xs.toList
  | 0, acc => by simp [repl]
  | n + 1, acc => by
    rw [List.replicate_succ, List.foldl_cons, foldl_repl xs n, repl_succ]
    simp
theorem mul_tx (cs : List Nat) (n : Nat) : PySem.Txt.mul (tx cs) (n : Nat) = tx (repl n cs) := by
  unfold PySem.Txt.mul
  by_cases h : ((n : Nat) : Int) < 1
  · rw [if_pos h]
    have : n = 0 := by omega
    subst this
    rfl
  · rw [if_neg h]
    by_cases h2 : ((((n : Nat) : Int) == 1 || (tx cs).length == 0) = true)
    · rw [if_pos h2]
      rcases Bool.or_eq_true_iff.mp h2 with h3 | h3
      · have : n = 1 := by
          have := eq_of_beq h3
          omega
        subst this
        simp [repl]
      · have h4 : cs.length = 0 := by
          have := eq_of_beq h3
          rw [tx_len] at this
          exact this
        have h5 : cs = [] := List.length_eq_zero_iff.mp h4
        subst h5
        have : repl n [] = [] := by
          apply List.length_eq_zero_iff.mp
          rw [repl_len]
          simp
        rw [this]
    · rw [if_neg h2]
      apply PyProof.Rows.ext_toList
      rw [tx_list]
      show ((List.replicate ((n : Nat) : Int).toNat cs.toArray).foldl (· ++ ·) #[]).toList = _
      rw [foldl_repl, Int.toNat_natCast]
      simp
theorem mul_ok (x : Str) (n : Nat) (h : x.length * n ≤ 1000000) (hn : n ≤ 1000000) (hx : x.length ≤ 1000000) : PySem.MulOk x (n : Nat) := by
  have hs := sizeLine_eq
  refine ⟨?_, fun h1 h2 => ?_, fun h1 h2 => ?_⟩
  · rw [decide_eq_false (by omega), decide_eq_false (by omega)]
    rfl
  · intro z
    have h3 : (1000000 : Int) ≤ (2 ^ 63 - 1) / (n : Nat) := by
      have hp : (0 : Int) < (n : Nat) := by omega
      rw [Int.le_ediv_iff_mul_le hp]
      omega
    omega
  · unfold PySem.Builtin.Str.tooLong
    rw [Int.toNat_natCast]
    exact decide_eq_false (by omega)
section
variable {X : Cx}
theorem op_mulS : OpR X (binaryOp .Mult) (fun x y H Q => ∃ (cs : List Nat) (n : Nat), x = .str (tx cs) ∧ y = .int (n : Nat) ∧ cs.length * n ≤ 1000000 ∧ n ≤ 1000000 ∧ cs.length ≤ 1000000 ∧ Q (.str (tx (repl n cs))) H) := by
  intro pins s σ H x y v u Q I rx ry h
  obtain ⟨cs, n, rfl, rfl, h1, h2, h3, q⟩ := h
  obtain ⟨t, rfl⟩ := rx
  obtain ⟨t', rfl⟩ := ry
  refine PySem.SB.mul (mul_ok _ n (by rw [tx_len]; exact h1) h2 (by rw [tx_len]; exact h3)) fun tk k => ?_
  rw [mul_tx]
  exact ⟨.str _, H, I.tok k, ⟨tk, rfl⟩, q⟩
/-- s + t by their signs -/
theorem op_addX : OpR X (binaryOp .Add) (fun x y H Q => ∃ (a b : List Nat), x = .str (tx a) ∧ y = .str (tx b) ∧ a.length + b.length ≤ 1000000 ∧ Q (.str (tx (a ++ b))) H) :=
  OpR.imp op_add_str fun x y H Q h => by
    obtain ⟨a, b, rfl, rfl, h1, q⟩ := h
    have hs := sizeLine_eq
    exact ⟨_, _, rfl, rfl, by rw [tx_len, tx_len]; omega, by rw [tx_append]; exact q⟩
end
/-! ### how often a sign stands in a text -/
theorem chain_count (x : Str) (c : Nat) (hi : Nat) (hh : hi = x.length) : ∀ (cuts : List Nat) (a f : Nat), PySem.StrLaws.ChainG x ⟨#[c]⟩ hi a cuts f → (∀ k, f ≤ k → ¬ PySem.StrLaws.At x ⟨#[c]⟩ hi k) → cuts.length = (x.cps.toList.drop a).count c
  | [], a, f, h, hn => by
    have e : f = a := h
    subst e
    symm
    rw [List.length_nil, List.count_eq_zero]
    intro hm
    obtain ⟨j, hj⟩ := List.getElem?_of_mem hm
    rw [List.getElem?_drop] at hj
    subst hh
    exact hn (f + j) (by omega) ((PySem.StrLaws.subAt_one x c (f + j)).mpr hj)
  | d :: r, a, f, h, hn => by
    obtain ⟨h1, h2, h3, h4⟩ := h
    have ih := chain_count x c hi hh r (d + 1) f h4 hn
    subst hh
    have hd : x.cps.toList[d]? = some c := (PySem.StrLaws.subAt_one x c d).mp h2
    have hlt := (List.getElem?_eq_some_iff.mp hd).1
    have e1 : x.cps.toList.drop a = (x.cps.toList.drop a).take (d - a) ++ x.cps.toList.drop d := by
      have := List.take_append_drop (d - a) (x.cps.toList.drop a)
      rw [List.drop_drop] at this
      have e : a + (d - a) = d := by omega
      rw [e] at this
      exact this.symm
    have e2 : ((x.cps.toList.drop a).take (d - a)).count c = 0 := by
      rw [List.count_eq_zero]
      intro hm
      obtain ⟨j, hj⟩ := List.getElem?_of_mem hm
      have hj1 : j < d - a := by
        have := (List.getElem?_eq_some_iff.mp hj).1
        rw [List.length_take] at this
        omega
      rw [List.getElem?_take_of_lt hj1, List.getElem?_drop] at hj
      exact h3 (a + j) (by omega) (by omega) ((PySem.StrLaws.subAt_one x c (a + j)).mpr hj)
    have e3 : x.cps.toList.drop d = c :: x.cps.toList.drop (d + 1) := by
      rw [List.drop_eq_getElem_cons hlt, (List.getElem?_eq_some_iff.mp hd).2]
    rw [e1, List.count_append, e2, e3, List.count_cons_self, List.length_cons, ih]
    omega
theorem count_tx (cs : List Nat) (c : Nat) : PySem.Txt.count (tx cs) ⟨#[c]⟩ = ((cs.count c : Nat) : Int) := by
  unfold PySem.Txt.count
  obtain ⟨f, h1, h2⟩ := PySem.StrLaws.occ_tight (tx cs) ⟨#[c]⟩ (by show 1 ≤ 1; decide)
  rw [chain_count (tx cs) c _ rfl _ 0 f h1 h2, List.drop_zero, tx_list]
theorem count_codes : ∀ t : Tr, t.codes.count 40 = t.size
  | .nil => by decide
  | .pr l r => by
    simp only [Tr.codes, Tr.size, List.count_cons, List.count_append, count_codes l, count_codes r]
    simp
    omega
/-! ### slices -/
theorem cut_tx (cs : List Nat) (i j : Nat) (h : i ≤ j) (hj : j ≤ cs.length) : cutS (tx cs) (some (i : Nat)) (some (j : Nat)) = tx ((cs.drop i).take (j - i)) := by
  unfold cutS
  have e1 : min i cs.length = i := Nat.min_eq_left (by omega)
  rw [HT.sIx_nat, HT.sIx_nat, tx_len, tx_list, e1, Nat.min_eq_left hj]
  rfl
theorem cut_neg (cs : List Nat) (i j : Nat) (h : i + j ≤ cs.length) (h0 : 0 < j) : cutS (tx cs) (some (i : Nat)) (some (-(j : Nat) : Int)) = tx ((cs.drop i).take (cs.length - j - i)) := by
  unfold cutS
  have e : HT.sIx (tx cs).length (tx cs).length (some (-((j : Nat) : Int))) = cs.length - j := by
    rw [tx_len]
    show (if (-((j : Nat) : Int)) < 0 then _ else _) = _
    rw [if_pos (by omega)]
    omega
  rw [HT.sIx_nat, e, tx_len, tx_list, Nat.min_eq_left (by omega)]
  rfl
/-! ### how deep -/
def dp1 (c : Nat) : Int := if c = 40 then 1 else if c = 41 then -1 else 0
def dep (cs : List Nat) : Int := (cs.map dp1).sum
theorem dp40 : dp1 40 = 1 := rfl
theorem dep_nil : dep [] = 0 := rfl
theorem dep_cons (c : Nat) (cs : List Nat) : dep (c :: cs) = dp1 c + dep cs := by simp [dep]
theorem dep_append (a b : List Nat) : dep (a ++ b) = dep a + dep b := by simp [dep]
theorem dep_codes : ∀ t : Tr, dep t.codes = 0
  | .nil => rfl
  | .pr l r => by
    simp only [Tr.codes, dep_cons, dep_append, dep_codes l, dep_codes r, dep_nil]
    decide
theorem dep_take_append (a b : List Nat) (j : Nat) : dep ((a ++ b).take j) = if j ≤ a.length then dep (a.take j) else dep a + dep (b.take (j - a.length)) := by
  by_cases h : j ≤ a.length
  · rw [if_pos h, List.take_append_of_le_length h]
  · rw [if_neg h, List.take_append, List.take_of_length_le (by omega), dep_append]
theorem dep_nn : ∀ (t : Tr) (j : Nat), 0 ≤ dep (t.codes.take j)
  | .nil, 0 => by decide
  | .nil, j + 1 => by simp [Tr.codes, dep]; decide
  | .pr l r, 0 => by simp [dep]
  | .pr l r, j + 1 => by
    have hl := dep_nn l
    have hr := dep_nn r
    simp only [Tr.codes, List.take_succ_cons, dep_cons]
    rw [dep_take_append]
    split
    · have := hl j
      simp only [dp1]
      omega
    · rw [dep_take_append, dep_codes l]
      split
      · have := hr (j - l.codes.length)
        simp only [dp1]
        omega
      · rw [dep_codes r]
        match j - l.codes.length - r.codes.length with
        | 0 => simp [dep, dp1]
        | n + 1 => simp [dep, dp1]
/-- between the first sign and the last one some bracket is open -/
theorem dep_pos (t : Tr) (j : Nat) (h0 : 0 < j) (h1 : j < t.codes.length) : 0 < dep (t.codes.take j) := by
  cases t with
  | nil => simp [Tr.codes] at h1; omega
  | pr l r =>
    obtain ⟨j, rfl⟩ : ∃ i, j = i + 1 := ⟨j - 1, by omega⟩
    have hl := dep_nn l
    have hr := dep_nn r
    simp only [Tr.codes, List.length_cons, List.length_append, List.length_nil] at h1
    simp only [Tr.codes, List.take_succ_cons, dep_cons]
    rw [dep_take_append]
    split
    · have := hl j
      rw [dp40]
      omega
    · rw [dep_take_append, dep_codes l]
      split
      · have := hr (j - l.codes.length)
        rw [dp40]
        omega
      · omega
theorem codes_sign : ∀ (t : Tr) (c : Nat), c ∈ t.codes → c = 46 ∨ c = 40 ∨ c = 41
  | .nil, c, h => by simp [Tr.codes] at h; exact .inl h
  | .pr l r, c, h => by
    simp only [Tr.codes, List.mem_cons, List.mem_append, List.not_mem_nil, or_false] at h
    rcases h with h | h | h | h
    · exact .inr (.inl h)
    · exact codes_sign l c h
    · exact codes_sign r c h
    · exact .inr (.inr h)
theorem dot_eq : ((("." : Str))) = Tr.nil.text := by decide +kernel
theorem pr_not_dot (l r : Tr) : decide (V.str (Tr.pr l r).text = V.str ".") = false := by
  rw [dot_eq]
  exact decide_eq_false fun z => Tr.noConfusion (Tr.text_inj (V.str.inj z))
theorem nil_dot : decide (V.str Tr.nil.text = V.str ".") = true := by
  rw [dot_eq]
  simp
end Js

set_option Elab.async false
set_option linter.all false
set_option maxRecDepth 100000
set_option maxHeartbeats 2000000
namespace Js
open PySem L2
def cThing : List Nat := [84, 104, 105, 110, 103, 32]
theorem c_Thing : (("Thing " : Str)) = tx cThing := by decide +kernel
def spRepr (C : Addr) : Sp := fun vs H Q _ => ∃ a t, vs = [.ref a] ∧ Th C H a t ∧ t.size ≤ 4000 ∧ ∀ H', Same H H' → Q (.str (tx (cThing ++ t.codes))) H'
section
variable {P : Program} {w : World} {K : PySem.W.Frag} {mg : Str → Option Value} {base : Heap} {C fI : Addr} {fdI : FuncData}
theorem scRp : FnScope ["self"] ["self"] (defScope sRepr) := ⟨rfl, rfl, rfl, by decide +kernel, rfl, by decide +kernel, by decide +kernel⟩
theorem ok_repr {f : Addr} {fd : FuncData} (F : Fun K "__repr__" "Thing.__repr__" sRepr f fd) (B : Blt mg) (S : Spc P w K mg base C "__str__" 2 ["self"] (spStr C)) : FnOk P w K mg base CX0 5 f fd ["self"] (spRepr C) := by
  refine F.ok scRp (fun vs H Q E h => ?_) (fun cdv A outer s H vs Q E hr h => ?_)
  · obtain ⟨a, t, rfl, _⟩ := h
    rfl
  · obtain ⟨a, t, rfl, ha, hz, k⟩ := h
    refine ⟨_, pss_one (ps_ret (pe_joined (.cons pe_str (.cons (pe_fmt (pe_callTy (call_strT S hr) (by rfl) B.str PyProof.Rows.boot_str (pa_cons (pv 0) pa_nil))) .nil)))), ?_⟩
    have hsl := line4
    refine ⟨_, rfl, (by decide +kernel), _, rfl, a, t, rfl, ha, hz, fun H' s1 => .inl ⟨_, rfl, ?_, _, rfl, ?_, ?_⟩⟩
    · rw [Tr.text_len]
      omega
    · have e : Str.empty ++ ("Thing " : Str) = tx cThing := by decide +kernel
      rw [e, tx_text, tx_append, tx_len, List.length_append, Tr.codes_len]
      simp [cThing]
      omega
    · have e : Str.empty ++ ("Thing " : Str) = tx cThing := by decide +kernel
      have q := k H' s1
      show Q (.str (Str.empty ++ ("Thing " : Str) ++ t.text)) H'
      rw [e, tx_text, tx_append]
      exact q
end
section
open PyProof.Rows
variable {X : Cx} {C : Addr}
theorem call_reprT (S : Spc X.prog X.w X.K X.mg X.base C "__repr__" 5 ["self"] (spRepr C)) (hr : Room 6 X.A) : CallR X (.builtin "repr") (fun xs H Q => ∃ a t, xs = [.ref a] ∧ Th C H a t ∧ t.size ≤ 4000 ∧ ∀ H', Same H H' → Q (.str (tx (cThing ++ t.codes))) H') := by
  obtain ⟨f, fd, ow, F, hb⟩ := S
  refine CallR.imp (call_reprOwn ow F hb hr (pass0)) fun xs H Q h => ?_
  obtain ⟨a, t, rfl, ha, hz, q⟩ := h
  obtain ⟨dx, f1, g1, h1⟩ := ha.obj
  exact ⟨a, dx, _, rfl, h1, a, t, rfl, ha, hz, fun H' s => ⟨_, rfl, q H' s⟩⟩
/-- f(k = v, ..), no value by its place -/
theorem pe_callN0 {CX : CXT} {k : Nat} {f : Addr} {fd : FuncData} {ps ks : List Str} {sp : Sp} {E : XK} {x : Str} {p pos : Pos} {kws : List Keyword} {tk : TA} {g : List Value → List Value → List Value} {gV : List V → List V → List V}
    (F : FnOk X.prog X.w X.K X.mg X.base CX k f fd ps sp) (hr : Room k X.A) (hg : Gl X x) (hm : X.mg x = some (.ref f)) (hk : PySem.W.keepIn X.K (.ref f) = true) (hb : KBn X.K fd ps 0 ks g gV) (hx : Passes CX X E)
    (hkw : PK X kws tk) (hall : (backToKw pos (keywordEach kws X.env)).all (·.1.isSome) = true := by rfl) (hks : (backToKw pos (keywordEach kws X.env)).filterMap (·.1) = ks := by rfl)
    (hdb : (x == ("__debug__" : Str)) = false := by decide) (hpl : ((backTo pos (starEach [] X.env)).any (·.1) || (backToKw pos (keywordEach kws X.env)).any (·.1.isNone)) = false := by rfl) :
    PE X (.Call (.Name x p) [] kws pos) (tCallN 0 ks.length sp gV E tNil tk) := by
  refine ⟨fun pins s σ H Q I h => ?_⟩
  refine wpAny_Call_Name_kw (ld_glob I hg hm ?_ hdb)
  refine PySem.W.callWith_KW0 (h₀ := X.base) I.ok.mod.kin hk hall (thn (hkw.run pos pins s σ H _ I h) fun ws s2 hh => ?_) hpl
  obtain ⟨zs, H2, I2, rz, l1, l2, q2⟩ := hh
  refine ⟨I2.kIn, ?_⟩
  rw [hks]
  exact run_fnN (us := []) (vs := []) F hr hb hx I2 .nil rz l1 l2 q2
end
/-- a def that is called by one keyword -/
def DefK (P : Program) (w : World) (K : PySem.W.Frag) (mg : Str → Option Value) (base : Heap) (x : Str) (k : Nat) (ps ks : List Str) (sp : Sp) : Prop :=
  ∃ f fd, mg x = some (.ref f) ∧ PySem.W.keepIn K (.ref f) = true ∧ FnOk P w K mg base CX0 k f fd ps sp ∧ KBn K fd ps 0 ks (fun _ ws => ws) (fun _ zs => zs)
theorem pe_defK {X : Cx} {x : Str} {p pos : Pos} {k : Nat} {ps ks : List Str} {sp : Sp} {kws : List Keyword} {tk : TA} (D : DefK X.prog X.w X.K X.mg X.base x k ps ks sp) (hr : Room k X.A) (hg : Gl X x) (hkw : PK X kws tk)
    (hall : (backToKw pos (keywordEach kws X.env)).all (·.1.isSome) = true := by rfl) (hks : (backToKw pos (keywordEach kws X.env)).filterMap (·.1) = ks := by rfl)
    (hdb : (x == ("__debug__" : Str)) = false := by decide) (hpl : ((backTo pos (starEach [] X.env)).any (·.1) || (backToKw pos (keywordEach kws X.env)).any (·.1.isNone)) = false := by rfl) :
    PE X (.Call (.Name x p) [] kws pos) (tCallN 0 ks.length sp (fun _ zs => zs) E0 tNil tk) := by
  obtain ⟨f, fd, hm, hk, F, hb⟩ := D
  exact pe_callN0 F hr hg hm hk hb pass0 hkw hall hks hdb hpl
end Js

set_option Elab.async false
set_option linter.all false
set_option maxRecDepth 100000
set_option maxHeartbeats 2000000
/-! == and != of lists and of tuples whose items have an own ==: what comes of them, alike or not -/
namespace JsQ
open PySem PySem.SeqAt
open AutoSeq1 (wpAny_loadPart')
open MeetsSeq MeetsSeq2 MeetsSeq3 SeqRoads2
section
variable {prog : Program} {w : World} {A : Around} {R : Result → Shared → Prop}
def TwoL (l b : Addr) (N : Nat) (us vs : Array Value) (s : Shared) : Prop := (∃ n, s.heap.get? l = some { cls := .type "list", data := .seq us n }) ∧ (∃ m, s.heap.get? b = some { cls := .type "list", data := .seq vs m }) ∧ us.size = N ∧ vs.size = N
/-- two lists of N items: J i behind i that are alike, F i where the next two are unlike -/
structure Goes (prog : Program) (w : World) (A : Around) (X : Value → Shared → Prop) (l b : Addr) (N : Nat) (J Fa : Nat → Shared → Prop) : Prop where
  turn : ∀ i s, J i s → ∃ us vs : Array Value, TwoL l b N us vs s ∧ ∀ (h1 : i < us.size) (h2 : i < vs.size), wpAny (model prog w) A.in1 (eqBool us[i] vs[i]) (fun r s' => if r = true then J (i + 1) s' else Fa i s') X s
  stay : ∀ i s, Fa i s → ∃ us vs : Array Value, TwoL l b N us vs s

theorem loop_eq (l b : Addr) (N : Nat) (J Fa : Nat → Shared → Prop) (g : Goes prog w A (fun e s' => R (.error e) s') l b N J Fa) (fin : ∀ s, J N s → R (.ok (.ret (.bool true))) s) (brk : ∀ i s, Fa i s → R (.ok (.ret (.bool false))) s) (k : Nat) :
    ∀ i : Nat, N - i = k → i ≤ N → ∀ s, J i s → wpAny (model prog w) A.in1 (Builtin.«list.__eq__.loop» ⟨[.ref l, .ref b, rawInt i, rawInt 2], []⟩) (GQ.FinOf prog w A R) (fun e s' => R (.error e) s') s := by
  induction k with
  | zero =>
    intro i hk hi s h
    obtain ⟨us, vs, ⟨⟨n, c1⟩, ⟨m, c2⟩, z1, z2⟩, _⟩ := g.turn _ _ h
    have ei : i = N := by omega
    have hR : R (.ok (.ret (.bool true))) s := fin s (ei ▸ h)
    obtain ⟨hp, gg, d, tk, os⟩ := s
    wp_walk using wpAny_loadPart' c1, wpAny_loadPart' c2
    have q1 : us[((i : Nat) : Int).toNat]? = none := by simp; omega
    have q2 : vs[((i : Nat) : Int).toNat]? = none := by simp; omega
    rw [q1, q2]
    wp_walk using wpAny_loadPart' c1, wpAny_loadPart' c2
    first
    | (show R (.ok (.ret (.bool (us.size == vs.size)))) _; rw [z1, z2]; simpa using hR)
    | (show R (.ok (.ret (.bool (us.size != vs.size)))) _; rw [z1, z2]; simpa using hR)
  | succ k ih =>
    intro i hk hi s h
    obtain ⟨us, vs, ⟨⟨n, c1⟩, ⟨m, c2⟩, z1, z2⟩, turn⟩ := g.turn _ _ h
    have l1 : i < us.size := by omega
    have l2 : i < vs.size := by omega
    have ht := turn l1 l2
    obtain ⟨hp, gg, d, tk, os⟩ := s
    wp_walk using wpAny_loadPart' c1, wpAny_loadPart' c2
    have q1 : us[((i : Nat) : Int).toNat]? = some us[i] := by simp [l1]
    have q2 : vs[((i : Nat) : Int).toNat]? = some vs[i] := by simp [l2]
    have ec : ((i : Int) + 1) = ((i + 1 : Nat) : Int) := by omega
    rw [q1, q2]
    refine wpAny_bind (wpAny_mono ht (fun r s2 h2 => ?_) fun _ _ x => x)
    cases r with
    | true =>
      rw [if_pos rfl] at h2
      have again := ih (i + 1) (by omega) (by omega) s2 h2
      obtain ⟨hp2, g2, d2, tk2, os2⟩ := s2
      wp_walk
      rw [ec]
      exact ⟨plainId_quiet plain_eq_loop _, codeAny_builtin entry_eq_loop (by rw [Around.under_plainId plain_eq_loop _]; exact again)⟩
    | false =>
      rw [if_neg Bool.false_ne_true] at h2
      obtain ⟨us', vs', ⟨n', c1'⟩, ⟨m', c2'⟩, z1', z2'⟩ := g.stay _ _ h2
      have hR := brk i s2 h2
      obtain ⟨hp2, g2, d2, tk2, os2⟩ := s2
      have p1 : us'[((i : Nat) : Int).toNat]? = some (us'[i]'(by omega)) := by first | (simp; done) | (simp; omega)
      have p2 : vs'[((i : Nat) : Int).toNat]? = some (vs'[i]'(by omega)) := by first | (simp; done) | (simp; omega)
      wp_walk using wpAny_loadPart' c1', wpAny_loadPart' c2'
      first
      | exact hR
      | (rw [p1, p2]; wp_walk; simpa using hR)
theorem list_eq (l b : Addr) (N : Nat) (J Fa : Nat → Shared → Prop) (g : Goes prog w A (fun e s' => R (.error e) s') l b N J Fa) (fin : ∀ s, J N s → R (.ok (.ret (.bool true))) s) (brk : ∀ i s, Fa i s → R (.ok (.ret (.bool false))) s) {s : Shared} (h : J 0 s) :
    wpAny (model prog w) A.in1 (Builtin.«list.__eq__» ⟨[.ref l, .ref b], []⟩) (GQ.FinOf prog w A R) (fun e s' => R (.error e) s') s := by
  obtain ⟨us, vs, ⟨⟨n, c1⟩, ⟨m, c2⟩, z1, z2⟩, _⟩ := g.turn _ _ h
  have go := loop_eq (A := A) (R := R) l b N J Fa g fin brk _ 0 rfl (Nat.zero_le _) s h
  obtain ⟨hp, gg, d, tk, os⟩ := s
  have f3 := AutoSeq1.sub_list_list
  have ne : ¬ (us.size != vs.size) = true := by simp [z1, z2]
  wp_walk using wpAny_loadPart' c1, wpAny_loadPart' c2
  exact ⟨plainId_quiet plain_eq_loop _, codeAny_builtin entry_eq_loop (by rw [Around.under_plainId plain_eq_loop _]; exact go)⟩
theorem far_eq (l b : Addr) (us vs : Array Value) (n m : Nat) (hz : (us.size != vs.size) = true) {s : Shared} (c1 : s.heap.get? l = some { cls := .type "list", data := .seq us n }) (c2 : s.heap.get? b = some { cls := .type "list", data := .seq vs m }) (h : R (.ok (.ret (.bool false))) s) :
    wpAny (model prog w) A.in1 (Builtin.«list.__eq__» ⟨[.ref l, .ref b], []⟩) (GQ.FinOf prog w A R) (fun e s' => R (.error e) s') s := by
  obtain ⟨hp, gg, d, tk, os⟩ := s
  have f3 := AutoSeq1.sub_list_list
  wp_walk using wpAny_loadPart' c1, wpAny_loadPart' c2
  exact h
theorem tup_eq (l b : Addr) (us vs : Array Value) (n m : Nat) (dd dd2 : Option Addr) (sl sl2 : Array (Option Value)) (J Fa : Nat → Shared → Prop)
    (turn : ∀ i (h1 : i < us.size) (h2 : i < vs.size) s, J i s → wpAny (model prog w) A.in1 (eqBool us[i] vs[i]) (fun r s' => if r = true then J (i + 1) s' else Fa i s') (fun e s' => R (.error e) s') s)
    (fin : ∀ s, J (min us.size vs.size) s → R (.ok (.ret (.bool (if us.size = vs.size then true else false)))) s) (brk : ∀ i s, Fa i s → R (.ok (.ret (.bool false))) s) {s : Shared} (c1 : s.heap.get? l = some { cls := .type "tuple", dict := dd, data := .seq us n, slots := sl })
    (c2 : s.heap.get? b = some { cls := .type "tuple", dict := dd2, data := .seq vs m, slots := sl2 }) (h : J 0 s) :
    wpAny (model prog w) A.in1 (Builtin.«tuple.__eq__» ⟨[.ref l, .ref b], []⟩) (GQ.FinOf prog w A R) (fun e s' => R (.error e) s') s := by
  have f2 := AutoSeq1.sub_tuple_tuple
  have zip_len : (us.toList.zip vs.toList).length = min us.size vs.size := by simp
  have h0 := h
  obtain ⟨hp, gg, d, tk, os⟩ := s
  wp_walk using wpAny_loadPart' c1, wpAny_loadPart' c2, wpAny_forIn_list _ (fun rest b s' => b.1 = none ∧ ∃ i, rest = (us.toList.zip vs.toList).drop i ∧ i ≤ min us.size vs.size ∧ J i s') _
  case turn =>
    rintro ⟨y, x⟩ rest b s' ⟨hb', i, hz, hi, hI⟩
    have lt : i < (us.toList.zip vs.toList).length := by
      rcases Nat.lt_or_ge i (us.toList.zip vs.toList).length with q | q
      · exact q
      · rw [List.drop_of_length_le q] at hz; cases hz
    have h1 : i < us.size := by omega
    have h2 : i < vs.size := by omega
    rw [List.drop_eq_getElem_cons lt] at hz
    injection hz with eyx er
    have ey : y = us[i] := by have := congrArg Prod.fst eyx; simpa using this
    have ex : x = vs[i] := by have := congrArg Prod.snd eyx; simpa using this
    subst ey ex
    refine wpAny_bind (wpAny_mono (turn i h1 h2 s' hI) (fun r s2 q2 => ?_) fun _ _ x => x)
    cases r with
    | true =>
      rw [if_pos rfl] at q2
      wp_walk
      exact ⟨rfl, i + 1, er, by omega, q2⟩
    | false =>
      rw [if_neg Bool.false_ne_true] at q2
      have hR := brk i s2 q2
      wp_walk
      first
      | exact ⟨_, rfl, hR⟩
      | exact hR
      | simpa using hR
  case fin =>
    rintro ⟨b1, b2⟩ s' ⟨hb', i, hz, hi, hI⟩
    simp only at hb'
    subst hb'
    have ge : min us.size vs.size ≤ i := by
      rcases Nat.lt_or_ge i (us.toList.zip vs.toList).length with q | q
      · rw [List.drop_eq_getElem_cons q] at hz; cases hz
      · exact zip_len ▸ q
    have ei : i = min us.size vs.size := by omega
    have hR := fin s' (ei ▸ hI)
    wp_walk
    by_cases hs : us.size = vs.size
    · rw [if_pos hs] at hR
      first
      | exact ⟨_, rfl, by simpa [Builtin.Tuple.tupleCompareSizes, bne, hs] using hR⟩
      | simpa [Builtin.Tuple.tupleCompareSizes, bne, hs] using hR
    · rw [if_neg hs] at hR
      have hs' : (us.size == vs.size) = false := beq_eq_false_iff_ne.mpr hs
      first
      | exact ⟨_, rfl, by simpa [Builtin.Tuple.tupleCompareSizes, bne, hs'] using hR⟩
      | (simp only [Builtin.Tuple.tupleCompareSizes, bne, hs']; exact hR)
  case h =>
    exact ⟨rfl, 0, rfl, Nat.zero_le _, h0⟩

theorem loop_ne (l b : Addr) (N : Nat) (J Fa : Nat → Shared → Prop) (g : Goes prog w A (fun e s' => R (.error e) s') l b N J Fa) (fin : ∀ s, J N s → R (.ok (.ret (.bool false))) s) (brk : ∀ i s, Fa i s → R (.ok (.ret (.bool true))) s) (k : Nat) :
    ∀ i : Nat, N - i = k → i ≤ N → ∀ s, J i s → wpAny (model prog w) A.in1 (Builtin.«list.__eq__.loop» ⟨[.ref l, .ref b, rawInt i, rawInt 3], []⟩) (GQ.FinOf prog w A R) (fun e s' => R (.error e) s') s := by
  induction k with
  | zero =>
    intro i hk hi s h
    obtain ⟨us, vs, ⟨⟨n, c1⟩, ⟨m, c2⟩, z1, z2⟩, _⟩ := g.turn _ _ h
    have ei : i = N := by omega
    have hR : R (.ok (.ret (.bool false))) s := fin s (ei ▸ h)
    obtain ⟨hp, gg, d, tk, os⟩ := s
    wp_walk using wpAny_loadPart' c1, wpAny_loadPart' c2
    have q1 : us[((i : Nat) : Int).toNat]? = none := by simp; omega
    have q2 : vs[((i : Nat) : Int).toNat]? = none := by simp; omega
    rw [q1, q2]
    wp_walk using wpAny_loadPart' c1, wpAny_loadPart' c2
    first
    | (show R (.ok (.ret (.bool (us.size == vs.size)))) _; rw [z1, z2]; simpa using hR)
    | (show R (.ok (.ret (.bool (us.size != vs.size)))) _; rw [z1, z2]; simpa using hR)
  | succ k ih =>
    intro i hk hi s h
    obtain ⟨us, vs, ⟨⟨n, c1⟩, ⟨m, c2⟩, z1, z2⟩, turn⟩ := g.turn _ _ h
    have l1 : i < us.size := by omega
    have l2 : i < vs.size := by omega
    have ht := turn l1 l2
    obtain ⟨hp, gg, d, tk, os⟩ := s
    wp_walk using wpAny_loadPart' c1, wpAny_loadPart' c2
    have q1 : us[((i : Nat) : Int).toNat]? = some us[i] := by simp [l1]
    have q2 : vs[((i : Nat) : Int).toNat]? = some vs[i] := by simp [l2]
    have ec : ((i : Int) + 1) = ((i + 1 : Nat) : Int) := by omega
    rw [q1, q2]
    refine wpAny_bind (wpAny_mono ht (fun r s2 h2 => ?_) fun _ _ x => x)
    cases r with
    | true =>
      rw [if_pos rfl] at h2
      have again := ih (i + 1) (by omega) (by omega) s2 h2
      obtain ⟨hp2, g2, d2, tk2, os2⟩ := s2
      wp_walk
      rw [ec]
      exact ⟨plainId_quiet plain_eq_loop _, codeAny_builtin entry_eq_loop (by rw [Around.under_plainId plain_eq_loop _]; exact again)⟩
    | false =>
      rw [if_neg Bool.false_ne_true] at h2
      obtain ⟨us', vs', ⟨n', c1'⟩, ⟨m', c2'⟩, z1', z2'⟩ := g.stay _ _ h2
      have hR := brk i s2 h2
      obtain ⟨hp2, g2, d2, tk2, os2⟩ := s2
      have p1 : us'[((i : Nat) : Int).toNat]? = some (us'[i]'(by omega)) := by first | (simp; done) | (simp; omega)
      have p2 : vs'[((i : Nat) : Int).toNat]? = some (vs'[i]'(by omega)) := by first | (simp; done) | (simp; omega)
      wp_walk using wpAny_loadPart' c1', wpAny_loadPart' c2'
      first
      | exact hR
      | (rw [p1, p2]; wp_walk; simpa using hR)
theorem list_ne (l b : Addr) (N : Nat) (J Fa : Nat → Shared → Prop) (g : Goes prog w A (fun e s' => R (.error e) s') l b N J Fa) (fin : ∀ s, J N s → R (.ok (.ret (.bool false))) s) (brk : ∀ i s, Fa i s → R (.ok (.ret (.bool true))) s) {s : Shared} (h : J 0 s) :
    wpAny (model prog w) A.in1 (Builtin.«list.__ne__» ⟨[.ref l, .ref b], []⟩) (GQ.FinOf prog w A R) (fun e s' => R (.error e) s') s := by
  obtain ⟨us, vs, ⟨⟨n, c1⟩, ⟨m, c2⟩, z1, z2⟩, _⟩ := g.turn _ _ h
  have go := loop_ne (A := A) (R := R) l b N J Fa g fin brk _ 0 rfl (Nat.zero_le _) s h
  obtain ⟨hp, gg, d, tk, os⟩ := s
  have f3 := AutoSeq1.sub_list_list
  have ne : ¬ (us.size != vs.size) = true := by simp [z1, z2]
  wp_walk using wpAny_loadPart' c1, wpAny_loadPart' c2
  exact ⟨plainId_quiet plain_eq_loop _, codeAny_builtin entry_eq_loop (by rw [Around.under_plainId plain_eq_loop _]; exact go)⟩
theorem far_ne (l b : Addr) (us vs : Array Value) (n m : Nat) (hz : (us.size != vs.size) = true) {s : Shared} (c1 : s.heap.get? l = some { cls := .type "list", data := .seq us n }) (c2 : s.heap.get? b = some { cls := .type "list", data := .seq vs m }) (h : R (.ok (.ret (.bool true))) s) :
    wpAny (model prog w) A.in1 (Builtin.«list.__ne__» ⟨[.ref l, .ref b], []⟩) (GQ.FinOf prog w A R) (fun e s' => R (.error e) s') s := by
  obtain ⟨hp, gg, d, tk, os⟩ := s
  have f3 := AutoSeq1.sub_list_list
  wp_walk using wpAny_loadPart' c1, wpAny_loadPart' c2
  exact h
theorem tup_ne (l b : Addr) (us vs : Array Value) (n m : Nat) (dd dd2 : Option Addr) (sl sl2 : Array (Option Value)) (J Fa : Nat → Shared → Prop)
    (turn : ∀ i (h1 : i < us.size) (h2 : i < vs.size) s, J i s → wpAny (model prog w) A.in1 (eqBool us[i] vs[i]) (fun r s' => if r = true then J (i + 1) s' else Fa i s') (fun e s' => R (.error e) s') s)
    (fin : ∀ s, J (min us.size vs.size) s → R (.ok (.ret (.bool (if us.size = vs.size then false else true)))) s) (brk : ∀ i s, Fa i s → R (.ok (.ret (.bool true))) s) {s : Shared} (c1 : s.heap.get? l = some { cls := .type "tuple", dict := dd, data := .seq us n, slots := sl })
    (c2 : s.heap.get? b = some { cls := .type "tuple", dict := dd2, data := .seq vs m, slots := sl2 }) (h : J 0 s) :
    wpAny (model prog w) A.in1 (Builtin.«tuple.__ne__» ⟨[.ref l, .ref b], []⟩) (GQ.FinOf prog w A R) (fun e s' => R (.error e) s') s := by
  have f2 := AutoSeq1.sub_tuple_tuple
  have zip_len : (us.toList.zip vs.toList).length = min us.size vs.size := by simp
  have h0 := h
  obtain ⟨hp, gg, d, tk, os⟩ := s
  wp_walk using wpAny_loadPart' c1, wpAny_loadPart' c2, wpAny_forIn_list _ (fun rest b s' => b.1 = none ∧ ∃ i, rest = (us.toList.zip vs.toList).drop i ∧ i ≤ min us.size vs.size ∧ J i s') _
  case turn =>
    rintro ⟨y, x⟩ rest b s' ⟨hb', i, hz, hi, hI⟩
    have lt : i < (us.toList.zip vs.toList).length := by
      rcases Nat.lt_or_ge i (us.toList.zip vs.toList).length with q | q
      · exact q
      · rw [List.drop_of_length_le q] at hz; cases hz
    have h1 : i < us.size := by omega
    have h2 : i < vs.size := by omega
    rw [List.drop_eq_getElem_cons lt] at hz
    injection hz with eyx er
    have ey : y = us[i] := by have := congrArg Prod.fst eyx; simpa using this
    have ex : x = vs[i] := by have := congrArg Prod.snd eyx; simpa using this
    subst ey ex
    refine wpAny_bind (wpAny_mono (turn i h1 h2 s' hI) (fun r s2 q2 => ?_) fun _ _ x => x)
    cases r with
    | true =>
      rw [if_pos rfl] at q2
      wp_walk
      exact ⟨rfl, i + 1, er, by omega, q2⟩
    | false =>
      rw [if_neg Bool.false_ne_true] at q2
      have hR := brk i s2 q2
      wp_walk
      first
      | exact ⟨_, rfl, hR⟩
      | exact hR
      | simpa using hR
  case fin =>
    rintro ⟨b1, b2⟩ s' ⟨hb', i, hz, hi, hI⟩
    simp only at hb'
    subst hb'
    have ge : min us.size vs.size ≤ i := by
      rcases Nat.lt_or_ge i (us.toList.zip vs.toList).length with q | q
      · rw [List.drop_eq_getElem_cons q] at hz; cases hz
      · exact zip_len ▸ q
    have ei : i = min us.size vs.size := by omega
    have hR := fin s' (ei ▸ hI)
    wp_walk
    by_cases hs : us.size = vs.size
    · rw [if_pos hs] at hR
      first
      | exact ⟨_, rfl, by simpa [Builtin.Tuple.tupleCompareSizes, bne, hs] using hR⟩
      | simpa [Builtin.Tuple.tupleCompareSizes, bne, hs] using hR
    · rw [if_neg hs] at hR
      have hs' : (us.size == vs.size) = false := beq_eq_false_iff_ne.mpr hs
      first
      | exact ⟨_, rfl, by simpa [Builtin.Tuple.tupleCompareSizes, bne, hs'] using hR⟩
      | (simp only [Builtin.Tuple.tupleCompareSizes, bne, hs']; exact hR)
  case h =>
    exact ⟨rfl, 0, rfl, Nat.zero_le _, h0⟩
end
section
variable {prog : Program} {w : World} {A : Around} {E : Value → Shared → Prop} {s : Shared}

theorem rc_list_eq {l b : Addr} {N : Nat} {Q : Value → Shared → Prop} (hu : A.units < cLine) (J Fa : Nat → Shared → Prop) (g : Goes prog w A E l b N J Fa) (fin : ∀ s, J N s → Q (.bool true) s) (brk : ∀ i s, Fa i s → Q (.bool false) s) (h : J 0 s) : wpAny (model prog w) A (richCompare .Eq (.ref l) (.ref b)) Q E s := by
  obtain ⟨us, vs, ⟨⟨n, c1⟩, ⟨m, c2⟩, _, _⟩, _⟩ := g.turn _ _ h
  refine wpAny_richCompare_same_room (op := .Eq) ⟨_, c1, rfl⟩ ⟨_, c2, rfl⟩ PySem.F.slot_list_eq (GQ.call_here PySem.F.slot_list_eq ⟨_, c1, rfl⟩ PySem.F.entry_list_eq (PySem.F.args_list_eq_2 _ _) ?_) hu
  exact list_eq (R := wants (fun v s' => v ≠ .notImplemented ∧ Q v s') E) l b N J Fa g (fun s' q => ⟨(fun x => nomatch x), fin s' q⟩) (fun i s' q => ⟨(fun x => nomatch x), brk i s' q⟩) h
theorem rc_far_eq {l b : Addr} {us vs : Array Value} {n m : Nat} {Q : Value → Shared → Prop} (hu : A.units < cLine) (hz : (us.size != vs.size) = true) (c1 : s.heap.get? l = some { cls := .type "list", data := .seq us n }) (c2 : s.heap.get? b = some { cls := .type "list", data := .seq vs m }) (h : Q (.bool false) s) : wpAny (model prog w) A (richCompare .Eq (.ref l) (.ref b)) Q E s := by
  refine wpAny_richCompare_same_room (op := .Eq) ⟨_, c1, rfl⟩ ⟨_, c2, rfl⟩ PySem.F.slot_list_eq (GQ.call_here PySem.F.slot_list_eq ⟨_, c1, rfl⟩ PySem.F.entry_list_eq (PySem.F.args_list_eq_2 _ _) ?_) hu
  exact far_eq (R := wants (fun v s' => v ≠ .notImplemented ∧ Q v s') E) l b us vs n m hz c1 c2 ⟨(fun x => nomatch x), h⟩
theorem rc_tup_eq {l b : Addr} {us vs : Array Value} {Q : Value → Shared → Prop} (hu : A.units < cLine) (J Fa : Nat → Shared → Prop) (hl : s.heap.IsTuple l us) (hb : s.heap.IsTuple b vs)
    (turn : ∀ i (h1 : i < us.size) (h2 : i < vs.size) s, J i s → wpAny (model prog w) A.in1 (eqBool us[i] vs[i]) (fun r s' => if r = true then J (i + 1) s' else Fa i s') E s)
    (fin : ∀ s, J (min us.size vs.size) s → Q (.bool (if us.size = vs.size then true else false)) s) (brk : ∀ i s, Fa i s → Q (.bool false) s) (h : J 0 s) : wpAny (model prog w) A (richCompare .Eq (.ref l) (.ref b)) Q E s := by
  obtain ⟨⟨cls, dd, data, sl⟩, c1, hc, n, hd⟩ := id hl
  obtain ⟨⟨cls2, dd2, data2, sl2⟩, c2, hc2, n2, hd2⟩ := id hb
  simp only at hc hd hc2 hd2
  subst hc hd hc2 hd2
  refine wpAny_richCompare_same_room (op := .Eq) ⟨_, c1, rfl⟩ ⟨_, c2, rfl⟩ PySem.F.slot_tuple_eq (GQ.call_here PySem.F.slot_tuple_eq ⟨_, c1, rfl⟩ PySem.F.entry_tuple_eq (PySem.F.args_tuple_eq_2 _ _) ?_) hu
  exact tup_eq (R := wants (fun v s' => v ≠ .notImplemented ∧ Q v s') E) l b us vs n n2 dd dd2 sl sl2 J Fa turn (fun s' q => ⟨(fun x => nomatch x), fin s' q⟩) (fun i s' q => ⟨(fun x => nomatch x), brk i s' q⟩) c1 c2 h

theorem rc_list_ne {l b : Addr} {N : Nat} {Q : Value → Shared → Prop} (hu : A.units < cLine) (J Fa : Nat → Shared → Prop) (g : Goes prog w A E l b N J Fa) (fin : ∀ s, J N s → Q (.bool false) s) (brk : ∀ i s, Fa i s → Q (.bool true) s) (h : J 0 s) : wpAny (model prog w) A (richCompare .NotEq (.ref l) (.ref b)) Q E s := by
  obtain ⟨us, vs, ⟨⟨n, c1⟩, ⟨m, c2⟩, _, _⟩, _⟩ := g.turn _ _ h
  refine wpAny_richCompare_same_room (op := .NotEq) ⟨_, c1, rfl⟩ ⟨_, c2, rfl⟩ PySem.F.slot_list_ne (GQ.call_here PySem.F.slot_list_ne ⟨_, c1, rfl⟩ PySem.F.entry_list_ne (PySem.F.args_list_ne_2 _ _) ?_) hu
  exact list_ne (R := wants (fun v s' => v ≠ .notImplemented ∧ Q v s') E) l b N J Fa g (fun s' q => ⟨(fun x => nomatch x), fin s' q⟩) (fun i s' q => ⟨(fun x => nomatch x), brk i s' q⟩) h
theorem rc_far_ne {l b : Addr} {us vs : Array Value} {n m : Nat} {Q : Value → Shared → Prop} (hu : A.units < cLine) (hz : (us.size != vs.size) = true) (c1 : s.heap.get? l = some { cls := .type "list", data := .seq us n }) (c2 : s.heap.get? b = some { cls := .type "list", data := .seq vs m }) (h : Q (.bool true) s) : wpAny (model prog w) A (richCompare .NotEq (.ref l) (.ref b)) Q E s := by
  refine wpAny_richCompare_same_room (op := .NotEq) ⟨_, c1, rfl⟩ ⟨_, c2, rfl⟩ PySem.F.slot_list_ne (GQ.call_here PySem.F.slot_list_ne ⟨_, c1, rfl⟩ PySem.F.entry_list_ne (PySem.F.args_list_ne_2 _ _) ?_) hu
  exact far_ne (R := wants (fun v s' => v ≠ .notImplemented ∧ Q v s') E) l b us vs n m hz c1 c2 ⟨(fun x => nomatch x), h⟩
theorem rc_tup_ne {l b : Addr} {us vs : Array Value} {Q : Value → Shared → Prop} (hu : A.units < cLine) (J Fa : Nat → Shared → Prop) (hl : s.heap.IsTuple l us) (hb : s.heap.IsTuple b vs)
    (turn : ∀ i (h1 : i < us.size) (h2 : i < vs.size) s, J i s → wpAny (model prog w) A.in1 (eqBool us[i] vs[i]) (fun r s' => if r = true then J (i + 1) s' else Fa i s') E s)
    (fin : ∀ s, J (min us.size vs.size) s → Q (.bool (if us.size = vs.size then false else true)) s) (brk : ∀ i s, Fa i s → Q (.bool true) s) (h : J 0 s) : wpAny (model prog w) A (richCompare .NotEq (.ref l) (.ref b)) Q E s := by
  obtain ⟨⟨cls, dd, data, sl⟩, c1, hc, n, hd⟩ := id hl
  obtain ⟨⟨cls2, dd2, data2, sl2⟩, c2, hc2, n2, hd2⟩ := id hb
  simp only at hc hd hc2 hd2
  subst hc hd hc2 hd2
  refine wpAny_richCompare_same_room (op := .NotEq) ⟨_, c1, rfl⟩ ⟨_, c2, rfl⟩ PySem.F.slot_tuple_ne (GQ.call_here PySem.F.slot_tuple_ne ⟨_, c1, rfl⟩ PySem.F.entry_tuple_ne (PySem.F.args_tuple_ne_2 _ _) ?_) hu
  exact tup_ne (R := wants (fun v s' => v ≠ .notImplemented ∧ Q v s') E) l b us vs n n2 dd dd2 sl sl2 J Fa turn (fun s' q => ⟨(fun x => nomatch x), fin s' q⟩) (fun i s' q => ⟨(fun x => nomatch x), brk i s' q⟩) c1 c2 h
end
end JsQ
namespace L2
open PySem PySem.Spec PyProof.Rows
section
variable {X : Cx} {n m : Nat} {D D' : Tells}
def MonT (D : Tells) : Prop := ∀ x y r H H', Same H H' → D x y r H → D x y r H'
/-- the same object is alike -/
def SelfT (D : Tells) : Prop := ∀ x r H, D x x r H → r = true
theorem EqT.mono (h : EqT X n D) (hn : n ≤ m) : EqT X m D := fun A pins s σ H x y u v r sb => h A pins s σ H x y u v r (sb.mono hn)
theorem EqT.imp (h : EqT X n D) (hd : ∀ x y r H, D' x y r H → D x y r H) : EqT X n D' := fun A pins s σ H x y u v r sb I rx ry d => h A pins s σ H x y u v r sb I rx ry (hd x y r H d)
theorem EqT.or (h : EqT X n D) (h' : EqT X n D') : EqT X n (fun x y r H => D x y r H ∨ D' x y r H) := fun A pins s σ H x y u v r sb I rx ry d => by
  rcases d with d | d
  · exact h A pins s σ H x y u v r sb I rx ry d
  · exact h' A pins s σ H x y u v r sb I rx ry d
/-- flat values -/
def TFlat : Tells := fun x y r _ => flatV x = true ∧ flatV y = true ∧ eqV x y = r
theorem eqT_flat : EqT X 0 TFlat := by
  intro A pins s σ H x y u v r sb I rx ry d
  obtain ⟨fx, fy, e⟩ := d
  have q := eqAt_V (A := A) (s := s) rx ry fx fy
  rw [e] at q
  exact q X.prog X.w X.xe _ ⟨rfl, H, I, Same.refl H⟩
/-- what is told item by item -/
def PrsT (D : Tells) (xs ys : List V) (bs : List Bool) (H : Hp) : Prop := bs.length = min xs.length ys.length ∧ ∀ (i : Nat) x y b, xs[i]? = some x → ys[i]? = some y → bs[i]? = some b → (bs.take i).all id = true → D x y b H
theorem PrsT.mon (hD : MonT D) {xs ys : List V} {bs : List Bool} {H H' : Hp} (e : Same H H') (p : PrsT D xs ys bs H) : PrsT D xs ys bs H' := ⟨p.1, fun i x y b h1 h2 h3 h4 => hD x y b H H' e (p.2 i x y b h1 h2 h3 h4)⟩
theorem PrsT.self {xs : List V} {bs : List Bool} {H : Hp} (hS : ∀ x r, D x x r H → r = true) (p : PrsT D xs xs bs H) : bs.all id = true := by
  have go : ∀ n, n ≤ bs.length → (bs.take n).all id = true := by
    intro n
    induction n with
    | zero => intro _; rfl
    | succ n ih =>
      intro hn
      have hi : n < bs.length := hn
      have hx : n < xs.length := by have := p.1; omega
      have al := ih (by omega)
      have e := hS _ _ (p.2 n _ _ _ (List.getElem?_eq_getElem hx) (List.getElem?_eq_getElem hx) (List.getElem?_eq_getElem hi) al)
      rw [List.take_succ_eq_append_getElem hi, List.all_append, al, e]
      rfl
  have := go bs.length (Nat.le_refl _)
  rwa [List.take_length] at this
def tells (xs ys : List V) (bs : List Bool) : Bool := decide (xs.length = ys.length) && bs.all id
def TList (D : Tells) : Tells := fun x y r H => ∃ a b xs ys bs, x = .ref a ∧ y = .ref b ∧ H a = some (.lst xs) ∧ H b = some (.lst ys) ∧ PrsT D xs ys bs H ∧ r = tells xs ys bs
def TTup (K : PySem.W.Frag) (D : Tells) : Tells := fun x y r H => ∃ a b xs ys bs, x = .ref a ∧ y = .ref b ∧ SqT K H a xs ∧ SqT K H b ys ∧ PrsT D xs ys bs H ∧ r = tells xs ys bs
theorem monT_list (hD : MonT D) : MonT (TList D) := fun x y r H H' e d => by
  obtain ⟨a, b, xs, ys, bs, hx, hy, h1, h2, p, er⟩ := d
  exact ⟨a, b, xs, ys, bs, hx, hy, e _ _ h1, e _ _ h2, p.mon hD e, er⟩
theorem monT_tup {K : PySem.W.Frag} (hD : MonT D) : MonT (TTup K D) := fun x y r H H' e d => by
  obtain ⟨a, b, xs, ys, bs, hx, hy, h1, h2, p, er⟩ := d
  exact ⟨a, b, xs, ys, bs, hx, hy, h1.ext e, h2.ext e, p.mon hD e, er⟩
/-- behind i items that are alike -/
def JT (X : Cx) (pins : List (Addr × Obj)) (σ : St) (H : Hp) (bs : List Bool) (i : Nat) (s' : Shared) : Prop := (∃ H', Inv X pins σ H' s' ∧ Same H H') ∧ (bs.take i).all id = true
def FT (X : Cx) (pins : List (Addr × Obj)) (σ : St) (H : Hp) (bs : List Bool) (i : Nat) (s' : Shared) : Prop := (∃ H', Inv X pins σ H' s' ∧ Same H H') ∧ bs.all id = false
theorem turnT (hD : MonT D) (h : EqT X n D) {A : Around} (sb : Sub X (n + 1) A) {pins : List (Addr × Obj)} {σ : St} {H : Hp} {xs ys : List V} {bs : List Bool} {us vs : List Value} (p : PrsT D xs ys bs H) (r : Vals xs us) (r2 : Vals ys vs)
    (i : Nat) (h1 : i < us.toArray.size) (h2 : i < vs.toArray.size) (s' : Shared) (l : JT X pins σ H bs i s') :
    wpAny (model X.prog X.w) A.in1 (eqBool us.toArray[i] vs.toArray[i]) (fun r s2 => if r = true then JT X pins σ H bs (i + 1) s2 else FT X pins σ H bs i s2) X.xe s' := by
  obtain ⟨⟨H1, I1, e1⟩, al⟩ := l
  have l1 : i < us.length := by simpa using h1
  have l2 : i < vs.length := by simpa using h2
  have g1 : us[i]? = some us.toArray[i] := by rw [List.getElem?_eq_getElem l1] <;> simp
  have g2 : vs[i]? = some vs.toArray[i] := by rw [List.getElem?_eq_getElem l2] <;> simp
  have k1 : i < xs.length := by rw [r.length]; exact l1
  have k2 : i < ys.length := by rw [r2.length]; exact l2
  have k3 : i < bs.length := by have := p.1; omega
  obtain ⟨u, hu, ru⟩ := r.get (List.getElem?_eq_getElem k1)
  obtain ⟨v, hv, rv⟩ := r2.get (List.getElem?_eq_getElem k2)
  rw [g1] at hu
  rw [g2] at hv
  rw [Option.some.inj hu, Option.some.inj hv]
  refine wpAny_mono (h A.in1 pins s' σ H1 _ _ u v _ sb.in1 I1 ru rv (hD _ _ _ _ _ e1 (p.2 i _ _ _ (List.getElem?_eq_getElem k1) (List.getElem?_eq_getElem k2) (List.getElem?_eq_getElem k3) al))) (fun q s2 z => ?_) fun _ _ x => x
  obtain ⟨rfl, H2, I2, e2⟩ := z
  cases hb : bs[i] with
  | true =>
    rw [if_pos rfl]
    refine ⟨⟨H2, I2, e1.trans e2⟩, ?_⟩
    rw [List.take_succ_eq_append_getElem k3, List.all_append, al, hb]
    rfl
  | false =>
    rw [if_neg Bool.false_ne_true]
    refine ⟨⟨H2, I2, e1.trans e2⟩, ?_⟩
    rw [List.all_eq_false]
    exact ⟨bs[i], List.getElem_mem k3, by rw [hb]; decide⟩
def RcT (X : Cx) (op : CmpOp) (f : Bool → Bool) (n : Nat) (D : Tells) : Prop :=
  ∀ (A : Around) (pins : List (Addr × Obj)) (s : Shared) (σ : St) (H : Hp) (x y : V) (u v : Value) (r : Bool), Sub X n A → Inv X pins σ H s → RelV x u → RelV y v → D x y r H →
    wpAny (model X.prog X.w) A (richCompare op u v) (fun z s' => z = .bool (f r) ∧ ∃ H', Inv X pins σ H' s' ∧ Same H H') X.xe s
theorem rcT_list_eq (hD : MonT D) (h : EqT X n D) : RcT X .Eq id (n + 1) (TList D) := by
  intro A pins s σ H x y u v r sb I rx ry d
  obtain ⟨a, b, xs, ys, bs, rfl, rfl, ha, hb, p, rfl⟩ := d
  cases rx
  cases ry
  by_cases hl : xs.length = ys.length
  · have el : bs.length = xs.length := by have := p.1; omega
    refine JsQ.rc_list_eq (N := xs.length) sb.room.units0 (JT X pins σ H bs) (FT X pins σ H bs) ⟨fun i s' q => ?_, fun i s' q => ?_⟩ (fun s' q => ⟨?_, q.1⟩) (fun i s' q => ⟨?_, q.1⟩) ⟨⟨H, I, Same.refl H⟩, by simp⟩
    · obtain ⟨H1, I1, e1⟩ := q.1
      obtain ⟨z, us, k, r1, e⟩ := I1.hok a _ (e1 _ _ ha)
      obtain ⟨z2, vs, k2, r2, e2⟩ := I1.hok b _ (e1 _ _ hb)
      exact ⟨us.toArray, vs.toArray, ⟨⟨k, e⟩, ⟨k2, e2⟩, by rw [List.size_toArray, ← r1.length], by rw [List.size_toArray, ← r2.length, ← hl]⟩, fun h1 h2 => turnT hD h sb p r1 r2 i h1 h2 s' q⟩
    · obtain ⟨H1, I1, e1⟩ := q.1
      obtain ⟨z, us, k, r1, e⟩ := I1.hok a _ (e1 _ _ ha)
      obtain ⟨z2, vs, k2, r2, e2⟩ := I1.hok b _ (e1 _ _ hb)
      exact ⟨us.toArray, vs.toArray, ⟨k, e⟩, ⟨k2, e2⟩, by rw [List.size_toArray, ← r1.length], by rw [List.size_toArray, ← r2.length, ← hl]⟩
    · have q2 := q.2
      rw [← el, List.take_length] at q2
      rw [tells, q2, decide_eq_true hl]
      rfl
    · rw [tells, q.2, decide_eq_true hl]
      rfl
  · obtain ⟨z, us, k, r1, e⟩ := I.hok a _ ha
    obtain ⟨z2, vs, k2, r2, e2⟩ := I.hok b _ hb
    refine JsQ.rc_far_eq sb.room.units0 ?_ e e2 ⟨?_, H, I, Same.refl H⟩
    · rw [List.size_toArray, List.size_toArray, ← r1.length, ← r2.length]
      simpa using hl
    · rw [tells, decide_eq_false hl]
      rfl
theorem rcT_tup_eq (hD : MonT D) (h : EqT X n D) : RcT X .Eq id (n + 1) (TTup X.K D) := by
  intro A pins s σ H x y u v r sb I rx ry d
  obtain ⟨a, b, xs, ys, bs, rfl, rfl, ha, hb, p, rfl⟩ := d
  cases rx
  cases ry
  obtain ⟨us, r1, e, z⟩ := I.tuple ha
  obtain ⟨vs, r2, e2, z2⟩ := I.tuple hb
  have lu : us.toArray.size = xs.length := by rw [List.size_toArray, ← r1.length]
  have lv : vs.toArray.size = ys.length := by rw [List.size_toArray, ← r2.length]
  refine JsQ.rc_tup_eq sb.room.units0 (JT X pins σ H bs) (FT X pins σ H bs) e e2 (fun i h1 h2 s' q => turnT hD h sb p r1 r2 i h1 h2 s' q) (fun s' q => ⟨?_, q.1⟩) (fun i s' q => ⟨?_, q.1⟩) ⟨⟨H, I, Same.refl H⟩, by simp⟩
  · have q2 := q.2
    rw [lu, lv, ← p.1, List.take_length] at q2
    rw [lu, lv, tells, q2]
    by_cases hl : xs.length = ys.length
    · rw [if_pos hl, decide_eq_true hl]
      rfl
    · rw [if_neg hl, decide_eq_false hl]
      rfl
  · rw [tells, q.2, Bool.and_false]
    rfl
theorem rcT_list_ne (hD : MonT D) (h : EqT X n D) : RcT X .NotEq not (n + 1) (TList D) := by
  intro A pins s σ H x y u v r sb I rx ry d
  obtain ⟨a, b, xs, ys, bs, rfl, rfl, ha, hb, p, rfl⟩ := d
  cases rx
  cases ry
  by_cases hl : xs.length = ys.length
  · have el : bs.length = xs.length := by have := p.1; omega
    refine JsQ.rc_list_ne (N := xs.length) sb.room.units0 (JT X pins σ H bs) (FT X pins σ H bs) ⟨fun i s' q => ?_, fun i s' q => ?_⟩ (fun s' q => ⟨?_, q.1⟩) (fun i s' q => ⟨?_, q.1⟩) ⟨⟨H, I, Same.refl H⟩, by simp⟩
    · obtain ⟨H1, I1, e1⟩ := q.1
      obtain ⟨z, us, k, r1, e⟩ := I1.hok a _ (e1 _ _ ha)
      obtain ⟨z2, vs, k2, r2, e2⟩ := I1.hok b _ (e1 _ _ hb)
      exact ⟨us.toArray, vs.toArray, ⟨⟨k, e⟩, ⟨k2, e2⟩, by rw [List.size_toArray, ← r1.length], by rw [List.size_toArray, ← r2.length, ← hl]⟩, fun h1 h2 => turnT hD h sb p r1 r2 i h1 h2 s' q⟩
    · obtain ⟨H1, I1, e1⟩ := q.1
      obtain ⟨z, us, k, r1, e⟩ := I1.hok a _ (e1 _ _ ha)
      obtain ⟨z2, vs, k2, r2, e2⟩ := I1.hok b _ (e1 _ _ hb)
      exact ⟨us.toArray, vs.toArray, ⟨k, e⟩, ⟨k2, e2⟩, by rw [List.size_toArray, ← r1.length], by rw [List.size_toArray, ← r2.length, ← hl]⟩
    · have q2 := q.2
      rw [← el, List.take_length] at q2
      rw [tells, q2, decide_eq_true hl]
      rfl
    · rw [tells, q.2, decide_eq_true hl]
      rfl
  · obtain ⟨z, us, k, r1, e⟩ := I.hok a _ ha
    obtain ⟨z2, vs, k2, r2, e2⟩ := I.hok b _ hb
    refine JsQ.rc_far_ne sb.room.units0 ?_ e e2 ⟨?_, H, I, Same.refl H⟩
    · rw [List.size_toArray, List.size_toArray, ← r1.length, ← r2.length]
      simpa using hl
    · rw [tells, decide_eq_false hl]
      rfl
theorem rcT_tup_ne (hD : MonT D) (h : EqT X n D) : RcT X .NotEq not (n + 1) (TTup X.K D) := by
  intro A pins s σ H x y u v r sb I rx ry d
  obtain ⟨a, b, xs, ys, bs, rfl, rfl, ha, hb, p, rfl⟩ := d
  cases rx
  cases ry
  obtain ⟨us, r1, e, z⟩ := I.tuple ha
  obtain ⟨vs, r2, e2, z2⟩ := I.tuple hb
  have lu : us.toArray.size = xs.length := by rw [List.size_toArray, ← r1.length]
  have lv : vs.toArray.size = ys.length := by rw [List.size_toArray, ← r2.length]
  refine JsQ.rc_tup_ne sb.room.units0 (JT X pins σ H bs) (FT X pins σ H bs) e e2 (fun i h1 h2 s' q => turnT hD h sb p r1 r2 i h1 h2 s' q) (fun s' q => ⟨?_, q.1⟩) (fun i s' q => ⟨?_, q.1⟩) ⟨⟨H, I, Same.refl H⟩, by simp⟩
  · have q2 := q.2
    rw [lu, lv, ← p.1, List.take_length] at q2
    rw [lu, lv, tells, q2]
    by_cases hl : xs.length = ys.length
    · rw [if_pos hl, decide_eq_true hl]
      rfl
    · rw [if_neg hl, decide_eq_false hl]
      rfl
  · rw [tells, q.2, Bool.and_false]
    rfl

theorem RcT.eqT (h : RcT X .Eq id n D) (hr : ∀ x y r H, D x y r H → ∃ a b, x = .ref a ∧ y = .ref b) (hS : ∀ (pins : List (Addr × Obj)) (s : Shared) (σ : St) (H : Hp) x r, Inv X pins σ H s → D x x r H → r = true) : EqT X n D := by
  intro A pins s σ H x y u v r sb I rx ry d
  obtain ⟨a, b, rfl, rfl⟩ := hr _ _ _ _ d
  cases rx
  cases ry
  by_cases hab : a = b
  · subst hab
    rw [hS _ _ _ _ _ _ I d]
    exact SeqAt.EqAt.same (A := A) (s := s) (.ref a) X.prog X.w X.xe _ ⟨rfl, H, I, Same.refl H⟩
  · refine GQ.eqBool_refG hab (wpAny_mono (h A pins s σ H (.ref a) (.ref b) _ _ _ sb I rfl rfl d) (fun z s' q => ?_) fun _ _ x => x)
    obtain ⟨hz, q⟩ := q
    exact ⟨r, hz, rfl, q⟩
theorem selfT_list (hS : SelfT D) : SelfT (TList D) := fun x r H d => by
  obtain ⟨a, b, xs, ys, bs, rfl, e, h1, h2, p, rfl⟩ := d
  cases e
  cases Option.some.inj (h1.symm.trans h2)
  rw [tells, p.self (hS · · _), decide_eq_true rfl]
  rfl
theorem eqT_list (hD : MonT D) (hS : SelfT D) (h : EqT X n D) : EqT X (n + 1) (TList D) := (rcT_list_eq hD h).eqT (fun _ _ _ _ d => let ⟨a, b, _, _, _, hx, hy, _⟩ := d; ⟨a, b, hx, hy⟩) fun _ _ _ _ _ _ _ d => selfT_list hS _ _ _ d
/-- x == y, x != y -/
def rCmpT (D : Tells) (f : Bool → Bool) : R2 := fun x y H Q => ∃ r, D x y r H ∧ ∀ H', Same H H' → Q (.bl (f r)) H'
theorem op_eqTl (h : RcT X .Eq id n D) (hr : Room n X.A) : OpR X (compareOp .Eq) (rCmpT D id) := by
  intro pins s σ H x y v u Q I rx ry hq
  obtain ⟨r, d, q⟩ := hq
  show wpAny (model X.prog X.w) X.A (richCompare .Eq v u) (EP X pins σ Q) X.xe s
  refine wpAny_mono (h X.A pins s σ H x y v u r ⟨hr, rfl⟩ I rx ry d) (fun z s' q1 => ?_) fun _ _ x => x
  obtain ⟨rfl, H', I', e⟩ := q1
  exact ⟨.bl _, H', I', rfl, q H' e⟩
theorem op_neTl (h : RcT X .NotEq not n D) (hr : Room n X.A) : OpR X (compareOp .NotEq) (rCmpT D not) := by
  intro pins s σ H x y v u Q I rx ry hq
  obtain ⟨r, d, q⟩ := hq
  show wpAny (model X.prog X.w) X.A (richCompare .NotEq v u) (EP X pins σ Q) X.xe s
  refine wpAny_mono (h X.A pins s σ H x y v u r ⟨hr, rfl⟩ I rx ry d) (fun z s' q1 => ?_) fun _ _ x => x
  obtain ⟨rfl, H', I', e⟩ := q1
  exact ⟨.bl _, H', I', rfl, q H' e⟩
end
end L2

set_option Elab.async false
set_option linter.all false
set_option maxRecDepth 100000
set_option maxHeartbeats 2000000
/-! deeds: what they are, how they stand in the heap, how they are numbered and where they lead -/
namespace Js
open PySem L2
inductive Dd where
  | told (a : Nat) (t : Tr)
  | take (s : Bool) (a b : Nat)
  | two (s : Bool) (a b c : Nat)
  | wh (a : Nat) (r : List Dd)
  | iff (a : Nat) (r o : List Dd)
def takeS : Bool → Str
  | false => "first"
  | true => "second"
def twoS : Bool → Str
  | false => "pair"
  | true => "same"
/-! how many, how deep, in their order -/
mutual
def Dd.flat : Dd → List Dd
  | .told a t => [.told a t]
  | .take s a b => [.take s a b]
  | .two s a b c => [.two s a b c]
  | .wh a r => .wh a r :: flatR r
  | .iff a r o => .iff a r o :: (flatR r ++ flatR o)
def flatR : List Dd → List Dd
  | [] => []
  | d :: r => d.flat ++ flatR r
end
def Dd.many (d : Dd) : Nat := d.flat.length
def manyR (r : List Dd) : Nat := (flatR r).length
mutual
def Dd.deep : Dd → Nat
  | .told _ _ => 0
  | .take _ _ _ => 0
  | .two _ _ _ _ => 0
  | .wh _ r => deepR r + 1
  | .iff _ r o => max (deepR r) (deepR o) + 1
def deepR : List Dd → Nat
  | [] => 0
  | d :: r => max d.deep (deepR r)
end
theorem many_nil : manyR [] = 0 := rfl
theorem many_cons (d : Dd) (r : List Dd) : manyR (d :: r) = d.many + manyR r := by
  rw [manyR, flatR, List.length_append]
  rfl
theorem many_wh (a : Nat) (r : List Dd) : (Dd.wh a r).many = manyR r + 1 := by
  rw [Dd.many, Dd.flat, List.length_cons]
  rfl
theorem many_iff (a : Nat) (r o : List Dd) : (Dd.iff a r o).many = manyR r + manyR o + 1 := by
  rw [Dd.many, Dd.flat, List.length_cons, List.length_append]
  rfl
theorem many_told (a : Nat) (t : Tr) : (Dd.told a t).many = 1 := rfl
theorem many_take (s : Bool) (a b : Nat) : (Dd.take s a b).many = 1 := rfl
theorem many_two (s : Bool) (a b c : Nat) : (Dd.two s a b c).many = 1 := rfl
theorem many_pos : ∀ d : Dd, 0 < d.many
  | .told _ _ => Nat.zero_lt_one
  | .take _ _ _ => Nat.zero_lt_one
  | .two _ _ _ _ => Nat.zero_lt_one
  | .wh a r => by rw [many_wh]; omega
  | .iff a r o => by rw [many_iff]; omega
/-- the rows of a deed -/
def Dd.rows : Dd → List (List Dd)
  | .wh _ r => [r]
  | .iff _ r o => [r, o]
  | _ => []
/-! where the deeds end -/
mutual
def Dd.ends : Dd → Nat → List Nat
  | .told _ _, n => [n + 1]
  | .take _ _ _, n => [n + 1]
  | .two _ _ _ _, n => [n + 1]
  | .wh _ r, n => (n + 1 + manyR r) :: endsR r (n + 1)
  | .iff _ r o, n => (n + 1 + manyR r + manyR o) :: (endsR r (n + 1) ++ endsR o (n + 1 + manyR r))
def endsR : List Dd → Nat → List Nat
  | [], _ => []
  | d :: r, n => d.ends n ++ endsR r (n + d.many)
end
/-! where they lead -/
mutual
def Dd.lay : Dd → Nat → Nat → List (Dd × List Nat)
  | .told a t, f, _ => [(.told a t, [f])]
  | .take s a b, f, _ => [(.take s a b, [f])]
  | .two s a b c, f, _ => [(.two s a b c, [f])]
  | .wh a r, f, n => (.wh a r, [if r.isEmpty then n else n + 1, f]) :: layR r n (n + 1)
  | .iff a r o, f, n => (.iff a r o, [if r.isEmpty then f else n + 1, if o.isEmpty then f else n + 1 + manyR r]) :: (layR r f (n + 1) ++ layR o f (n + 1 + manyR r))
def layR : List Dd → Nat → Nat → List (Dd × List Nat)
  | [], _, _ => []
  | d :: r, f, n => d.lay (if r.isEmpty then f else n + d.many) n ++ layR r f (n + d.many)
end
mutual
theorem ends_len : ∀ (d : Dd) (n : Nat), (d.ends n).length = d.many
  | .told _ _, _ => rfl
  | .take _ _ _, _ => rfl
  | .two _ _ _ _, _ => rfl
  | .wh a r, n => by rw [Dd.ends, List.length_cons, endsR_len r, many_wh]
  | .iff a r o, n => by rw [Dd.ends, List.length_cons, List.length_append, endsR_len r, endsR_len o, many_iff]
theorem endsR_len : ∀ (r : List Dd) (n : Nat), (endsR r n).length = manyR r
  | [], _ => rfl
  | d :: r, n => by rw [endsR, List.length_append, ends_len d, endsR_len r, many_cons]
end
mutual
theorem lay_len : ∀ (d : Dd) (f n : Nat), (d.lay f n).length = d.many
  | .told _ _, _, _ => rfl
  | .take _ _ _, _, _ => rfl
  | .two _ _ _ _, _, _ => rfl
  | .wh a r, f, n => by rw [Dd.lay, List.length_cons, layR_len r, many_wh]
  | .iff a r o, f, n => by rw [Dd.lay, List.length_cons, List.length_append, layR_len r, layR_len o, many_iff]
theorem layR_len : ∀ (r : List Dd) (f n : Nat), (layR r f n).length = manyR r
  | [], _, _ => rfl
  | d :: r, f, n => by rw [layR, List.length_append, lay_len d, layR_len r, many_cons]
end
/-! how they stand -/
mutual
def DAt (K : PySem.W.Frag) (C : Addr) (H : Hp) : V → Dd → Prop
  | v, .told a t => ∃ p x, v = .ref p ∧ SqT K H p [.str "told", .int (a : Nat), .ref x] ∧ a < 10 ∧ Th C H x t ∧ t.size ≤ 4000
  | v, .take s a b => ∃ p, v = .ref p ∧ SqT K H p [.str (takeS s), .int (a : Nat), .int (b : Nat)] ∧ a < 10 ∧ b < 10
  | v, .two s a b c => ∃ p, v = .ref p ∧ SqT K H p [.str (twoS s), .int (a : Nat), .int (b : Nat), .int (c : Nat)] ∧ a < 10 ∧ b < 10 ∧ c < 10
  | v, .wh a r => ∃ p q vs, v = .ref p ∧ SqT K H p [.str "while", .int (a : Nat), .ref q] ∧ a < 10 ∧ SqT K H q vs ∧ DsAt K C H vs r
  | v, .iff a r o => ∃ p q vs q2 vs2, v = .ref p ∧ SqT K H p [.str "if", .int (a : Nat), .ref q, .ref q2] ∧ a < 10 ∧ SqT K H q vs ∧ DsAt K C H vs r ∧ SqT K H q2 vs2 ∧ DsAt K C H vs2 o
def DsAt (K : PySem.W.Frag) (C : Addr) (H : Hp) : List V → List Dd → Prop
  | vs, [] => vs = []
  | vs, d :: r => ∃ v us, vs = v :: us ∧ DAt K C H v d ∧ DsAt K C H us r
end
/-- a row at q -/
def RAt (K : PySem.W.Frag) (C : Addr) (H : Hp) (q : Addr) (r : List Dd) : Prop := ∃ vs, SqT K H q vs ∧ DsAt K C H vs r
theorem sqt_kt {K : PySem.W.Frag} {H H' : Hp} (k : KT H H') {a : Addr} {xs : List V} (h : SqT K H a xs) : SqT K H' a xs :=
  h.elim (fun h => .inl (h.elim (fun h => .inl (k _ _ h (fun _ e => nomatch e))) fun ⟨o, h⟩ => .inr ⟨o, k _ _ h (fun _ e => nomatch e)⟩)) fun h => .inr h
mutual
theorem DAt_kt {K : PySem.W.Frag} {C : Addr} {H H' : Hp} (k : KT H H') : ∀ (d : Dd) (v : V), DAt K C H v d → DAt K C H' v d
  | .told a t, v, h => by
    obtain ⟨p, x, e, h1, h2, h3, h4⟩ := h
    exact ⟨p, x, e, sqt_kt k h1, h2, h3.kt k, h4⟩
  | .take s a b, v, h => by
    obtain ⟨p, e, h1, h2⟩ := h
    exact ⟨p, e, sqt_kt k h1, h2⟩
  | .two s a b c, v, h => by
    obtain ⟨p, e, h1, h2⟩ := h
    exact ⟨p, e, sqt_kt k h1, h2⟩
  | .wh a r, v, h => by
    obtain ⟨p, q, vs, e, h1, h2, h3, h4⟩ := h
    exact ⟨p, q, vs, e, sqt_kt k h1, h2, sqt_kt k h3, DsAt_kt k r vs h4⟩
  | .iff a r o, v, h => by
    obtain ⟨p, q, vs, q2, vs2, e, h1, h2, h3, h4, h5, h6⟩ := h
    exact ⟨p, q, vs, q2, vs2, e, sqt_kt k h1, h2, sqt_kt k h3, DsAt_kt k r vs h4, sqt_kt k h5, DsAt_kt k o vs2 h6⟩
theorem DsAt_kt {K : PySem.W.Frag} {C : Addr} {H H' : Hp} (k : KT H H') : ∀ (r : List Dd) (vs : List V), DsAt K C H vs r → DsAt K C H' vs r
  | [], vs, h => h
  | d :: r, vs, h => by
    obtain ⟨v, us, e, h1, h2⟩ := h
    exact ⟨v, us, e, DAt_kt k d v h1, DsAt_kt k r us h2⟩
end
theorem RAt.kt {K : PySem.W.Frag} {C : Addr} {H H' : Hp} (k : KT H H') {q : Addr} {r : List Dd} (h : RAt K C H q r) : RAt K C H' q r := by
  obtain ⟨vs, h1, h2⟩ := h
  exact ⟨vs, sqt_kt k h1, DsAt_kt k r vs h2⟩
theorem RAt.same {K : PySem.W.Frag} {C : Addr} {H H' : Hp} (s : Same H H') {q : Addr} {r : List Dd} (h : RAt K C H q r) : RAt K C H' q r := h.kt (KT.of s)
theorem DsAt.length {K : PySem.W.Frag} {C : Addr} {H : Hp} : ∀ (r : List Dd) (vs : List V), DsAt K C H vs r → vs.length = r.length
  | [], vs, h => by
    have e : vs = [] := h
    rw [e]
    rfl
  | d :: r, vs, h => by
    obtain ⟨v, us, e, h1, h2⟩ := h
    rw [e, List.length_cons, List.length_cons, DsAt.length r us h2]
theorem DsAt.get {K : PySem.W.Frag} {C : Addr} {H : Hp} : ∀ (r : List Dd) (vs : List V) (i : Nat) (v : V), DsAt K C H vs r → vs[i]? = some v → ∃ d, r[i]? = some d ∧ DAt K C H v d
  | [], vs, i, v, h, e => by
    have e' : vs = [] := h
    rw [e'] at e
    cases e
  | d :: r, vs, i, v, h, e => by
    obtain ⟨w, us, e', h1, h2⟩ := h
    rw [e'] at e
    cases i with
    | zero =>
      cases Option.some.inj e
      exact ⟨d, rfl, h1⟩
    | succ i =>
      obtain ⟨d', g1, g2⟩ := DsAt.get r us i v h2 e
      exact ⟨d', g1, g2⟩
/-- of what type a tuple is -/
theorem sqt_ty {K : PySem.W.Frag} {H : Hp} {a : Addr} {xs : List V} (h : SqT K H a xs) : TyX K H (.ref a) (.type "tuple") := by
  rcases h with (h | ⟨o, h⟩) | ⟨o, its, n, h, c, _⟩
  · exact .base (.tup h)
  · exact .fTuple h
  · exact .kTuple h c
end Js

set_option Elab.async false
set_option linter.all false
set_option maxRecDepth 100000
set_option maxHeartbeats 2000000
namespace Js
open PySem L2
abbrev sCut : Stmt := top 37
/-- a thing cut at a depth, as data -/
def cutD : Nat → Tr → PyData
  | 0, _ => .none
  | _ + 1, .nil => .tuple []
  | n + 1, .pr l r => .tuple [cutD n l, cutD n r]
theorem cutD0 (t : Tr) : cutD 0 t = .none := by cases t <;> rfl
theorem Dp_cut_kt {K : PySem.W.Frag} {H H' : Hp} (k : KT H H') : ∀ (n : Nat) (t : Tr) (v : V), Dp K H v (cutD n t) → Dp K H' v (cutD n t)
  | 0, t, v, h => by
    rw [cutD0] at h ⊢
    cases h
    exact .non
  | n + 1, .nil, v, h => by
    cases h with
    | tup h1 h2 =>
      cases h2
      exact .tup (sqt_kt k h1) .nil
  | n + 1, .pr l r, v, h => by
    cases h with
    | tup h1 h2 =>
      cases h2 with
      | cons h3 h4 =>
        cases h4 with
        | cons h5 h6 =>
          cases h6
          exact .tup (sqt_kt k h1) (.cons (Dp_cut_kt k n l _ h3) (.cons (Dp_cut_kt k n r _ h5) .nil))
def spCut (K : PySem.W.Frag) (C : Addr) (n : Nat) : Sp := fun vs H Q _ => ∃ (a : Addr) (t : Tr) (d : Nat), vs = [.ref a, .int (d : Nat)] ∧ Th C H a t ∧ d < n ∧ ∀ v H', Same H H' → Dp K H' v (cutD d t) → Q v H'
theorem int_pred (m : Nat) : (((m + 1 : Nat) : Int) - 1) = ((m : Nat) : Int) := by omega
theorem size_ne0 (l r : Tr) : decide (V.int (((Tr.pr l r).size : Nat) : Int) = V.int 0) = false := by
  simp only [decide_eq_false_iff_not, V.int.injEq, Tr.size]
  omega
section
variable {P : Program} {w : World} {K : PySem.W.Frag} {mg : Str → Option Value} {base : Heap} {C fI : Addr} {fdI : FuncData}
theorem scCut : FnScope ["thing", "depth"] ["thing", "depth"] (defScope sCut) := ⟨rfl, rfl, rfl, by decide +kernel, rfl, by decide +kernel, by decide +kernel⟩
theorem ok_cut {f : Addr} {fd : FuncData} (F : Fun K "cut" "cut" sCut f fd) (mgf : mg "cut" = some (.ref f)) (b : Binds K fd ["thing", "depth"] []) (T : Txt K mg C) : ∀ n, FnOk P w K mg base CX0 (n + 1) f fd ["thing", "depth"] (spCut K C n) := by
  intro n
  induction n with
  | zero =>
    refine F.ok scCut (fun vs H Q E h => ?_) (fun cdv A outer s H vs Q E hr h => ?_)
    · obtain ⟨a, t, d, rfl, _⟩ := h
      rfl
    · obtain ⟨a, t, d, _, _, h, _⟩ := h
      exact absurd h (Nat.not_lt_zero _)
  | succ n G' =>
  refine F.ok scCut (fun vs H Q E h => ?_) (fun cdv A outer s H vs Q E hr h => ?_)
  · obtain ⟨a, t, d, rfl, _⟩ := h
    rfl
  · obtain ⟨a, t, d, rfl, ha, hd, k⟩ := h
    refine ⟨_, pss_cons (ps_if (pt_cmpR op_le (pv 1) pe_int (nomark _)) (pss_one (ps_ret pe_non)) pss_nil) (pss_cons (ps_if (pt_cmpR op_eq (pe_fld (pv 0) rfl) pe_int (nomark _)) (pss_one (ps_ret (pe_tup pa_nil))) pss_nil) (pss_one (ps_ret (pe_tup (pa_cons (pe_call G' hr rfl mgf F.kp b .nil pass0 (pa_cons (pe_fld (pv 0) rfl) (pa_cons (pe_op op_sub (pv 1) pe_int) pa_nil))) (pa_cons (pe_call G' hr rfl mgf F.kp b .nil pass0 (pa_cons (pe_fld (pv 0) rfl) (pa_cons (pe_op op_sub (pv 1) pe_int) pa_nil))) pa_nil)))))), ?_⟩
    refine ⟨_, rfl, _, _, rfl, rfl, _, rfl, ?_⟩
    cases d with
    | zero =>
      refine iteT ?_
      exact k .non H (Same.refl H) (by rw [cutD0]; exact .non)
    | succ m =>
      have e1 : decide ((((m + 1 : Nat) : Int)) ≤ 0) = false := decide_eq_false (by omega)
      rw [e1]
      refine iteF ?_
      cases ha with
      | nil h =>
        refine ⟨_, rfl, _, _, _, _, _, rfl, h, T.cl, T.nZ, tf_size _ _ _, rfl, _, rfl, ?_⟩
        refine iteT ?_
        refine ⟨Nat.zero_le _, fun p np => ?_⟩
        exact k (.ref p) _ (Same.new np) (.tup (SqT.of upd_same) .nil)
      | @pr _ dx b1 c1 l r h hl hr' =>
        refine ⟨_, rfl, _, _, _, _, _, rfl, h, T.cl, T.nZ, tf_size _ _ _, rfl, _, rfl, ?_⟩
        rw [size_ne0]
        refine iteF ?_
        refine ⟨_, rfl, _, _, _, _, _, rfl, h, T.cl, T.nF, tf_first _ _ _, _, rfl, _, _, rfl, rfl, b1, l, m, congrArg (fun z => [V.ref b1, V.int z]) (int_pred m), hl, by omega, fun v1 H1 s1 d1 => ?_⟩
        refine ⟨_, rfl, _, _, _, _, _, rfl, s1 _ _ h, T.cl, T.nS, tf_second _ _ _, _, rfl, _, _, rfl, rfl, c1, r, m, congrArg (fun z => [V.ref c1, V.int z]) (int_pred m), hr'.same s1, by omega, fun v2 H2 s2 d2 => ?_⟩
        refine ⟨(by show 2 ≤ sizeLine; decide), fun p np => ?_⟩
        have s3 := Same.new np (o := .tup [v1, v2])
        exact k (.ref p) _ ((s1.trans s2).trans s3) (.tup (SqT.of upd_same) (.cons (Dp_cut_kt (KT.of (s2.trans s3)) _ _ _ d1) (.cons (Dp_cut_kt (KT.of s3) _ _ _ d2) .nil)))
end
end Js

set_option Elab.async false
set_option linter.all false
set_option maxRecDepth 100000
set_option maxHeartbeats 2000000
/-! for a, b in zip(tuple, text) -/
namespace JsZ
open PySem PySem.Spec PyProof.Rows L2
abbrev zs1 (h : Heap) (l : Addr) : Heap := h.push { cls := .type "tuple_iterator", data := .fields #[.ref l, .int 0 0] }
abbrev zs2 (h : Heap) (l : Addr) (x : Str) (t : Tok) : Heap := (zs1 h l).push { cls := .type (strIterType x), data := .fields #[.str x t, .int 0 0] }
abbrev zs3 (h : Heap) (l : Addr) (x : Str) (t : Tok) : Heap := (zs2 h l x t).push { cls := .type "tuple", data := .seq #[.ref h.objs.size, .ref (zs1 h l).objs.size] }
abbrev zs4 (h : Heap) (l : Addr) (x : Str) (t : Tok) : Heap := (zs3 h l x t).push { cls := .type "tuple", data := .seq #[.none, .none] }
abbrev zs5 (h : Heap) (l : Addr) (x : Str) (t : Tok) : Heap := (zs4 h l x t).push { cls := .type "zip", data := .fields #[.none, .bool false, .bool false, .ref (zs2 h l x t).objs.size, .ref (zs3 h l x t).objs.size] }
theorem new_zipTS (l : Addr) (x : Str) (t : Tok) (us : Array Value) :
    Meets (Builtin.«zip.__new__» ⟨[.type "zip", .ref l, .str x t], []⟩) (fun _ R s => s.heap.IsTuple l us ∧ R (.ok (.ret (.ref (zs4 s.heap l x t).objs.size))) { s with heap := zs5 s.heap l x t }) :=
  .of_wp fun prog w A R s h => by
    obtain ⟨hp, g, d, tk, os⟩ := s; obtain ⟨h1, h⟩ := h
    have hsub := sub_zip
    have hL : Heap.IsTuple (Shared.heap ⟨hp, g, d, tk, os⟩) l us := h1
    wp_walk using wpAny_pyIter_tuple hL, wpAny_pyIter_strU
    exact ⟨_, rfl, h⟩
section
variable {prog : Program} {w : World} {A : Around} {E : Value → Shared → Prop} {s : Shared}
theorem call_zipTS {l : Addr} {x : Str} {t : Tok} {us : Array Value} {Q : Value → Shared → Prop} (hl : s.heap.IsTuple l us)
    (h : ∀ h', IsZip h' (s.heap.objs.size + 4) (s.heap.objs.size + 2) (s.heap.objs.size + 3) .none → IsPair h' (s.heap.objs.size + 2) (.ref s.heap.objs.size) (.ref (s.heap.objs.size + 1)) →
      IsPair h' (s.heap.objs.size + 3) .none .none → h'.IsTupleIter s.heap.objs.size l 0 → h'.IsStrIter (s.heap.objs.size + 1) (strIterType x) x t 0 → h'.objs.size = s.heap.objs.size + 5 →
      (∀ c o, s.heap.get? c = some o → h'.get? c = some o) → Q (.ref (s.heap.objs.size + 4)) { s with heap := h' }) :
    wpAny (model prog w) A (call (.type "zip") [.ref l, .str x t]) Q E s := by
  refine callType_new F.called_zip (by decide) (F.typeCall_zip_2 _ _) (F.newCall_zip_2 _ _) (fun obj => F.args_object_init_3 obj _ _) F.entry_zip_new (new_zipTS l x t us) ⟨hl, ?_⟩
  have z1 : (zs1 s.heap l).objs.size = s.heap.objs.size + 1 := Heap.size_push ..
  have z2 : (zs2 s.heap l x t).objs.size = s.heap.objs.size + 2 := by rw [Heap.size_push, z1]
  have z3 : (zs3 s.heap l x t).objs.size = s.heap.objs.size + 3 := by rw [Heap.size_push, z2]
  have z4 : (zs4 s.heap l x t).objs.size = s.heap.objs.size + 4 := by rw [Heap.size_push, z3]
  have z5 : (zs5 s.heap l x t).objs.size = s.heap.objs.size + 5 := by rw [Heap.size_push, z4]
  have g5 : (zs5 s.heap l x t).get? (zs4 s.heap l x t).objs.size = some _ := Heap.get?_push_size _ rfl
  have g4 : (zs5 s.heap l x t).get? (zs3 s.heap l x t).objs.size = some _ := Heap.get?_push_of_some _ (Heap.get?_push_size _ rfl)
  have g3 : (zs5 s.heap l x t).get? (zs2 s.heap l x t).objs.size = some _ := Heap.get?_push_of_some _ (Heap.get?_push_of_some _ (Heap.get?_push_size _ rfl))
  have g2 : (zs5 s.heap l x t).get? (zs1 s.heap l).objs.size = some _ := Heap.get?_push_of_some _ (Heap.get?_push_of_some _ (Heap.get?_push_of_some _ (Heap.get?_push_size _ rfl)))
  have g1 : (zs5 s.heap l x t).get? s.heap.objs.size = some _ := Heap.get?_push_of_some _ (Heap.get?_push_of_some _ (Heap.get?_push_of_some _ (Heap.get?_push_of_some _ (Heap.get?_push_size _ rfl))))
  show _ ∧ _
  rw [z2, z3, z4] at g5
  rw [z1, z2] at g3
  rw [z3] at g4
  rw [z1] at g2
  rw [z4]
  exact ⟨⟨_, g5, rfl⟩, h _ g5 g3 g4 ⟨_, g1, rfl, rfl⟩ ⟨_, g2, rfl, rfl⟩ z5 fun c o q => Heap.get?_push_of_some _ (Heap.get?_push_of_some _ (Heap.get?_push_of_some _ (Heap.get?_push_of_some _ (Heap.get?_push_of_some _ q))))⟩
end
/-- the tuple at a as it stands at each turn, and the text's signs -/
def ItTS (K : PySem.W.Frag) (a : Addr) (t : Str) : It :=
  ⟨fun i H => ∃ (xs : List V) (x : V) (c : Nat), SqT K H a xs ∧ xs[i]? = some x ∧ t.cps[i]? = some c,
    fun i H v H' => ∃ T x c, v = .ref T ∧ H T = none ∧ H' = upd H T (.tup [x, .str ⟨#[c]⟩]) ∧ (∀ xs, SqT K H a xs → xs[i]? = some x) ∧ t.cps[i]? = some c,
    fun i H => ∃ xs : List V, SqT K H a xs ∧ i ≤ xs.length ∧ i ≤ t.cps.size ∧ (i = xs.length ∨ i = t.cps.size)⟩
theorem turn_TS {P : Program} {w : World} {K : PySem.W.Frag} {elts : List Expr} {kk : Nat} {tpos : Pos} {a z TI TO i1 i2 : Addr} (t : Str) (tk : Tok) (D : ZipSep2 z TI TO i1 i2 [i1, a] [i2]) (ha : a ≠ i1) :
    Turn P w K (.Tuple elts kk tpos) (ItTS K a t) [z, TI, TO, i1, i2] z (fun i h => IsZip h z TI TO .none ∧ IsPair h TI (.ref i1) (.ref i2) ∧ (∃ x y, IsPair h TO x y) ∧ h.IsTupleIter i1 a i ∧ h.IsStrIter i2 (strIterType t) t tk i) where
  mem := by simp
  obj := fun i h st c hc => by
    obtain ⟨hz, hTI, ⟨x, y, hTO⟩, ⟨o1, e1, _, d1⟩, ⟨o2, e2, _, d2⟩⟩ := st
    have e' : c = z ∨ c = TI ∨ c = TO ∨ c = i1 ∨ c = i2 := by simpa using hc
    rcases e' with q | q | q | q | q
    · rw [q]; exact ⟨_, hz, fun v q => nomatch q⟩
    · rw [q]; exact ⟨_, hTI, fun v q => nomatch q⟩
    · rw [q]; exact ⟨_, hTO, fun v q => nomatch q⟩
    · rw [q]; exact ⟨o1, e1, fun v q => by rw [d1] at q; cases q⟩
    · rw [q]; exact ⟨o2, e2, fun v q => by rw [d2] at q; cases q⟩
  keep := fun i h h' st k => by
    obtain ⟨hz, hTI, ⟨x, y, hTO⟩, h1, ⟨o, ho, r⟩⟩ := st
    exact ⟨k z (by simp) _ hz, k TI (by simp) _ hTI, ⟨x, y, k TO (by simp) _ hTO⟩, h1.at fun o q => k i1 (by simp) o q, ⟨o, k i2 (by simp) o ho, r⟩⟩
  item := by
    intro X hP hw hK hc i pins s σ H E I hf st hg
    subst hP hw hK
    obtain ⟨hz, hTI, ⟨x0, y0, hTO⟩, h1, h2⟩ := st
    obtain ⟨xs, x, c, hqx, hx, hcx⟩ := hg
    obtain ⟨us, rv, p, _⟩ := I.tuple hqx
    obtain ⟨u, hu, ru⟩ := rv.get hx
    have hzl : z < s.heap.objs.size := Heap.lt_size hz
    have hh : X.A.in1.handled = none := I.ok.hd hc
    have li : i < us.toArray.size := by
      have := (List.getElem?_eq_some_iff.mp hu).1
      simpa using this
    have lc : i < t.cps.size := (Array.getElem?_eq_some_iff.mp hcx).1
    refine wpAny_pyNext_zipD2_item D (Draws.tuple hh i1 a ha us.toArray) (Draws.text hh i2 t tk) hz hTI hTO ⟨h1, p⟩ h2 li lc fun v1 v2 h' tk' q1 q2 z' TO' s1' s2' hT hsz hk => ?_
    obtain ⟨c', tu, hc', rfl⟩ := q2
    have ev : v1 = u := by
      have : us.toArray[i]? = some u := by simpa using hu
      exact Option.some.inj (q1.symm.trans this)
    subst ev
    cases Option.some.inj (hc'.symm.trans hcx)
    refine ⟨_, rfl, wpAny_letOwnedTupleGo_zip (s := { s with heap := h', toks := tk' }) z' fun h'' z'' sb => ?_⟩
    have hT2 : h''.get? s.heap.objs.size = some { cls := .type "tuple", data := .seq #[v1, .str ⟨#[c]⟩ tu] } := (sb.2 _ (Nat.ne_of_gt hzl)).trans hT
    have new : ObjOk X.prog X.w (upd H s.heap.objs.size (.tup [x, .str ⟨#[c]⟩])) h'' s.heap.objs.size (.tup [x, .str ⟨#[c]⟩]) := ⟨by show 2 ≤ sizeLine; decide, [v1, .str ⟨#[c]⟩ tu], .cons ru (.cons ⟨_, rfl⟩ .nil), ⟨_, hT2, rfl, _, rfl⟩⟩
    have I1 : Inv X pins σ (upd H s.heap.objs.size (.tup [x, .str ⟨#[c]⟩])) { s with heap := h'', toks := tk' } :=
      I.turnedNew (ch := [z, TI, TO, i1, i2]) (fun c o hb q => (sb.2 c (fun q' => hb (by simp [q']))).trans (hk c o (fun q' => hb (by simp [q'])) (fun q' => hb (by simp [q'])) (fun q' => hb (by simp [q'])) (fun q' => hb (by simp [q'])) q)) hf (Nat.le_refl _) new
    refine ⟨.ref s.heap.objs.size, _, I1, rfl, ⟨_, x, c, rfl, I.hok.fresh (Nat.le_refl _), rfl, fun l hl => by rw [I.tuple_inj hl hqx]; exact hx, hcx⟩, ⟨z'', ?_, ⟨v1, .str ⟨#[c]⟩ tu, ?_⟩, ?_, ?_⟩, fun b hb => ?_⟩
    · exact (sb.2 _ D.TIz).trans (hk _ _ D.TIz D.TITO D.TIi1 D.TIi2 hTI)
    · exact (sb.2 _ D.TOz).trans TO'
    · exact s1'.1.at fun o q => (sb.2 _ (Ne.symm D.zi1)).trans q
    · obtain ⟨o, ho, r⟩ := s2'
      exact ⟨o, (sb.2 _ (Ne.symm D.zi2)).trans ho, r⟩
    · have hlt : b < s.heap.objs.size := by
        have e' : b = z ∨ b = TI ∨ b = TO ∨ b = i1 ∨ b = i2 := by simpa using hb
        rcases e' with q | q | q | q | q
        · rw [q]; exact hzl
        · rw [q]; exact Heap.lt_size hTI
        · rw [q]; exact Heap.lt_size hTO
        · rw [q]; obtain ⟨_, e1, _⟩ := h1; exact Heap.lt_size e1
        · rw [q]; obtain ⟨_, e2, _⟩ := h2; exact Heap.lt_size e2
      rw [upd_ne (Nat.ne_of_lt hlt)]
      exact (hf b hb).1
  done := by
    intro X hP hw hK hc i pins s σ H E I hf st hg
    subst hP hw hK
    obtain ⟨hz, hTI, ⟨x0, y0, hTO⟩, h1, h2⟩ := st
    obtain ⟨xs, hqx, l1, l2, hend⟩ := hg
    obtain ⟨us, rv, p, _⟩ := I.tuple hqx
    have lu : us.toArray.size = xs.length := by rw [List.size_toArray, ← rv.length]
    have hh : X.A.in1.handled = none := I.ok.hd hc
    exact wpAny_pyNext_zipD2_end D (Draws.tuple hh i1 a ha us.toArray) (Draws.text hh i2 t tk) hz hTI hTO ⟨h1, p⟩ h2 (by omega) l2 (by omega) fun h' tk' hk => ⟨rfl, I.turnedL (t' := tk') (ch := [z, TI, TO, i1, i2]) (fun c o hb q =>
      hk c o (fun q' => hb (by simp [q'])) (fun q' => hb (by simp [q'])) (fun q' => hb (by simp [q'])) (fun q' => hb (by simp [q'])) q) hf⟩
  self := fun A i s Q E st h => wpAny_pyIter_zip st.1 h
end JsZ
namespace L2
open PySem PySem.Spec PyProof.Rows
def iZipTS (K : PySem.W.Frag) (ta : TA) : TI := fun σ H R => ta σ H fun vs H1 => ∃ a t xs, vs = [.ref a, .str t] ∧ SqT K H1 a xs ∧ R (JsZ.ItTS K a t) H1
theorem pi_zipTS {X : Cx} {e e2 : Expr} {ta : TA} {p pos tpos : Pos} {elts : List Expr} {kk : Nat} (hg : Gl X "zip") (hm : X.mg "zip" = none) (ha : PA X [e, e2] ta)
    (hs : starEach [e, e2] X.env = (false, eval e X.env) :: starEach [e2] X.env := by rfl) (hpl : (backTo pos (starEach [e2] X.env)).any (·.1) = false := by rfl) : PI X (.Tuple elts kk tpos) (.Call (.Name "zip" p) [e, e2] [] pos) (iZipTS X.K ta) := by
  refine ⟨fun pins s σ H R I h => ?_⟩
  refine Call_ (ld_blt I hg hm PyProof.Rows.boot_zip (PyProof.Rows.callWith_type1 (thn (ha.run pos pins s σ H _ I h) fun us s1 ⟨vs, H1, I1, r1, q1⟩ => ?_) hs hpl))
  obtain ⟨a, t, xs, ex, hqx, q⟩ := q1
  subst ex
  cases r1 with
  | cons r rr =>
    cases rr with
    | cons r' rr =>
      cases rr
      cases r
      obtain ⟨tk, rfl⟩ := r'
      have fresh5 : ∀ c, c ∈ [s1.heap.objs.size + 4, s1.heap.objs.size + 2, s1.heap.objs.size + 3, s1.heap.objs.size, s1.heap.objs.size + 1] → FpOk X pins H1 c := fun c hcm => by
        have hle : s1.heap.objs.size ≤ c := by
          simp only [List.mem_cons, List.not_mem_nil, or_false] at hcm
          omega
        exact I1.fpOk hle (I1.hok.fresh hle)
      obtain ⟨its, rv, p1, _⟩ := I1.tuple hqx
      obtain ⟨o1, ho1, _⟩ := id p1
      have la := Heap.lt_size ho1
      refine JsZ.call_zipTS p1 fun h' hz hTI hTO h1 h2 hsz hk => wpAny_pyIter_zip hz ?_
      have I2 : Inv X pins σ H1 { s1 with heap := h' } := I1.kept (t' := s1.toks) hk
      have D : ZipSep2 (s1.heap.objs.size + 4) (s1.heap.objs.size + 2) (s1.heap.objs.size + 3) s1.heap.objs.size (s1.heap.objs.size + 1) [s1.heap.objs.size, a] [s1.heap.objs.size + 1] := by
        have la2 : ∀ k, s1.heap.objs.size + k ≠ a := fun k h => absurd la (by rw [← h]; exact Nat.not_lt.mpr (Nat.le_add_right _ _))
        constructor <;> simp <;> first | omega | exact la2 _
      exact ⟨s1.heap.objs.size + 4, [s1.heap.objs.size + 4, s1.heap.objs.size + 2, s1.heap.objs.size + 3, s1.heap.objs.size, s1.heap.objs.size + 1], _, _, H1, rfl, I2, JsZ.turn_TS t tk D (Nat.ne_of_lt la), ⟨hz, hTI, ⟨_, _, hTO⟩, h1, h2⟩, fresh5, q⟩
theorem walk_zipTS {K : PySem.W.Frag} {a : Addr} {t : Str} {xs : List V} {n : Nat} (hn : n = min xs.length t.cps.size) : Walk (JsZ.ItTS K a t) n (fun H => SqT K H a xs) (fun i H v H' => ∃ T x c, v = .ref T ∧ H T = none ∧ H' = upd H T (.tup [x, .str ⟨#[c]⟩]) ∧ xs[i]? = some x ∧ t.cps[i]? = some c) :=
  ⟨fun i H hi hq => by
      have h1 : i < xs.length := by omega
      have h2 : i < t.cps.size := by omega
      exact ⟨xs, xs[i], t.cps[i], hq, List.getElem?_eq_getElem h1, Array.getElem?_eq_getElem h2⟩, fun H hq => ⟨xs, hq, by omega, by omega, by omega⟩, fun i H v H' hi hq y => by
      obtain ⟨T, x, c, e1, e2, e3, e4, e5⟩ := y
      exact ⟨T, x, c, e1, e2, e3, e4 xs hq, e5⟩⟩
end L2

set_option Elab.async false
set_option linter.all false
set_option maxRecDepth 100000
set_option maxHeartbeats 2000000
namespace Js
open PySem L2
abbrev sThing : Stmt := top 66
theorem lc_yes {te : TE} {σ : St} {H : Hp} {R : VK} {B : Hp → Prop} (h : te σ H R) : tYes σ H (fun b H3 => if b = true then te σ H3 R else B H3) := by
  show if true = true then te σ H R else B H
  rw [if_pos rfl]
  exact h
theorem paired_split {α β : Type} {F : α → β → Prop} : ∀ (n : Nat) {xs : List α} {ts : List β}, Paired F xs ts → n + 1 < xs.length →
    ∃ xp x y xq tp t u tq, xs = xp ++ x :: y :: xq ∧ ts = tp ++ t :: u :: tq ∧ xp.length = n ∧ tp.length = n ∧ Paired F xp tp ∧ F x t ∧ F y u ∧ Paired F xq tq
  | 0, _, _, .nil, h => absurd h (by simp)
  | 0, _, _, .cons _ .nil, h => absurd h (by simp)
  | 0, _, _, .cons h1 (.cons h2 r), _ => ⟨[], _, _, _, [], _, _, _, rfl, rfl, rfl, rfl, .nil, h1, h2, r⟩
  | n + 1, _, _, .nil, h => absurd h (by simp)
  | n + 1, _, _, .cons (a := a0) (b := b0) h1 r, h => by
    obtain ⟨xp, x, y, xq, tp, t, u, tq, e1, e2, l1, l2, p1, f1, f2, p2⟩ := paired_split n r (by simpa using h)
    exact ⟨_ :: xp, x, y, xq, _ :: tp, t, u, tq, by rw [e1]; rfl, by rw [e2]; rfl, by simp [l1], by simp [l2], .cons h1 p1, f1, f2, p2⟩
theorem paired_append {α β : Type} {F : α → β → Prop} : ∀ {xs xs' : List α} {ys ys' : List β}, Paired F xs ys → Paired F xs' ys' → Paired F (xs ++ xs') (ys ++ ys')
  | _, _, _, _, .nil, h => h
  | _, _, _, _, .cons h t, h' => .cons h (paired_append t h')
def tsz (ts : List Tr) : Nat := (ts.map Tr.size).sum
theorem tsz_append (a b : List Tr) : tsz (a ++ b) = tsz a + tsz b := by simp [tsz]
theorem tsz_cons (a : Tr) (b : List Tr) : tsz (a :: b) = a.size + tsz b := by simp [tsz]
def spThing (C : Addr) : Sp := fun vs H Q _ => ∃ (p : Addr) (m : Nat), vs = [.ref p, .int (m : Nat)] ∧ BagOk H p ∧ m ≤ 3000 ∧ ∀ a t H', KB p H H' → BagOk H' p → Th C H' a t → t.size = m → Q (.ref a) H'
section
variable {P : Program} {w : World} {K : PySem.W.Frag} {mg : Str → Option Value} {base : Heap} {C fI : Addr} {fdI : FuncData}
theorem scTh : FnScope ["_law_bag_here", "_law_many", "_law_some", "_law_at", "_law_k"] ["_law_bag_here", "_law_many"] (defScope sThing) := ⟨rfl, rfl, rfl, by decide +kernel, rfl, by decide +kernel, by decide +kernel⟩
theorem ok_thing {f fT : Addr} {fd fdT : FuncData} (F : Fun K "_law_thing" "_law_thing" sThing f fd) (B : Blt mg) (mk : Maker P w K mg base C fI fdI) (AT : At K mg "_law_take" sTake ["_law_bag_here", "_law_many"] fT fdT) : FnOk P w K mg base CX0 4 f fd ["_law_bag_here", "_law_many"] (spThing C) := by
  have GT : FnOk P w K mg base CX0 1 fT fdT ["_law_bag_here", "_law_many"] spTake := ok_take AT.F
  refine F.ok scTh (fun vs H Q E h => ?_) (fun cdv A outer s H vs Q E hr h => ?_)
  · obtain ⟨p, m, rfl, _⟩ := h
    rfl
  · obtain ⟨p, m, rfl, hbag, hm, k⟩ := h
    have hr1 : Room 1 _ := hr.mono (by decide)
    refine ⟨_, pss_cons (ps_setLc (i := 2) (own := [("_law_k", 4)]) (g := gName 4) (tt := tYes) rfl scTh.nd rfl rfl (sw_true rfl rfl rfl (by decide +kernel)) (pi_range1 rfl B.range (pa_cons (pe_op op_add (pv 1) pe_int) pa_nil))
        (blkOk_by (N := ["_law_bag_here", "_law_many", "_law_some", "_law_at", "_law_k"]) (sc := defScope sThing) (by decide +kernel)) (fun _ _ _ _ _ => pg_name (i := 4) scTh.nd rfl (Or.inl rfl)) (fun _ _ _ _ _ => pts_nil) (fun _ _ _ _ _ => pe_T0 mk hr rfl))
      (pss_cons (ps_while PassesOwn.never (pt_cmpR op_gt (pe_callB call_len_seq (by rfl) B.len PySem.boot_len (pa_cons (pv 2) pa_nil)) pe_int (nomark _))
        (pss_cons (ps_set (i := 3) scTh.nd rfl (Or.inl rfl) (pe_call GT hr1 rfl AT.mgf AT.F.kp AT.b .nil pass0 (pa_cons (pv 0) (pa_cons (pe_op op_sub (pe_callB call_len_seq (by rfl) B.len PySem.boot_len (pa_cons (pv 2) pa_nil)) pe_int) pa_nil))))
        (pss_one (ps_asg (pe_lst (pa_cons (pe_T2 mk hr rfl (pa_cons (pe_ix ix_list (pv 2) (pv 3) (fun _ _ => rfl)) (pa_cons (pe_ix ix_list (pv 2) (pe_op op_add (pv 3) pe_int) (fun _ _ => rfl)) pa_nil))) pa_nil)) (pg_slice (pv 2) (po_some (pv 3)) (po_some (pe_op op_add (pv 3) pe_int)))))))
      (pss_one (ps_ret (pe_ix ix_list (pv 2) pe_int (fun _ _ => rfl))))), ?_⟩
    have hsl := line4
    obtain ⟨bx, hbx⟩ := hbag.some
    refine ⟨_, rfl, _, _, rfl, rfl, _, rfl, by omega, by omega, fun D nD => lc_range (n := ((m : Int) + 1).toNat) (fun i H' => ∃ xs, Same H H' ∧ H' D = some (.lst xs) ∧ Paired (ThV C H') xs (List.replicate i .nil)) ⟨[], Same.new nD, upd_same, .nil⟩ ?_ ?_⟩
    · rintro i H1 hi ⟨xs, s1, hD, hps⟩
      refine ⟨rfl, lc_yes fun z H2 s2 _ h2 => ?_⟩
      have hlen := Paired.length hps
      rw [List.length_replicate] at hlen
      have hD2 := s2 _ _ hD
      refine ⟨xs, hD2, by omega, xs ++ [.ref z], (s1.trans s2).set nD, upd_same, ?_⟩
      have kk : KT H2 (upd H2 D (.lst (xs ++ [.ref z]))) := KT.lst hD2
      have e : List.replicate (i + 1) Tr.nil = List.replicate i .nil ++ [.nil] := List.replicate_succ'
      rw [e]
      exact paired_snoc (ths_kt kk (ths_kt (KT.of s2) hps)) ⟨z, rfl, h2.kt kk⟩
    · rintro H1 ⟨xs, s1, hD, hps⟩
      have em : ((m : Int) + 1).toNat = m + 1 := by omega
      rw [em] at hps
      have npD : p ≠ D := ne_of_none hbx nD
      refine ⟨fun mm σ H' => ∃ (xs : List V) (ts : List Tr) (x3 x4 : Option V), σ = [some (.ref p), some (.int (m : Nat)), some (.ref D), x3, x4] ∧ KB p H H' ∧ BagOk H' p ∧ H' D = some (.lst xs) ∧ Paired (ThV C H') xs ts ∧ tsz ts + ts.length = m + 1 ∧ ts ≠ [] ∧ mm = ts.length, ⟨_, xs, _, none, none, rfl, KB.of s1, hbag.same s1, hD, hps, ?_, by simp, rfl⟩, ?_⟩
      · have : ∀ n, tsz (List.replicate n .nil) = 0 := by
          intro n
          induction n with
          | zero => rfl
          | succ n ih => rw [List.replicate_succ, tsz_cons, ih]; rfl
        rw [this, List.length_replicate]
        omega
      · rintro mm σ H2 ⟨xs, ts, x3, x4, rfl, k2, hbag2, hD2, hps2, hsz, hne, rfl⟩
        have hlen := Paired.length hps2
        refine ⟨_, rfl, D, _, rfl, .inl (SqL.of hD2), _, _, rfl, rfl, _, rfl, ?_⟩
        by_cases h1 : 1 < xs.length
        · have ed : decide ((1 : Int) < ((xs.length : Nat) : Int)) = true := decide_eq_true (by omega)
          rw [ed]
          refine iteT ⟨fun σ' H3 => ∃ m', m' < ts.length ∧ _, fun σ' H3 z => z, ?_⟩
          refine ⟨_, rfl, _, rfl, D, _, rfl, .inl (SqL.of hD2), _, _, rfl, rfl, p, _, rfl, hbag2, by omega, by omega, fun d H3 k3 hbag3 hd0 hd1 => ?_⟩
          have hD3 := k3 _ _ (Ne.symm npD) hD2
          have hps3 := ths_kt (hbag2.kt k3) hps2
          obtain ⟨dn, rfl⟩ := Int.eq_ofNat_of_zero_le hd0
          obtain ⟨xp, x, y, xq, tp, t, u, tq, rfl, rfl, l1, l2, p1, f1, f2, p2⟩ := paired_split dn hps3 (by omega)
          obtain ⟨a1, rfl, g1⟩ := f1
          obtain ⟨a2, rfl, g2⟩ := f2
          simp only [tsz_append, tsz_cons, List.length_append, List.length_cons] at hsz
          have ix1 : atI (xp ++ V.ref a1 :: V.ref a2 :: xq) ((dn : Nat) : Int) = some (.ref a1) := atI_nat (by rw [List.getElem?_append_right (by omega), l1, Nat.sub_self]; rfl)
          have ix2 : atI (xp ++ V.ref a1 :: V.ref a2 :: xq) (((dn : Nat) : Int) + 1) = some (.ref a2) := by
            have e : (((dn : Nat) : Int) + 1) = ((dn + 1 : Nat) : Int) := by omega
            rw [e]
            exact atI_nat (by rw [List.getElem?_append_right (by omega), l1]; simp)
          refine ⟨_, rfl, _, rfl, D, _, _, _, rfl, rfl, SqL.of hD3, ix1, _, rfl, _, rfl, _, _, rfl, rfl, D, _, _, _, rfl, rfl, SqL.of hD3, ix2, a1, a2, t, u, rfl, g1, g2, by omega, fun z H4 s4 _ h4 => ?_⟩
          refine ⟨(by show 1 ≤ sizeLine; decide), fun q nq => ?_⟩
          have hD4 := s4 _ _ hD3
          have nqD : D ≠ q := ne_of_none hD4 nq
          have hlx : (xp ++ V.ref a1 :: V.ref a2 :: xq).length = dn + 2 + xq.length := by
            rw [List.length_append, List.length_cons, List.length_cons]
            omega
          have hD5 : (upd H4 q (.lst [.ref z])) D = some (.lst (xp ++ V.ref a1 :: V.ref a2 :: xq)) := (upd_ne nqD).trans hD4
          have hle : xq.length = tq.length := Paired.length p2
          refine ⟨_, rfl, _, rfl, _, rfl, _, rfl, _, _, rfl, rfl, _, rfl, D, q, _, _, _, _, rfl, rfl, rfl, rfl, hD5, upd_same, nqD, by omega, by omega, by rw [hlx]; omega, by rw [hlx]; show _ + 1 ≤ _; omega, ?_⟩
          have e1 : (xp ++ V.ref a1 :: V.ref a2 :: xq).take ((dn : Nat) : Int).toNat = xp := by
            rw [Int.toNat_natCast, ← l1, List.take_left]
          have e2 : (xp ++ V.ref a1 :: V.ref a2 :: xq).drop (((dn : Nat) : Int) + 1 + 1).toNat = xq := by
            have e : (((dn : Nat) : Int) + 1 + 1).toNat = xp.length + 2 := by omega
            rw [e, List.drop_append]
            simp
          have e3 : (((dn : Nat) : Int) + 2).toNat = (((dn : Nat) : Int) + 1 + 1).toNat := by omega
          rw [e1]
          try rw [e3]
          rw [e2]
          have k5 : KT H4 (upd (upd H4 q (.lst [.ref z])) D (.lst (xp ++ [.ref z] ++ xq))) := (KT.new nq).trans (KT.lst hD5)
          have k45 := (KT.of s4).trans k5
          refine ⟨(tp ++ [Tr.pr t u] ++ tq).length, ?_, xp ++ [.ref z] ++ xq, tp ++ [.pr t u] ++ tq, _, _, rfl, ?_, ?_, upd_same, paired_append (paired_append (ths_kt k45 p1) (.cons ⟨z, rfl, h4.kt k5⟩ .nil)) (ths_kt k45 p2), ?_, ?_, rfl⟩
          · simp
          · intro a o na h
            have h4' := s4 _ _ (k3 _ _ na (k2 _ _ na h))
            rw [upd_ne (ne_of_none h nD), upd_ne (ne_of_none h4' nq)]
            exact h4'
          · obtain ⟨x0, x1, pr, x3', h, r⟩ := hbag3.ex
            exact ⟨x0, x1, pr, x3', (upd_ne npD).trans ((upd_ne (ne_of_none (s4 _ _ h) nq)).trans (s4 _ _ h)), r⟩
          · simp only [tsz_append, tsz_cons, List.length_append, List.length_cons, Tr.size]
            simp [tsz]
            simp [tsz] at hsz
            omega
          · simp
        · have ed : decide ((1 : Int) < ((xs.length : Nat) : Int)) = false := decide_eq_false (by omega)
          rw [ed]
          refine iteF ?_
          cases hps2 with
          | nil => exact absurd rfl hne
          | @cons v t vs ts hv hps2 =>
            cases hps2 with
            | cons _ _ => simp at h1
            | nil =>
              obtain ⟨a, rfl, ha⟩ := hv
              refine ⟨_, rfl, D, _, _, .ref a, rfl, rfl, SqL.of hD2, rfl, k a t H2 k2 hbag2 ha ?_⟩
              simp [tsz] at hsz
              omega
end
end Js

set_option Elab.async false
set_option linter.all false
set_option maxRecDepth 100000
set_option maxHeartbeats 2000000
namespace Js
open PySem L2
abbrev sIsName : Stmt := top 20
abbrev sFits : Stmt := top 21
abbrev sHasForm : Stmt := top 22
abbrev sRowsIn : Stmt := top 24
def kindOf : Dd → Str
  | .told _ _ => "told"
  | .take s _ _ => takeS s
  | .two s _ _ _ => twoS s
  | .wh _ _ => "while"
  | .iff _ _ _ => "if"
def formOf : Dd → Str
  | .told _ _ => "nt"
  | .take _ _ _ => "nn"
  | .two _ _ _ _ => "nnn"
  | .wh _ _ => "nr"
  | .iff _ _ _ => "nrr"
def forms : List (Str × Str) := [("told", "nt"), ("first", "nn"), ("second", "nn"), ("pair", "nnn"), ("same", "nnn"), ("while", "nr"), ("if", "nrr")]
theorem form_in : ∀ d : Dd, (kindOf d, formOf d) ∈ forms
  | .told _ _ => by simp [kindOf, formOf, forms]
  | .take false _ _ => by simp [kindOf, formOf, forms, takeS]
  | .take true _ _ => by simp [kindOf, formOf, forms, takeS]
  | .two false _ _ _ => by simp [kindOf, formOf, forms, twoS]
  | .two true _ _ _ => by simp [kindOf, formOf, forms, twoS]
  | .wh _ _ => by simp [kindOf, formOf, forms]
  | .iff _ _ _ => by simp [kindOf, formOf, forms]
/-- what the top says of the forms, and the numbers -/
structure FrmC (K : PySem.W.Frag) (w : World) (mg : Str → Option Value) : Prop where
  ex : ∃ dF es n, mg "FORMS" = some (.ref dF) ∧ KDict K w dF es n ∧ ∀ kf ∈ forms, ∃ t, PySem.W.nsIn K dF kf.1 = some (some (.str kf.2 t))
  mM : ∃ t, mg "MANY_NAMES" = some (.int 10 t)
  mD : ∃ t, mg "MOST_DEEDS" = some (.int 4000 t)
  mF : ∃ t, mg "MOST_FLOORS" = some (.int 8 t)
  mb : mg "bool" = none
  mt : mg "tuple" = none
  mz : mg "zip" = none
  me : mg "enumerate" = none
  ii : PySem.W.kitOne K (.type "int") (.type "int") = some true
  ib : PySem.W.kitOne K (.type "int") (.type "bool") = some false
  tt : PySem.W.kitOne K (.type "tuple") (.type "tuple") = some true
  ss : PySem.W.kitOne K (.type "str") (.type "str") = some true
theorem all_rep (n : Nat) : (List.replicate n true).all id = true := by
  rw [List.all_eq_true]
  intro b hb
  rw [(List.mem_replicate.mp hb).2]
  rfl
def FitsV (K : PySem.W.Frag) (C : Addr) (H : Hp) (x : V) (c : Nat) : Prop := (c = 110 ∧ ∃ a : Nat, a < 10 ∧ x = .int (a : Nat)) ∨ (c = 116 ∧ ∃ a t, x = .ref a ∧ Th C H a t) ∨ (c = 114 ∧ ∃ q vs, x = .ref q ∧ SqT K H q vs)
theorem FitsV.same {K : PySem.W.Frag} {C : Addr} {H H' : Hp} (s : Same H H') {x : V} {c : Nat} (h : FitsV K C H x c) : FitsV K C H' x c := by
  rcases h with h | ⟨e, a, t, e2, h⟩ | ⟨e, q, vs, e2, h⟩
  · exact .inl h
  · exact .inr (.inl ⟨e, a, t, e2, h.same s⟩)
  · exact .inr (.inr ⟨e, q, vs, e2, sqt_kt (KT.of s) h⟩)
theorem cps_nt : ("nt" : Str).cps = #[110, 116] := by decide +kernel
theorem cps_nn : ("nn" : Str).cps = #[110, 110] := by decide +kernel
theorem cps_nnn : ("nnn" : Str).cps = #[110, 110, 110] := by decide +kernel
theorem cps_nr : ("nr" : Str).cps = #[110, 114] := by decide +kernel
theorem cps_nrr : ("nrr" : Str).cps = #[110, 114, 114] := by decide +kernel
/-- the form of a deed that stands -/
theorem shape {K : PySem.W.Frag} {C : Addr} {H : Hp} {v : V} : ∀ (d : Dd), DAt K C H v d → ∃ p its, v = .ref p ∧ SqT K H p (.str (kindOf d) :: its) ∧ its.length = (formOf d).cps.size ∧ its ≠ [] ∧ its.length ≤ 3 ∧ ∀ (i : Nat) x c, its[i]? = some x → (formOf d).cps[i]? = some c → FitsV K C H x c
  | .told a t, h => by
    obtain ⟨p, x, e, h1, h2, h3, h4⟩ := h
    refine ⟨p, _, e, h1, by rw [formOf, cps_nt]; rfl, by simp, by simp, fun i y c g1 g2 => ?_⟩
    rw [formOf, cps_nt] at g2
    match i, g1, g2 with
    | 0, g1, g2 => cases Option.some.inj g1; cases Option.some.inj g2; exact .inl ⟨rfl, a, h2, rfl⟩
    | 1, g1, g2 => cases Option.some.inj g1; cases Option.some.inj g2; exact .inr (.inl ⟨rfl, x, t, rfl, h3⟩)
    | i + 2, g1, g2 => simp at g1
  | .take s a b, h => by
    obtain ⟨p, e, h1, h2, h3⟩ := h
    refine ⟨p, _, e, h1, by rw [formOf, cps_nn]; rfl, by simp, by simp, fun i y c g1 g2 => ?_⟩
    rw [formOf, cps_nn] at g2
    match i, g1, g2 with
    | 0, g1, g2 => cases Option.some.inj g1; cases Option.some.inj g2; exact .inl ⟨rfl, a, h2, rfl⟩
    | 1, g1, g2 => cases Option.some.inj g1; cases Option.some.inj g2; exact .inl ⟨rfl, b, h3, rfl⟩
    | i + 2, g1, g2 => simp at g1
  | .two s a b c, h => by
    obtain ⟨p, e, h1, h2, h3, h4⟩ := h
    refine ⟨p, _, e, h1, by rw [formOf, cps_nnn]; rfl, by simp, by simp, fun i y z g1 g2 => ?_⟩
    rw [formOf, cps_nnn] at g2
    match i, g1, g2 with
    | 0, g1, g2 => cases Option.some.inj g1; cases Option.some.inj g2; exact .inl ⟨rfl, a, h2, rfl⟩
    | 1, g1, g2 => cases Option.some.inj g1; cases Option.some.inj g2; exact .inl ⟨rfl, b, h3, rfl⟩
    | 2, g1, g2 => cases Option.some.inj g1; cases Option.some.inj g2; exact .inl ⟨rfl, c, h4, rfl⟩
    | i + 3, g1, g2 => simp at g1
  | .wh a r, h => by
    obtain ⟨p, q, vs, e, h1, h2, h3, h4⟩ := h
    refine ⟨p, _, e, h1, by rw [formOf, cps_nr]; rfl, by simp, by simp, fun i y c g1 g2 => ?_⟩
    rw [formOf, cps_nr] at g2
    match i, g1, g2 with
    | 0, g1, g2 => cases Option.some.inj g1; cases Option.some.inj g2; exact .inl ⟨rfl, a, h2, rfl⟩
    | 1, g1, g2 => cases Option.some.inj g1; cases Option.some.inj g2; exact .inr (.inr ⟨rfl, q, vs, rfl, h3⟩)
    | i + 2, g1, g2 => simp at g1
  | .iff a r o, h => by
    obtain ⟨p, q, vs, q2, vs2, e, h1, h2, h3, h4, h5, h6⟩ := h
    refine ⟨p, _, e, h1, by rw [formOf, cps_nrr]; rfl, by simp, by simp, fun i y c g1 g2 => ?_⟩
    rw [formOf, cps_nrr] at g2
    match i, g1, g2 with
    | 0, g1, g2 => cases Option.some.inj g1; cases Option.some.inj g2; exact .inl ⟨rfl, a, h2, rfl⟩
    | 1, g1, g2 => cases Option.some.inj g1; cases Option.some.inj g2; exact .inr (.inr ⟨rfl, q, vs, rfl, h3⟩)
    | 2, g1, g2 => cases Option.some.inj g1; cases Option.some.inj g2; exact .inr (.inr ⟨rfl, q2, vs2, rfl, h5⟩)
    | i + 3, g1, g2 => simp at g1
/-- rows, one behind the other -/
def RowsAt (K : PySem.W.Frag) (C : Addr) (H : Hp) (ws : List V) (rs : List (List Dd)) : Prop := Paired (fun v r => ∃ q, v = .ref q ∧ RAt K C H q r) ws rs
theorem RowsAt.kt {K : PySem.W.Frag} {C : Addr} {H H' : Hp} (k : KT H H') : ∀ {ws : List V} {rs : List (List Dd)}, RowsAt K C H ws rs → RowsAt K C H' ws rs
  | _, _, .nil => .nil
  | _, _, .cons ⟨q, e, h⟩ t => .cons ⟨q, e, h.kt k⟩ (RowsAt.kt k t)
def spIsName : Sp := fun vs H Q _ => ∃ a : Nat, vs = [.int (a : Nat)] ∧ a < 10 ∧ Q (.bl true) H
def spFits (K : PySem.W.Frag) (C : Addr) : Sp := fun vs H Q _ => ∃ x c, vs = [x, .str ⟨#[c]⟩] ∧ FitsV K C H x c ∧ Q (.bl true) H
def spHasForm (K : PySem.W.Frag) (C : Addr) : Sp := fun vs H Q _ => ∃ v d, vs = [v] ∧ DAt K C H v d ∧ ∀ H', Same H H' → Q (.bl true) H'
def spRowsIn (K : PySem.W.Frag) (C : Addr) : Sp := fun vs H Q _ => ∃ v d, vs = [v] ∧ DAt K C H v d ∧ ∀ p ws H', Same H H' → SqT K H' p ws → RowsAt K C H' ws d.rows → Q (.ref p) H'
theorem c_n : ("n" : Str) = ⟨#[110]⟩ := by decide +kernel
theorem c_t : ("t" : Str) = ⟨#[116]⟩ := by decide +kernel
theorem c_r : ("r" : Str) = ⟨#[114]⟩ := by decide +kernel
theorem sg_eq (a b : Nat) : decide (V.str ⟨#[a]⟩ = V.str ⟨#[b]⟩) = decide (a = b) := by simp
section
variable {P : Program} {w : World} {K : PySem.W.Frag} {mg : Str → Option Value} {base : Heap} {C : Addr}
theorem scIN : FnScope ["part"] ["part"] (defScope sIsName) := ⟨rfl, rfl, rfl, by decide +kernel, rfl, by decide +kernel, by decide +kernel⟩
theorem ok_isName {f : Addr} {fd : FuncData} (F : Fun K "is_name" "is_name" sIsName f fd) (B : Blt mg) (T : Txt K mg C) (G : FrmC K w mg) : FnOk P w K mg base CX0 1 f fd ["part"] spIsName := by
  obtain ⟨tm, mM⟩ := G.mM
  refine F.ok scIN (fun vs H Q E h => ?_) (fun cdv A outer s H vs Q E hr h => ?_)
  · obtain ⟨a, rfl, _⟩ := h
    rfl
  · obtain ⟨a, rfl, ha, k⟩ := h
    refine ⟨_, pss_one (ps_ret (pe_and (pe_callB (r := rIsi K) call_isi (by rfl) T.isi PyProof.Rows.boot_isinstance (pa_cons (pv 0) (pa_cons (pe_bltn (v := .ty "int") rfl B.int PyProof.Rows.boot_int rfl) pa_nil))) (pe_and (pe_not (pe_callB (r := rIsi K) call_isi (by rfl) T.isi PyProof.Rows.boot_isinstance (pa_cons (pv 0) (pa_cons (pe_bltn (v := .ty "bool") rfl G.mb PyProof.Rows.boot_bool rfl) pa_nil)))) (pe_one (pe_chain op_le op_lt pe_int (pv 0) (pe_glob (v := .int 10) rfl mM ⟨_, rfl⟩)))))), ?_⟩
    refine ⟨_, rfl, _, _, _, _, true, rfl, .ty "int", .base (.int _), G.ii, _, rfl, iteT ?_⟩
    refine ⟨_, rfl, _, _, _, _, false, rfl, .ty "bool", .base (.int _), G.ib, _, rfl, _, rfl, iteT ?_⟩
    refine ⟨_, rfl, _, _, rfl, rfl, _, rfl, ?_⟩
    rw [decide_eq_true (show (0 : Int) ≤ ((a : Nat) : Int) by omega)]
    refine iteT ?_
    refine ⟨_, _, rfl, rfl, ?_⟩
    show Q (.bl (decide (((a : Nat) : Int) < 10))) H
    rw [decide_eq_true (show ((a : Nat) : Int) < 10 by omega)]
    exact k
theorem scFt : FnScope ["part", "sign"] ["part", "sign"] (defScope sFits) := ⟨rfl, rfl, rfl, by decide +kernel, rfl, by decide +kernel, by decide +kernel⟩
theorem ok_fits {f : Addr} {fd : FuncData} (F : Fun K "fits" "fits" sFits f fd) (B : Blt mg) (T : Txt K mg C) (G : FrmC K w mg) (DI : Def P w K mg base "is_name" 1 ["part"] spIsName) : FnOk P w K mg base CX0 2 f fd ["part", "sign"] (spFits K C) := by
  refine F.ok scFt (fun vs H Q E h => ?_) (fun cdv A outer s H vs Q E hr h => ?_)
  · obtain ⟨x, c, rfl, _⟩ := h
    rfl
  · obtain ⟨x, c, rfl, hf, k⟩ := h
    refine ⟨_, pss_cons (ps_if (pt_cmpR op_eq (pv 1) pe_str (nomark _)) (pss_one (ps_ret (pe_def DI hr rfl (pa_cons (pv 0) pa_nil)))) pss_nil) (pss_cons (ps_if (pt_cmpR op_eq (pv 1) pe_str (nomark _)) (pss_one (ps_ret (pe_callB (r := rIsi K) call_isi (by rfl) T.isi PyProof.Rows.boot_isinstance (pa_cons (pv 0) (pa_cons (pe_glob (v := .ref C) rfl T.mgC rfl) pa_nil))))) pss_nil) (pss_one (ps_ret (pe_callB (r := rIsi K) call_isi (by rfl) T.isi PyProof.Rows.boot_isinstance (pa_cons (pv 0) (pa_cons (pe_bltn (v := .ty "tuple") rfl G.mt PyProof.Rows.boot_tuple rfl) pa_nil)))))), ?_⟩
    refine ⟨_, rfl, rfl, _, rfl, ?_⟩
    rw [c_n, sg_eq]
    rcases hf with ⟨rfl, a, ha, rfl⟩ | ⟨rfl, a, t, rfl, ha⟩ | ⟨rfl, q, vs, rfl, hq⟩
    · rw [decide_eq_true rfl]
      refine iteT ?_
      exact ⟨_, rfl, a, rfl, ha, k⟩
    · rw [decide_eq_false (by decide)]
      refine iteF ?_
      refine ⟨_, rfl, rfl, _, rfl, ?_⟩
      rw [c_t, sg_eq, decide_eq_true rfl]
      refine iteT ?_
      obtain ⟨dx, f1, g1, h1⟩ := ha.obj
      exact ⟨_, rfl, _, _, _, _, true, rfl, ClsV.own C, .base (.ins h1 T.cl T.ca T.cn T.ct T.cm), kit_self _ _, k⟩
    · rw [decide_eq_false (by decide)]
      refine iteF ?_
      refine ⟨_, rfl, rfl, _, rfl, ?_⟩
      rw [c_t, sg_eq, decide_eq_false (by decide)]
      refine iteF ?_
      exact ⟨_, rfl, _, _, _, _, true, rfl, .ty "tuple", sqt_ty hq, G.tt, k⟩
theorem scHF : FnScope ["deed", "kind", "form", "part", "sign"] ["deed"] (defScope sHasForm) := ⟨rfl, rfl, rfl, by decide +kernel, rfl, by decide +kernel, by decide +kernel⟩
theorem at0 (x : V) (xs : List V) : atI (x :: xs) 0 = some x := by
  have h : atI (x :: xs) ((0 : Nat) : Int) = some x := atI_nat rfl
  exact h
theorem cut1 (x : V) (its : List V) : cutV (x :: its) (some 1) none = its := by
  have e : HT.sIx (its.length + 1) 0 (some 1) = 1 := by
    show min 1 (its.length + 1) = 1
    omega
  unfold cutV
  rw [List.length_cons, e, HT.sIx_none, Nat.add_sub_cancel, List.drop_succ_cons, List.drop_zero, List.take_length]
theorem cut2 (x y : V) (its : List V) : cutV (x :: y :: its) (some 2) none = its := by
  have e : HT.sIx (its.length + 1 + 1) 0 (some 2) = 2 := by
    show min 2 (its.length + 1 + 1) = 2
    omega
  unfold cutV
  rw [List.length_cons, List.length_cons, e, HT.sIx_none, show its.length + 1 + 1 - 2 = its.length from rfl, List.drop_succ_cons, List.drop_succ_cons, List.drop_zero, List.take_length]
theorem ok_hasForm {f : Addr} {fd : FuncData} (F : Fun K "has_form" "has_form" sHasForm f fd) (B : Blt mg) (T : Txt K mg C) (G : FrmC K w mg) (DF : Def P w K mg base "fits" 2 ["part", "sign"] (spFits K C)) : FnOk P w K mg base CX0 3 f fd ["deed"] (spHasForm K C) := by
  obtain ⟨dF, es, n, mF, kd, hk⟩ := G.ex
  refine F.ok scHF (fun vs H Q E h => ?_) (fun cdv A outer s H vs Q E hr h => ?_)
  · obtain ⟨v, d, rfl, _⟩ := h
    rfl
  · obtain ⟨v, d, rfl, hd, k⟩ := h
    refine ⟨_, pss_cons (ps_if (PW.pt (pw_or (pt_not (pt_val (pe_callB (r := rIsi K) call_isi (by rfl) T.isi PyProof.Rows.boot_isinstance (pa_cons (pv 0) (pa_cons (pe_bltn (v := .ty "tuple") rfl G.mt PyProof.Rows.boot_tuple rfl) pa_nil))))) (pw_or1 (pt_cmpR op_eq (pe_callB call_len_seq (by rfl) B.len PySem.boot_len (pa_cons (pv 0) pa_nil)) pe_int (nomark _))))) (pss_one (ps_ret pe_bl)) pss_nil) (pss_cons (ps_set (i := 1) scHF.nd rfl (Or.inl rfl) (pe_ix (r := rIxT K) ix_tup (pv 0) pe_int (fun _ _ => rfl))) (pss_cons (ps_if (PW.pt (pw_or (pt_not (pt_val (pe_callB (r := rIsi K) call_isi (by rfl) T.isi PyProof.Rows.boot_isinstance (pa_cons (pv 1) (pa_cons (pe_bltn (v := .ty "str") rfl B.str PyProof.Rows.boot_str rfl) pa_nil))))) (pw_or1 (pt_cmpR (op_notIn_kd kd) (pv 1) (pe_glob (v := .ref dF) rfl mF rfl) rfl)))) (pss_one (ps_ret pe_bl)) pss_nil) (pss_cons (ps_set (i := 2) scHF.nd rfl (Or.inl rfl) (pe_ix (r := rIxD K w) ix_kdict (pe_glob (v := .ref dF) rfl mF rfl) (pv 1) (fun _ _ => rfl))) (pss_one (ps_ret (pe_and (pe_cmpR op_eq (pe_callB call_len_seq (by rfl) B.len PySem.boot_len (pa_cons (pv 0) pa_nil)) (pe_op op_add pe_int (pe_callB call_len_str (by rfl) B.len PySem.boot_len (pa_cons (pv 2) pa_nil))) (nomark _)) (pe_one (pe_callB (cr_all rfl) (by rfl) B.all (by decide +kernel) (pa_cons (pe_lc (own := [("part", 3), ("sign", 4)]) (g := gTup K 2 (gCons (gName 3) (gCons (gName 4) gNil))) (tt := tYes) rfl scHF.nd (pi_zipTS rfl G.mz (pa_cons (pe_slice sl_tup (pv 0) (po_some pe_int) po_none) (pa_cons (pv 2) pa_nil))) (blkOk_by (N := ["deed", "kind", "form", "part", "sign"]) (sc := defScope sHasForm) (by decide +kernel)) (fun _ _ _ _ _ => by exact (pg_tup rfl (pgs_cons (pg_name (i := 3) scHF.nd rfl (Or.inl rfl)) (pgs_cons (pg_name (i := 4) scHF.nd rfl (Or.inl rfl)) pgs_nil)))) (fun _ _ _ _ _ => pts_nil) (fun _ _ _ _ _ => (pe_def DF hr rfl (pa_cons (pv 3) (pa_cons (pv 4) pa_nil))))) pa_nil))))))))), ?_⟩
    obtain ⟨p, its, rfl, hp, hl, hne, hl3, hall⟩ := shape d hd
    obtain ⟨tk, hk⟩ := hk _ (form_in d)
    have hsl := line4
    refine ⟨_, rfl, _, _, _, _, true, rfl, .ty "tuple", sqt_ty hp, G.tt, _, rfl, iteF ?_⟩
    refine ⟨_, rfl, p, _, rfl, .inr hp, rfl, _, rfl, ?_⟩
    have e0 : decide (V.int ((((V.str (kindOf d)) :: its).length : Nat) : Int) = V.int 0) = false := by
      rw [List.length_cons]
      simp only [decide_eq_false_iff_not, V.int.injEq]
      omega
    rw [e0]
    refine iteF ?_
    refine ⟨_, rfl, p, _, 0, _, rfl, rfl, hp, at0 _ _, ?_⟩
    refine ⟨_, rfl, _, _, _, _, true, rfl, .ty "str", .base (.str _), G.ss, _, rfl, iteF ?_⟩
    refine ⟨_, rfl, _, _, rfl, rfl, hk, _, rfl, iteF ?_⟩
    refine ⟨_, rfl, dF, _, .str (formOf d), rfl, rfl, ⟨es, n, _, kd.at_, kd.lit, hk, ⟨_, rfl⟩⟩, ?_⟩
    refine ⟨_, rfl, p, _, rfl, .inr hp, ?_⟩
    have fl : (formOf d).length = its.length := hl.symm
    refine ⟨_, rfl, formOf d, rfl, by omega, _, _, rfl, rfl, rfl, _, rfl, ?_⟩
    have e1 : decide (V.int ((((V.str (kindOf d)) :: its).length : Nat) : Int) = V.int (1 + (((formOf d).length : Nat) : Int))) = true := by
      rw [List.length_cons, fl]
      simp only [decide_eq_true_eq, V.int.injEq]
      omega
    rw [e1]
    refine iteT ?_
    refine ⟨_, rfl, _, rfl, p, _, rfl, hp, ?_, fun q nq => ?_⟩
    · rintro ⟨h0, _⟩
      have e : HT.sIx (its.length + 1) 0 (some 1) = 1 := by
        show min 1 (its.length + 1) = 1
        omega
      rw [List.length_cons, e] at h0
      cases h0
    rw [cut1]
    have sq := Same.new nq (o := .tup its)
    refine ⟨_, rfl, q, _, its, rfl, SqT.of upd_same, fun D nD => lc_it (n := its.length) (walk_zipTS (K := K) (a := q) (t := formOf d) (xs := its) (by rw [← hl, Nat.min_self])) (fun i H' => Same (upd H q (.tup its)) H' ∧ SqT K H' q its ∧ H' D = some (.lst (List.replicate i (.bl true)))) ⟨Same.new nD, SqT.of (Same.new nD _ _ upd_same), upd_same⟩ (fun i H' _ z => z.2.1) ?_ ?_⟩
    · rintro i y H1 H2 hi ⟨s1, hq1, hD1⟩ ⟨T, x, c, rfl, nT, rfl, hx, hc⟩
      have sT := Same.new nT (o := .tup [x, .str ⟨#[c]⟩])
      refine ⟨T, _, rfl, SqT.of upd_same, rfl, _, _, rfl, _, _, rfl, rfl, rfl, lc_yes ?_⟩
      refine ⟨_, rfl, _, rfl, x, c, rfl, (hall i x c hx hc).same ((sq.trans s1).trans sT), ?_⟩
      refine ⟨_, sT _ _ hD1, by rw [List.length_replicate]; omega, (s1.trans sT).set nD, ?_, ?_⟩
      · have nDq : q ≠ D := fun z => by
          rw [← z, upd_same] at nD
          cases nD
        exact sqt_kt (KT.lst (sT _ _ hD1)) (sqt_kt (KT.of sT) hq1)
      · rw [upd_same, List.replicate_succ']
    · rintro H1 ⟨s1, hq1, hD1⟩
      refine ⟨D, List.replicate its.length true, rfl, SqL.of ?_, ?_⟩
      · rw [hD1, List.map_replicate]
      · have ea : ((List.replicate its.length true).all id) = true := all_rep _
        rw [ea]
        exact k H1 (sq.trans s1)
theorem scRI : FnScope ["deed"] ["deed"] (defScope sRowsIn) := ⟨rfl, rfl, rfl, by decide +kernel, rfl, by decide +kernel, by decide +kernel⟩
theorem rows_look {K : PySem.W.Frag} {C : Addr} {H : Hp} {v : V} : ∀ (d : Dd), DAt K C H v d → ∃ p y its, v = .ref p ∧ SqT K H p (.str (kindOf d) :: y :: its) ∧ ((decide (114 ∈ (formOf d).cps.toList) = true ∧ RowsAt K C H its d.rows) ∨ (decide (114 ∈ (formOf d).cps.toList) = false ∧ d.rows = []))
  | .told a t, h => by
    obtain ⟨p, x, e, h1, h2, h3, h4⟩ := h
    exact ⟨p, _, _, e, h1, .inr ⟨by rw [formOf, cps_nt]; decide, rfl⟩⟩
  | .take s a b, h => by
    obtain ⟨p, e, h1, h2, h3⟩ := h
    exact ⟨p, _, _, e, h1, .inr ⟨by rw [formOf, cps_nn]; decide, rfl⟩⟩
  | .two s a b c, h => by
    obtain ⟨p, e, h1, h2, h3, h4⟩ := h
    exact ⟨p, _, _, e, h1, .inr ⟨by rw [formOf, cps_nnn]; decide, rfl⟩⟩
  | .wh a r, h => by
    obtain ⟨p, q, vs, e, h1, h2, h3, h4⟩ := h
    exact ⟨p, _, _, e, h1, .inl ⟨by rw [formOf, cps_nr]; decide, .cons ⟨q, rfl, vs, h3, h4⟩ .nil⟩⟩
  | .iff a r o, h => by
    obtain ⟨p, q, vs, q2, vs2, e, h1, h2, h3, h4, h5, h6⟩ := h
    exact ⟨p, _, _, e, h1, .inl ⟨by rw [formOf, cps_nrr]; decide, .cons ⟨q, rfl, vs, h3, h4⟩ (.cons ⟨q2, rfl, vs2, h5, h6⟩ .nil)⟩⟩
theorem ok_rowsIn {f : Addr} {fd : FuncData} (F : Fun K "rows_in" "rows_in" sRowsIn f fd) (G : FrmC K w mg) : FnOk P w K mg base CX0 1 f fd ["deed"] (spRowsIn K C) := by
  obtain ⟨dF, es, n, mF, kd, hk⟩ := G.ex
  refine F.ok scRI (fun vs H Q E h => ?_) (fun cdv A outer s H vs Q E hr h => ?_)
  · obtain ⟨v, d, rfl, _⟩ := h
    rfl
  · obtain ⟨v, d, rfl, hd, k⟩ := h
    refine ⟨_, pss_one (ps_ret (pe_ifExp (pt_cmpR op_in_sign pe_str (pe_ix (r := rIxD K w) ix_kdict (pe_glob (v := .ref dF) rfl mF rfl) (pe_ix (r := rIxT K) ix_tup (pv 0) pe_int (fun _ _ => rfl)) (fun _ _ => rfl)) rfl) (pe_slice sl_tup (pv 0) (po_some pe_int) po_none) (pe_tup pa_nil))), ?_⟩
    obtain ⟨p, y, its, rfl, hp, hrs⟩ := rows_look d hd
    obtain ⟨tk, hk⟩ := hk _ (form_in d)
    have hsl := line4
    refine ⟨_, rfl, p, _, 0, _, rfl, rfl, hp, at0 _ _, dF, _, .str (formOf d), rfl, rfl, ⟨es, n, _, kd.at_, kd.lit, hk, ⟨_, rfl⟩⟩, 114, formOf d, congrArg V.str c_r, rfl, _, rfl, ?_⟩
    rcases hrs with ⟨e, hrs⟩ | ⟨e, hrs⟩
    · rw [e]
      refine iteT ?_
      refine ⟨_, rfl, _, rfl, p, _, rfl, hp, ?_, fun q nq => ?_⟩
      · rintro ⟨h0, _⟩
        have e : HT.sIx (its.length + 1 + 1) 0 (some 2) = 2 := by
          show min 2 (its.length + 1 + 1) = 2
          omega
        rw [List.length_cons, List.length_cons, e] at h0
        cases h0
      rw [cut2]
      exact k q its _ (Same.new nq) (SqT.of upd_same) (hrs.kt (KT.of (Same.new nq)))
    · rw [e]
      refine iteF ?_
      refine ⟨Nat.zero_le _, fun q nq => ?_⟩
      exact k q [] _ (Same.new nq) (SqT.of upd_same) (by rw [hrs]; exact .nil)
end
end Js

set_option Elab.async false
set_option linter.all false
set_option maxRecDepth 100000
set_option maxHeartbeats 2000000
namespace Js
open PySem L2
abbrev sLook : Stmt := top 25
def manyL : List (List Dd) → Nat
  | [] => 0
  | r :: rs => manyR r + manyL rs
def endsL : List (List Dd) → Nat → List Nat
  | [], _ => []
  | r :: rs, n => endsR r n ++ endsL rs (n + manyR r)
def deepL : List (List Dd) → Nat
  | [] => 0
  | r :: rs => max (deepR r) (deepL rs)
theorem many_rows : ∀ d : Dd, d.many = manyL d.rows + 1
  | .told _ _ => rfl
  | .take _ _ _ => rfl
  | .two _ _ _ _ => rfl
  | .wh a r => by rw [many_wh, Dd.rows, manyL, manyL, Nat.add_zero]
  | .iff a r o => by rw [many_iff]; simp only [Dd.rows, manyL]; omega
theorem ends_rows : ∀ (d : Dd) (n : Nat), d.ends n = (n + d.many) :: endsL d.rows (n + 1)
  | .told _ _, _ => rfl
  | .take _ _ _, _ => rfl
  | .two _ _ _ _, _ => rfl
  | .wh a r, n => by
    rw [Dd.ends, many_wh, Dd.rows, endsL, endsL, List.append_nil, Nat.add_assoc n, Nat.add_comm 1]
  | .iff a r o, n => by
    rw [Dd.ends, many_iff, Dd.rows, endsL, endsL, endsL, List.append_nil]
    congr 1
    omega
theorem deep_rows : ∀ (d : Dd), d.rows ≠ [] → d.deep = deepL d.rows + 1
  | .told _ _, h => absurd rfl h
  | .take _ _ _, h => absurd rfl h
  | .two _ _ _ _, h => absurd rfl h
  | .wh a r, _ => by rw [Dd.deep, Dd.rows, deepL, deepL, Nat.max_eq_left (Nat.zero_le _)]
  | .iff a r o, _ => by rw [Dd.deep, Dd.rows, deepL, deepL, deepL, Nat.max_eq_left (Nat.zero_le _)]
theorem endsL_len : ∀ (rs : List (List Dd)) (n : Nat), (endsL rs n).length = manyL rs
  | [], _ => rfl
  | r :: rs, n => by rw [endsL, List.length_append, endsR_len, endsL_len rs, manyL]
theorem manyR_app : ∀ (a b : List Dd), manyR (a ++ b) = manyR a + manyR b
  | [], b => by rw [List.nil_append, many_nil, Nat.zero_add]
  | d :: a, b => by rw [List.cons_append, many_cons, many_cons, manyR_app a b]; omega
theorem endsR_app : ∀ (a b : List Dd) (n : Nat), endsR (a ++ b) n = endsR a n ++ endsR b (n + manyR a)
  | [], b, n => by rw [List.nil_append, many_nil, endsR, List.nil_append, Nat.add_zero]
  | d :: a, b, n => by rw [List.cons_append, endsR, endsR_app a b, endsR, many_cons, List.append_assoc, Nat.add_assoc]
theorem manyL_app : ∀ (a b : List (List Dd)), manyL (a ++ b) = manyL a + manyL b
  | [], b => by rw [List.nil_append, manyL, Nat.zero_add]
  | r :: a, b => by rw [List.cons_append, manyL, manyL, manyL_app a b]; omega
theorem endsL_app : ∀ (a b : List (List Dd)) (n : Nat), endsL (a ++ b) n = endsL a n ++ endsL b (n + manyL a)
  | [], b, n => by rw [List.nil_append, manyL, endsL, List.nil_append, Nat.add_zero]
  | r :: a, b, n => by rw [List.cons_append, endsL, endsL_app a b, endsL, manyL, List.append_assoc, Nat.add_assoc]
theorem manyR_one (d : Dd) : manyR [d] = d.many := by rw [many_cons, many_nil, Nat.add_zero]
theorem endsR_one (d : Dd) (n : Nat) : endsR [d] n = d.ends n := by rw [endsR, endsR, List.append_nil]
theorem manyL_one (r : List Dd) : manyL [r] = manyR r := by rw [manyL, manyL, Nat.add_zero]
theorem endsL_one (r : List Dd) (n : Nat) : endsL [r] n = endsR r n := by rw [endsL, endsL, List.append_nil]
theorem deepR_mem : ∀ (r : List Dd) (d : Dd), d ∈ r → d.deep ≤ deepR r
  | e :: r, d, h => by
    rw [deepR]
    rcases List.mem_cons.mp h with rfl | h
    · exact Nat.le_max_left _ _
    · exact Nat.le_trans (deepR_mem r d h) (Nat.le_max_right _ _)
theorem deepL_mem : ∀ (rs : List (List Dd)) (r : List Dd), r ∈ rs → deepR r ≤ deepL rs
  | e :: rs, r, h => by
    rw [deepL]
    rcases List.mem_cons.mp h with rfl | h
    · exact Nat.le_max_left _ _
    · exact Nat.le_trans (deepL_mem rs r h) (Nat.le_max_right _ _)
theorem manyL_take : ∀ (rs : List (List Dd)) (j : Nat) (r : List Dd), rs[j]? = some r → manyL (rs.take j) + manyR r ≤ manyL rs
  | e :: rs, 0, r, h => by
    cases Option.some.inj h
    simp only [List.take_zero, manyL]
    omega
  | e :: rs, j + 1, r, h => by
    have := manyL_take rs j r h
    simp only [List.take_succ_cons, manyL]
    omega
theorem manyR_take : ∀ (rs : List Dd) (j : Nat) (r : Dd), rs[j]? = some r → manyR (rs.take j) + r.many ≤ manyR rs
  | e :: rs, 0, r, h => by
    cases Option.some.inj h
    rw [List.take_zero, many_nil, many_cons]
    omega
  | e :: rs, j + 1, r, h => by
    have := manyR_take rs j r h
    rw [List.take_succ_cons, many_cons, many_cons]
    omega
theorem take_snoc {α : Type} {l : List α} {i : Nat} {x : α} (h : l[i]? = some x) : l.take (i + 1) = l.take i ++ [x] := by
  obtain ⟨hi, e⟩ := List.getElem?_eq_some_iff.mp h
  rw [List.take_succ_eq_append_getElem hi, e]
def numsV (ns : List Nat) : List V := ns.map fun n => .int (n : Nat)
theorem ixN_at (n k : Nat) (h : k < n) : ixN n ((k : Nat) : Int) = some k := by
  unfold ixN
  rw [if_pos (by omega), if_pos (by omega), Int.toNat_natCast]
theorem numsV_len (ns : List Nat) : (numsV ns).length = ns.length := by rw [numsV, List.length_map]
theorem numsV_app (a b : List Nat) : numsV (a ++ b) = numsV a ++ numsV b := by rw [numsV, List.map_append]; rfl
/-- right rows, fewer than n floors -/
def spLook (K : PySem.W.Frag) (C : Addr) (n : Nat) : Sp := fun vs H Q _ => ∃ (q e : Addr) (f : Nat) (r : List Dd) (es : List Nat), vs = [.ref q, .int (f : Nat), .ref e] ∧ RAt K C H q r ∧ deepR r < n ∧ f + deepR r ≤ 8 ∧ H e = some (.lst (numsV es)) ∧ es.length + manyR r ≤ 4000 ∧
  ∀ H', KB e H H' → H' e = some (.lst (numsV (es ++ endsR r es.length))) → Q .non H'
section
variable {P : Program} {w : World} {K : PySem.W.Frag} {mg : Str → Option Value} {base : Heap} {C : Addr}
theorem scLk : FnScope ["row", "floors", "ends", "deed", "place", "inner", "part"] ["row", "floors", "ends"] (defScope sLook) := ⟨rfl, rfl, rfl, by decide +kernel, rfl, by decide +kernel, by decide +kernel⟩
theorem ok_look {f : Addr} {fd : FuncData} (F : Fun K "look_through" "look_through" sLook f fd) (mgf : mg "look_through" = some (.ref f)) (b : Binds K fd ["row", "floors", "ends"] []) (B : Blt mg) (T : Txt K mg C) (G : FrmC K w mg)
    (DH : Def P w K mg base "has_form" 3 ["deed"] (spHasForm K C)) (DR : Def P w K mg base "rows_in" 1 ["deed"] (spRowsIn K C)) : ∀ n, FnOk P w K mg base CX0 (n + 4) f fd ["row", "floors", "ends"] (spLook K C n) := by
  obtain ⟨t1, mD⟩ := G.mD
  obtain ⟨t2, mFl⟩ := G.mF
  intro n
  induction n with
  | zero =>
    refine F.ok scLk (fun vs H Q E h => ?_) (fun cdv A outer s H vs Q E hr h => ?_)
    · obtain ⟨q, e, f, r, es, rfl, _⟩ := h
      rfl
    · obtain ⟨q, e, f, r, es, _, _, h, _⟩ := h
      exact absurd h (Nat.not_lt_zero _)
  | succ n G' =>
  refine F.ok scLk (fun vs H Q E h => ?_) (fun cdv A outer s H vs Q E hr h => ?_)
  · obtain ⟨q, e, f, r, es, rfl, _⟩ := h
    rfl
  · obtain ⟨q, e, f, r, es, rfl, ⟨vs, hq, hvs⟩, hdp, hfl, he, hmany, k⟩ := h
    have hr1 : Room 1 _ := hr.mono (by omega)
    have hr3 : Room 3 _ := hr.mono (by omega)
    refine ⟨_, PSs.nox (pss_one (ps_for PassesOwn.never rfl (pi_tup (pv 0)) (pg_name (i := 3) scLk.nd rfl (Or.inl rfl)) (pss_cons (ps_set (i := 4) scLk.nd rfl (Or.inl rfl) (pe_callB call_len_seq (by rfl) B.len PySem.boot_len (pa_cons (pv 2) pa_nil))) (pss_cons (ps_if (PW.pt (pw_or (pt_cmpR op_eq (pv 4) (pe_glob (v := .int 4000) rfl mD ⟨_, rfl⟩) (nomark _)) (pw_or1 (pt_not (pt_val (pe_def DH hr3 rfl (pa_cons (pv 3) pa_nil))))))) (pss_one ps_never) pss_nil) (pss_cons (ps_set (i := 5) scLk.nd rfl (Or.inl rfl) (pe_def DR hr1 rfl (pa_cons (pv 3) pa_nil))) (pss_cons (ps_if (PW.pt (pw_and (pt_truth (pv 5) (by intro _; rfl)) (pw_and1 (pt_cmpR op_eq (pv 1) (pe_glob (v := .int 8) rfl mFl ⟨_, rfl⟩) (nomark _))))) (pss_one ps_never) pss_nil) (pss_cons (ps_expr (pe_bm PySem.F.plainAttrs_list PySem.F.slot_list_append PySem.F.type_list_append mt_append (pv 2) (pa_cons (pe_op op_add (pv 4) pe_int) pa_nil))) (pss_cons (ps_for PassesOwn.never rfl (pi_tup (pv 5)) (pg_name (i := 6) scLk.nd rfl (Or.inl rfl)) (pss_one (ps_expr (pe_call G' hr rfl mgf F.kp b .nil pass0 (pa_cons (pv 6) (pa_cons (pe_op op_add (pv 1) pe_int) (pa_cons (pv 2) pa_nil))))))) (pss_one (ps_asg (pe_callB call_len_seq (by rfl) B.len PySem.boot_len (pa_cons (pv 2) pa_nil)) (pg_sub (pv 2) (pv 4) set_list))))))))))), ?_⟩
    have hsl := line4
    have hlen := DsAt.length r vs hvs
    refine ⟨_, rfl, q, rfl, ⟨_, hq⟩, for_tup (K := K) (a := q) (xs := vs) (fun i σ H' => ∃ x3 x4 x5 x6 : Option V, σ = [some (.ref q), some (.int (f : Nat)), some (.ref e), x3, x4, x5, x6] ∧ KB e H H' ∧ H' e = some (.lst (numsV (es ++ endsR (r.take i) es.length)))) ⟨none, none, none, none, rfl, KB.refl e H, by simpa [endsR] using he⟩ ?_ ?_ ?_⟩
    · rintro i σ H1 _ ⟨x3, x4, x5, x6, rfl, kb1, he1⟩
      exact sqt_kt (kb1.kt he) hq
    · rintro i v σ H1 hv ⟨x3, x4, x5, x6, rfl, kb1, he1⟩
      obtain ⟨d, hd, hdv⟩ := DsAt.get r vs i v hvs hv
      have hdm := List.mem_of_getElem? hd
      have hdd := deepR_mem r d hdm
      have hmt := manyR_take r i d hd
      have hpos := many_pos d
      have hdv1 := DAt_kt (kb1.kt he) d v hdv
      obtain ⟨pl, hpl⟩ : ∃ pl, es.length + manyR (r.take i) = pl := ⟨_, rfl⟩
      have hl1 : (numsV (es ++ endsR (r.take i) es.length)).length = pl := by rw [numsV_len, List.length_append, endsR_len, hpl]
      refine ⟨_, rfl, e, _, rfl, .inl (SqL.of he1), ?_⟩
      rw [hl1]
      refine ⟨_, rfl, rfl, _, rfl, ?_⟩
      have e0 : decide (V.int ((pl : Nat) : Int) = V.int 4000) = false := by
        simp only [decide_eq_false_iff_not, V.int.injEq]
        omega
      rw [e0]
      refine iteF ?_
      refine ⟨_, rfl, v, d, rfl, hdv1, fun H2 s2 => ⟨_, rfl, iteF ?_⟩⟩
      have hdv2 := DAt_kt (KT.of s2) d v hdv1
      refine ⟨_, rfl, v, d, rfl, hdv2, fun ip ws H3 s3 hip hws => ?_⟩
      have hwl := Paired.length hws
      refine ⟨_, rfl, !ws.isEmpty, .inr (.inl ⟨ws, hip, rfl⟩), ?_⟩
      have hrows : ∀ {Z : Prop}, Z → Z := fun z => z
      have step2 : ∀ (R : Bool → Hp → Prop), R false H3 → (if (!ws.isEmpty) = true then (tTest (tOp rEq (tVar 1) (tC (.int 8)))) [some (.ref q), some (.int (f : Nat)), some (.ref e), some v, some (.int ((pl : Nat) : Int)), some (.ref ip), x6] H3 R else R false H3) := by
        intro R hR
        cases hw : ws with
        | nil => exact iteF hR
        | cons w0 wr =>
          refine iteT ?_
          refine ⟨_, rfl, rfl, _, rfl, ?_⟩
          have hne : d.rows ≠ [] := fun z => by
            rw [z, hw] at hwl
            cases hwl
          have := deep_rows d hne
          have e1 : decide (V.int ((f : Nat) : Int) = V.int 8) = false := by
            simp only [decide_eq_false_iff_not, V.int.injEq]
            omega
          rw [e1]
          exact hR
      refine step2 _ ?_
      refine iteF ?_
      have he3 := s3 _ _ (s2 _ _ he1)
      obtain ⟨as, has⟩ : ∃ as, es ++ endsR (r.take i) es.length = as := ⟨_, rfl⟩
      rw [has] at he3 hl1
      rw [numsV_len] at hl1
      have hmr := many_rows d
      refine ⟨_, rfl, .inl ⟨rfl, _, SqL.of he3⟩, _, rfl, _, _, rfl, rfl, e, _, _, rfl, rfl, he3, by rw [numsV_len]; omega, ?_⟩
      have kb3 : KB e H H3 := (kb1.trans (KB.of s2)).trans (KB.of s3)
      have e4 : numsV as ++ [V.int (((pl : Nat) : Int) + 1)] = numsV (as ++ [pl + 1]) := by
        rw [numsV_app]
        rfl
      rw [e4]
      have he4 : (upd H3 e (.lst (numsV (as ++ [pl + 1])))) e = some (.lst (numsV (as ++ [pl + 1]))) := upd_same
      have kb4 : KB e H3 (upd H3 e (.lst (numsV (as ++ [pl + 1])))) := KB.set
      revert he4 kb4
      generalize upd H3 e (.lst (numsV (as ++ [pl + 1]))) = H4
      intro he4 kb4
      have kt4 : KT H3 H4 := kb4.kt he3
      refine ⟨_, rfl, ip, rfl, ⟨_, sqt_kt kt4 hip⟩, for_tup (K := K) (a := ip) (xs := ws) (fun j σ H' => ∃ x6 : Option V, σ = [some (.ref q), some (.int (f : Nat)), some (.ref e), some v, some (.int ((pl : Nat) : Int)), some (.ref ip), x6] ∧ KB e H4 H' ∧ H' e = some (.lst (numsV (as ++ [pl + 1] ++ endsL (d.rows.take j) (pl + 1))))) ⟨_, rfl, KB.refl e H4, by simpa [endsL] using he4⟩ ?_ ?_ ?_⟩
      · rintro j σ H5 _ ⟨x6, rfl, kb5, he5⟩
        exact sqt_kt (kb5.kt he4) (sqt_kt kt4 hip)
      · rintro j v6 σ H5 hv6 ⟨x6, rfl, kb5, he5⟩
        obtain ⟨r6, hr6, q6, rfl, hq6⟩ := paired_get hws hv6
        have hml := manyL_take d.rows j r6 hr6
        have hdl := deepL_mem d.rows r6 (List.mem_of_getElem? hr6)
        have hne : d.rows ≠ [] := fun z => by
          rw [z] at hr6
          cases hr6
        have hdr := deep_rows d hne
        have l5 : (as ++ [pl + 1] ++ endsL (d.rows.take j) (pl + 1)).length = pl + 1 + manyL (d.rows.take j) := by
          rw [List.length_append, List.length_append, endsL_len, hl1]
          rfl
        refine ⟨_, rfl, _, rfl, _, _, rfl, rfl, _, rfl, q6, e, f + 1, r6, _, rfl, (hq6.kt kt4).kt (kb5.kt he4), by omega, by omega, he5, by omega, fun H6 kb6 he6 => ?_⟩
        refine ⟨_, rfl, kb5.trans kb6, ?_⟩
        rw [he6, take_snoc hr6, endsL_app, endsL_one, l5, List.append_assoc (as ++ [pl + 1])]
      · rintro σ H5 ⟨x6, rfl, kb5, he5⟩
        rw [hwl, List.take_length] at he5
        have l5 : (as ++ [pl + 1] ++ endsL d.rows (pl + 1)).length = pl + d.many := by
          rw [List.length_append, List.length_append, endsL_len, hl1, hmr]
          simp only [List.length_cons, List.length_nil]
          omega
        refine ⟨_, rfl, e, _, rfl, .inl (SqL.of he5), ?_⟩
        rw [numsV_len, l5]
        refine ⟨_, rfl, _, rfl, e, _, _, pl, rfl, rfl, he5, ?_, ?_⟩
        · rw [numsV_len, l5]
          exact ixN_at _ _ (by omega)
        · have es5 : (numsV (as ++ [pl + 1] ++ endsL d.rows (pl + 1))).set pl (V.int (((pl + d.many : Nat)) : Int)) = numsV (es ++ endsR (r.take (i + 1)) es.length) := by
            rw [take_snoc hd, endsR_app, endsR_one, ends_rows, ← List.append_assoc, has, hpl, List.append_assoc, numsV_app, numsV_app]
            rw [List.set_append_right _ _ (by rw [numsV_len, hl1]; exact Nat.le_refl _), numsV_len, hl1, Nat.sub_self, numsV_app]
            rfl
          refine ⟨_, _, _, _, rfl, ((kb3.trans kb4).trans kb5).trans KB.set, ?_⟩
          rw [upd_same, ← es5]
    · rintro σ H1 ⟨x3, x4, x5, x6, rfl, kb1, he1⟩
      rw [hlen, List.take_length] at he1
      exact k H1 kb1 he1
end
end Js

set_option Elab.async false
set_option linter.all false
set_option maxRecDepth 100000
set_option maxHeartbeats 2000000
/-! for i, x in enumerate(tuple) -/
namespace JsZ
open PySem PySem.Spec PyProof.Rows L2
abbrev ht1 (h : Heap) (l : Addr) : Heap := h.push { cls := .type "tuple_iterator", data := .fields #[.ref l, .int 0 0] }
abbrev ht2 (h : Heap) (l : Addr) : Heap := (ht1 h l).push { cls := .type "enumerate", data := .fields #[.none, .bool false, .ref h.objs.size, rawInt 0, .none, .none] }
theorem new_enumT (l : Addr) (us : Array Value) :
    Meets (Builtin.«enumerate.__new__» ⟨[.type "enumerate", .ref l], []⟩) (fun _ R s => s.heap.IsTuple l us ∧ R (.ok (.ret (.ref (ht1 s.heap l).objs.size))) { s with heap := ht2 s.heap l }) :=
  .of_wp fun prog w A R s h => by
    obtain ⟨hp, g, d, tk, os⟩ := s; obtain ⟨h1, h⟩ := h
    have hsub := sub_enumerate
    have hL : Heap.IsTuple (Shared.heap ⟨hp, g, d, tk, os⟩) l us := h1
    wp_walk
    refine wpAny_stack_any fun st => wpAny_pure ?_
    split
    · rename_i c _ _ _ _ _
      cases (c == Value.type "enumerate")
      · wp_walk using wpAny_pyIter_tuple hL
        exact ⟨_, rfl, h⟩
      · wp_walk using wpAny_pyIter_tuple hL
        exact ⟨_, rfl, h⟩
    · wp_walk using wpAny_pyIter_tuple hL
      exact ⟨_, rfl, h⟩
section
variable {prog : Program} {w : World} {A : Around} {E : Value → Shared → Prop} {s : Shared}
theorem call_enumT {l : Addr} {us : Array Value} {Q : Value → Shared → Prop} (hL : s.heap.IsTuple l us)
    (h : ∀ h', IsEnum h' (s.heap.objs.size + 1) s.heap.objs.size 0 .none → h'.IsTupleIter s.heap.objs.size l 0 → h'.objs.size = s.heap.objs.size + 2 → (∀ b o, s.heap.get? b = some o → h'.get? b = some o) → Q (.ref (s.heap.objs.size + 1)) { s with heap := h' }) :
    wpAny (model prog w) A (call (.type "enumerate") [.ref l]) Q E s := by
  refine callType_new F.called_enumerate (by decide) (F.typeCall_enumerate_1 _) (F.newCall_enumerate_1 _) (fun obj => F.args_object_init_2 obj _) F.entry_enumerate_new (new_enumT l us) ⟨hL, ?_⟩
  have hz : (ht1 s.heap l).objs.size = s.heap.objs.size + 1 := Heap.size_push ..
  show _ ∧ _
  rw [hz]
  have he : IsEnum (ht2 s.heap l) (s.heap.objs.size + 1) s.heap.objs.size 0 .none := by
    have := Heap.get?_push_size (ht1 s.heap l) (o := { cls := .type "enumerate", data := .fields #[.none, .bool false, .ref s.heap.objs.size, rawInt 0, .none, .none] }) rfl
    rw [hz] at this
    exact this
  refine ⟨⟨_, he, rfl⟩, h _ he ⟨_, Heap.get?_push_of_some _ (Heap.get?_push_size _ rfl), rfl, rfl⟩ (by rw [Heap.size_push, hz]) fun b o q => Heap.get?_push_of_some _ (Heap.get?_push_of_some _ q)⟩
end
/-- the tuple at a as it stands at each turn, numbered -/
def ItE (K : PySem.W.Frag) (a : Addr) : It :=
  ⟨fun i H => ∃ (xs : List V) (x : V), SqT K H a xs ∧ xs[i]? = some x,
    fun i H v H' => ∃ T x, v = .ref T ∧ H T = none ∧ H' = upd H T (.tup [.int (i : Nat), x]) ∧ ∀ xs, SqT K H a xs → xs[i]? = some x,
    fun i H => ∃ xs : List V, SqT K H a xs ∧ i = xs.length⟩
theorem turn_E {P : Program} {w : World} {K : PySem.W.Frag} {elts : List Expr} {kk : Nat} {tpos : Pos} (a e it : Addr) (ha : a ≠ it) (hea : e ≠ a) :
    Turn P w K (.Tuple elts kk tpos) (ItE K a) [e, it] e (fun i h => (∃ old, IsEnum h e it ((i : Nat) : Int) old) ∧ h.IsTupleIter it a i ∧ e ≠ it) where
  mem := by simp
  obj := fun i h st b hb => by
    obtain ⟨⟨old, he⟩, ⟨o, ho, hc, hd⟩, _⟩ := st
    have e' : b = e ∨ b = it := by simpa using hb
    rcases e' with z | z
    · rw [z]; exact ⟨_, he, fun v q => nomatch q⟩
    · rw [z]; exact ⟨o, ho, fun v q => by rw [hd] at q; cases q⟩
  keep := fun i h h' st k => let ⟨⟨old, he⟩, hi, hne⟩ := st; ⟨⟨old, k e (by simp) _ he⟩, hi.at fun o q => k it (by simp) o q, hne⟩
  item := by
    intro X hP hw hK hc i pins s σ H E I hf st hg
    subst hP hw hK
    obtain ⟨⟨old, he⟩, hit, hne⟩ := st
    obtain ⟨xs, x, hqx, hx⟩ := hg
    obtain ⟨us, rv, p, _⟩ := I.tuple hqx
    obtain ⟨u, hu, ru⟩ := rv.get hx
    have hel : e < s.heap.objs.size := Heap.lt_size he
    have hil : it < s.heap.objs.size := by obtain ⟨_, q, _⟩ := hit; exact Heap.lt_size q
    have hh : X.A.in1.handled = none := I.ok.hd hc
    have li : i < us.toArray.size := by
      have := (List.getElem?_eq_some_iff.mp hu).1
      simpa using this
    refine wpAny_pyNext_enum_itemD (Draws.tuple hh it a ha us.toArray) he ⟨hit, p⟩ li hne (by simp [hne, hea]) fun v h' tk hPx ho hit' hT hsz hk => ?_
    have ev : v = u := by
      have : us.toArray[i]? = some u := by simpa using hu
      exact Option.some.inj (hPx.symm.trans this)
    subst ev
    refine ⟨_, rfl, wpAny_letOwnedTupleGo_enum (s := { s with heap := h', toks := tk + 1 }) ho fun h'' he' sb => ?_⟩
    have hT2 : h''.get? s.heap.objs.size = some { cls := .type "tuple", data := .seq #[.int i tk, v] } := (sb.2 _ (Nat.ne_of_gt hel)).trans hT
    have new : ObjOk X.prog X.w (upd H s.heap.objs.size (.tup [.int (i : Nat), x])) h'' s.heap.objs.size (.tup [.int (i : Nat), x]) := ⟨by show 2 ≤ sizeLine; decide, [.int i tk, v], .cons ⟨_, rfl⟩ (.cons ru .nil), ⟨_, hT2, rfl, _, rfl⟩⟩
    have I1 : Inv X pins σ (upd H s.heap.objs.size (.tup [.int (i : Nat), x])) { s with heap := h'', toks := tk + 1 } :=
      I.turnedNew (ch := [e, it]) (fun b ob hb q => (sb.2 b (fun z => hb (by simp [z]))).trans (hk b ob (fun z => hb (by simp [z])) (fun z => hb (by simp [z])) q)) hf (Nat.le_refl _) new
    refine ⟨.ref s.heap.objs.size, _, I1, rfl, ⟨_, x, rfl, I.hok.fresh (Nat.le_refl _), rfl, fun l hl => by rw [I.tuple_inj hl hqx]; exact hx⟩, ⟨⟨v, ?_⟩, ?_, hne⟩, fun b hb => ?_⟩
    · have e1 : ((i + 1 : Nat) : Int) = (i : Int) + 1 := by omega
      rw [e1]; exact he'
    · exact hit'.1.at fun o q => (sb.2 it (Ne.symm hne)).trans q
    · have hb' : b < s.heap.objs.size := by
        have e' : b = e ∨ b = it := by simpa using hb
        rcases e' with z | z
        · rw [z]; exact hel
        · rw [z]; exact hil
      rw [upd_ne (Nat.ne_of_lt hb')]
      exact (hf b hb).1
  done := by
    intro X hP hw hK hc i pins s σ H E I hf st hg
    subst hP hw hK
    obtain ⟨⟨old, he⟩, hit, hne⟩ := st
    obtain ⟨xs, hqx, rfl⟩ := hg
    obtain ⟨us, rv, p, _⟩ := I.tuple hqx
    obtain ⟨f0, f1, f2, f3, f4, f5⟩ := hf it (by simp)
    have hh : X.A.in1.handled = none := I.ok.hd hc
    have lu : us.toArray.size = xs.length := by rw [List.size_toArray, ← rv.length]
    exact wpAny_pyNext_enum_endD (Draws.tuple hh it a ha us.toArray) he (by rw [lu]; exact ⟨hit, p⟩) fun h' eb => ⟨rfl, I.turned (t' := s.toks) (fun b o hb q => eb b o hb q) f0 f1 f3 f4 f5⟩
  self := fun A i s Q E st h => let ⟨⟨_, he⟩, _⟩ := st; wpAny_pyIter_enum he h
end JsZ
namespace L2
open PySem PySem.Spec PyProof.Rows
def iEnumT (K : PySem.W.Frag) (ta : TA) : TI := fun σ H R => ta σ H fun vs H1 => ∃ a xs, vs = [.ref a] ∧ SqT K H1 a xs ∧ R (JsZ.ItE K a) H1
theorem pi_enumT {X : Cx} {e : Expr} {ta : TA} {p pos tpos : Pos} {elts : List Expr} {kk : Nat} (hg : Gl X "enumerate") (hm : X.mg "enumerate" = none) (ha : PA X [e] ta) (hs : starEach [e] X.env = [(false, eval e X.env)] := by rfl) :
    PI X (.Tuple elts kk tpos) (.Call (.Name "enumerate" p) [e] [] pos) (iEnumT X.K ta) := by
  refine ⟨fun pins s σ H R I h => ?_⟩
  refine Call_ (ld_blt I hg hm boot_enumerate (PyProof.Rows.callWith_type1 (thn (ha.run pos pins s σ H _ I h) fun us s1 ⟨vs, H1, I1, r1, q1⟩ => ?_) hs rfl))
  obtain ⟨a, xs, ex, hqx, q⟩ := q1
  subst ex
  obtain ⟨u, rfl, ru⟩ := vals1 r1
  cases (show u = Value.ref a from ru)
  obtain ⟨its, rv, p1, _⟩ := I1.tuple hqx
  obtain ⟨o1, ho1, _⟩ := id p1
  have la := Heap.lt_size ho1
  refine JsZ.call_enumT p1 fun h' he hit hsz hk => wpAny_pyIter_enum he ?_
  have I2 : Inv X pins σ H1 { s1 with heap := h' } := I1.kept (t' := s1.toks) hk
  refine ⟨s1.heap.objs.size + 1, [s1.heap.objs.size + 1, s1.heap.objs.size], _, _, H1, rfl, I2, JsZ.turn_E a (s1.heap.objs.size + 1) s1.heap.objs.size (Nat.ne_of_lt la) (fun z => absurd la (by rw [← z]; exact Nat.not_lt.mpr (Nat.le_succ _))), ⟨⟨.none, he⟩, hit, Nat.succ_ne_self _⟩, fun b hb => ?_, q⟩
  have e' : b = s1.heap.objs.size + 1 ∨ b = s1.heap.objs.size := by simpa using hb
  have hle : s1.heap.objs.size ≤ b := by
    rcases e' with z | z
    · rw [z]; exact Nat.le_add_right _ _
    · rw [z]; exact Nat.le_refl _
  exact I1.fpOk hle (I1.hok.fresh hle)
theorem walk_enumT {K : PySem.W.Frag} {a : Addr} {xs : List V} : Walk (JsZ.ItE K a) xs.length (fun H => SqT K H a xs) (fun i H v H' => ∃ T x, v = .ref T ∧ H T = none ∧ H' = upd H T (.tup [.int (i : Nat), x]) ∧ xs[i]? = some x) :=
  ⟨fun i H hi hq => ⟨xs, xs[i], hq, List.getElem?_eq_getElem hi⟩, fun H hq => ⟨xs, hq, rfl⟩, fun i H v H' hi hq y => by
      obtain ⟨T, x, e1, e2, e3, e4⟩ := y
      exact ⟨T, x, e1, e2, e3, e4 xs hq⟩⟩
end L2

set_option Elab.async false
set_option linter.all false
set_option maxRecDepth 100000
set_option maxHeartbeats 2000000
namespace Js
open PySem L2
abbrev sLay : Stmt := top 26
def Dd.isW : Dd → Bool
  | .wh _ _ => true
  | _ => false
def Dd.isF : Dd → Bool
  | .iff _ _ _ => true
  | _ => false
theorem kind_w : ∀ d : Dd, decide (V.str (kindOf d) = V.str "while") = d.isW
  | .told _ _ => (by decide +kernel : decide (V.str (("told" : Str)) = V.str "while") = false)
  | .take false _ _ => (by decide +kernel : decide (V.str (("first" : Str)) = V.str "while") = false)
  | .take true _ _ => (by decide +kernel : decide (V.str (("second" : Str)) = V.str "while") = false)
  | .two false _ _ _ => (by decide +kernel : decide (V.str (("pair" : Str)) = V.str "while") = false)
  | .two true _ _ _ => (by decide +kernel : decide (V.str (("same" : Str)) = V.str "while") = false)
  | .wh _ _ => (by decide +kernel : decide (V.str (("while" : Str)) = V.str "while") = true)
  | .iff _ _ _ => (by decide +kernel : decide (V.str (("if" : Str)) = V.str "while") = false)
theorem kind_f : ∀ d : Dd, (!decide (V.str (kindOf d) = V.str "if")) = !d.isF
  | .told _ _ => (by decide +kernel : (!decide (V.str (("told" : Str)) = V.str "if")) = true)
  | .take false _ _ => (by decide +kernel : (!decide (V.str (("first" : Str)) = V.str "if")) = true)
  | .take true _ _ => (by decide +kernel : (!decide (V.str (("second" : Str)) = V.str "if")) = true)
  | .two false _ _ _ => (by decide +kernel : (!decide (V.str (("pair" : Str)) = V.str "if")) = true)
  | .two true _ _ _ => (by decide +kernel : (!decide (V.str (("same" : Str)) = V.str "if")) = true)
  | .wh _ _ => (by decide +kernel : (!decide (V.str (("while" : Str)) = V.str "if")) = true)
  | .iff _ _ _ => (by decide +kernel : (!decide (V.str (("if" : Str)) = V.str "if")) = false)
def wayL : List (List Dd) → Nat → Nat → List Nat
  | [], _, _ => []
  | r :: rs, b, n => (if r.isEmpty then b else n) :: wayL rs b (n + manyR r)
def layL : List (List Dd) → Nat → Nat → List (Dd × List Nat)
  | [], _, _ => []
  | r :: rs, b, n => layR r b n ++ layL rs b (n + manyR r)
def Dd.back (d : Dd) (f n : Nat) : Nat := if d.isW then n else f
def Dd.ways (d : Dd) (f n : Nat) : List Nat := wayL d.rows (d.back f n) (n + 1) ++ (if d.isF then [] else [f])
theorem lay_rows : ∀ (d : Dd) (f n : Nat), d.lay f n = (d, d.ways f n) :: layL d.rows (d.back f n) (n + 1)
  | .told _ _, _, _ => rfl
  | .take _ _ _, _, _ => rfl
  | .two _ _ _ _, _, _ => rfl
  | .wh a r, f, n => by
    rw [Dd.lay]
    simp [Dd.ways, Dd.back, Dd.isW, Dd.isF, Dd.rows, wayL, layL]
  | .iff a r o, f, n => by
    rw [Dd.lay]
    simp [Dd.ways, Dd.back, Dd.isW, Dd.isF, Dd.rows, wayL, layL]
theorem layL_len : ∀ (rs : List (List Dd)) (b n : Nat), (layL rs b n).length = manyL rs
  | [], _, _ => rfl
  | r :: rs, b, n => by rw [layL, List.length_append, layR_len, layL_len rs, manyL]
theorem layL_app : ∀ (a c : List (List Dd)) (b n : Nat), layL (a ++ c) b n = layL a b n ++ layL c b (n + manyL a)
  | [], c, b, n => by rw [List.nil_append, manyL, layL, List.nil_append, Nat.add_zero]
  | r :: a, c, b, n => by rw [List.cons_append, layL, layL_app a c, layL, manyL, List.append_assoc, Nat.add_assoc]
theorem layL_one (r : List Dd) (b n : Nat) : layL [r] b n = layR r b n := by rw [layL, layL, List.append_nil]
theorem wayL_app : ∀ (a c : List (List Dd)) (b n : Nat), wayL (a ++ c) b n = wayL a b n ++ wayL c b (n + manyL a)
  | [], c, b, n => by rw [List.nil_append, manyL, wayL, List.nil_append, Nat.add_zero]
  | r :: a, c, b, n => by rw [List.cons_append, wayL, wayL_app a c, wayL, manyL, List.cons_append, Nat.add_assoc]
theorem wayL_one (r : List Dd) (b n : Nat) : wayL [r] b n = [if r.isEmpty then b else n] := rfl
theorem wayL_len : ∀ (rs : List (List Dd)) (b n : Nat), (wayL rs b n).length = rs.length
  | [], _, _ => rfl
  | r :: rs, b, n => by rw [wayL, List.length_cons, wayL_len rs, List.length_cons]
theorem take_over {α : Type} (L R : List α) (k m : Nat) (h : L.length = k) : (L ++ R).take (k + m) = L ++ R.take m := by
  subst h
  exact List.take_length_add_append m
theorem lay_step : ∀ (r : List Dd) (b n i : Nat) (d : Dd), r[i]? = some d →
    (layR r b n).take (manyR (r.take (i + 1))) = (layR r b n).take (manyR (r.take i)) ++ d.lay (if i + 1 < r.length then n + manyR (r.take i) + d.many else b) (n + manyR (r.take i))
  | e :: r, b, n, 0, d, h => by
    cases Option.some.inj h
    have t0 := take_over (e.lay (if r.isEmpty = true then b else n + e.many) n) (layR r b (n + e.many)) e.many 0 (lay_len _ _ _)
    rw [List.take_zero, List.append_nil] at t0
    show (layR (e :: r) b n).take (manyR [e]) = (layR (e :: r) b n).take 0 ++ e.lay (if 0 + 1 < (e :: r).length then n + 0 + e.many else b) (n + 0)
    rw [manyR_one, List.take_zero, List.nil_append, layR]
    refine t0.trans ?_
    cases r with
    | nil => rfl
    | cons x y =>
      rw [if_pos (show 0 + 1 < (e :: x :: y).length by simp only [List.length_cons]; omega)]
      rfl
  | e :: r, b, n, i + 1, d, h => by
    have ih := lay_step r b (n + e.many) i d h
    rw [List.take_succ_cons, List.take_succ_cons, many_cons, many_cons, layR, take_over _ _ _ _ (lay_len _ _ _), take_over _ _ _ _ (lay_len _ _ _), ih, List.append_assoc]
    have ec : (i + 1 + 1 < (e :: r).length) = (i + 1 < r.length) := by
      rw [List.length_cons]
      exact propext ⟨fun h => by omega, fun h => by omega⟩
    simp only [ec, Nat.add_assoc]
theorem seq_via {ta : TE} {g : TG} {rest : TS} {D : Ends} {σ : L2.St} {H : Hp} (v : V) (h : ∀ R : VK, R v H → ta σ H R) (k : g v σ H (rest D)) : tSeq (tAsg ta g) rest D σ H := h _ k
theorem via {T : VK → Prop} {K0 : VK} (v : V) (H : Hp) (h : ∀ R : VK, R v H → T R) (k : K0 v H) : T K0 := h K0 k
theorem ends_at : ∀ (r : List Dd) (n i : Nat) (d : Dd), r[i]? = some d → ∃ rest, endsR r n = endsR (r.take i) n ++ (d.ends (n + manyR (r.take i)) ++ rest)
  | e :: r, n, 0, d, h => by
    cases Option.some.inj h
    exact ⟨endsR r (n + e.many), by rw [List.take_zero, many_nil, endsR, endsR, List.nil_append, Nat.add_zero]⟩
  | e :: r, n, i + 1, d, h => by
    obtain ⟨rest, ih⟩ := ends_at r (n + e.many) i d h
    exact ⟨rest, by rw [List.take_succ_cons, many_cons, endsR, ih, endsR, List.append_assoc, Nat.add_assoc]⟩
theorem endsL_at : ∀ (rs : List (List Dd)) (n j : Nat) (r : List Dd), rs[j]? = some r → ∃ rest, endsL rs n = endsL (rs.take j) n ++ (endsR r (n + manyL (rs.take j)) ++ rest)
  | e :: rs, n, 0, r, h => by
    cases Option.some.inj h
    exact ⟨endsL rs (n + manyR e), by rw [List.take_zero, manyL, endsL, endsL, List.nil_append, Nat.add_zero]⟩
  | e :: rs, n, j + 1, r, h => by
    obtain ⟨rest, ih⟩ := endsL_at rs (n + manyR e) j r h
    exact ⟨rest, by rw [List.take_succ_cons, manyL, endsL, ih, endsL, List.append_assoc, Nat.add_assoc]⟩
/-- l stands in E from k on -/
def Pre (E : List Nat) (k : Nat) (l : List Nat) : Prop := ∀ i x, l[i]? = some x → E[k + i]? = some x
theorem Pre.right {E : List Nat} {k : Nat} {a b : List Nat} (h : Pre E k (a ++ b)) : Pre E (k + a.length) b := fun i x e => by
  have := h (a.length + i) x (by rw [List.getElem?_append_right (Nat.le_add_right _ _), Nat.add_sub_cancel_left]; exact e)
  rw [Nat.add_assoc]
  exact this
theorem Pre.left {E : List Nat} {k : Nat} {a b : List Nat} (h : Pre E k (a ++ b)) : Pre E k a := fun i x e => h i x (by
  rw [List.getElem?_append_left (List.getElem?_eq_some_iff.mp e).1]
  exact e)
theorem Pre.whole (E : List Nat) : Pre E 0 E := fun i x e => by
  rw [Nat.zero_add]
  exact e
/-- a deed in the plan, with its ways -/
def PlE (K : PySem.W.Frag) (C : Addr) (H : Hp) (v : V) (x : Dd × List Nat) : Prop := ∃ t wv dv, v = .ref t ∧ H t = some (.tup [dv, .ref wv]) ∧ H wv = some (.tup (numsV x.2)) ∧ DAt K C H dv x.1
theorem PlE.kt {K : PySem.W.Frag} {C : Addr} {H H' : Hp} (k : KT H H') {v : V} {x : Dd × List Nat} (h : PlE K C H v x) : PlE K C H' v x := by
  obtain ⟨t, wv, dv, e, h1, h2, h3⟩ := h
  exact ⟨t, wv, dv, e, k _ _ h1 (fun _ e => nomatch e), k _ _ h2 (fun _ e => nomatch e), DAt_kt k _ _ h3⟩
theorem pls_kt {K : PySem.W.Frag} {C : Addr} {H H' : Hp} (k : KT H H') : ∀ {ys : List V} {ps : List (Dd × List Nat)}, Paired (PlE K C H) ys ps → Paired (PlE K C H') ys ps
  | _, _, .nil => .nil
  | _, _, .cons h t => .cons (h.kt k) (pls_kt k t)
theorem paired_app {α β : Type} {R : α → β → Prop} : ∀ {xs : List α} {ys : List β} {xs' : List α} {ys' : List β}, Paired R xs ys → Paired R xs' ys' → Paired R (xs ++ xs') (ys ++ ys')
  | _, _, _, _, .nil, h => h
  | _, _, _, _, .cons h t, h' => .cons h (paired_app t h')
def spLay (K : PySem.W.Frag) (C : Addr) (n : Nat) : Sp := fun vs H Q _ => ∃ (q e p : Addr) (f : Nat) (r : List Dd) (E : List Nat) (xs : List V), vs = [.ref q, .int (f : Nat), .ref e, .ref p] ∧ RAt K C H q r ∧ deepR r < n ∧ H e = some (.lst (numsV E)) ∧ Pre E xs.length (endsR r xs.length) ∧
  H p = some (.lst xs) ∧ e ≠ p ∧ xs.length + manyR r ≤ 4000 ∧ ∀ H' ys, KB p H H' → H' p = some (.lst (xs ++ ys)) → Paired (PlE K C H') ys (layR r f xs.length) → Q .non H'
section
variable {P : Program} {w : World} {K : PySem.W.Frag} {mg : Str → Option Value} {base : Heap} {C : Addr}
theorem scLy : FnScope ["row", "behind", "ends", "plan", "at", "deed", "point", "after", "back", "ways", "part"] ["row", "behind", "ends", "plan"] (defScope sLay) := ⟨rfl, rfl, rfl, by decide +kernel, rfl, by decide +kernel, by decide +kernel⟩
theorem ok_lay {f : Addr} {fd : FuncData} (F : Fun K "lay_out" "lay_out" sLay f fd) (mgf : mg "lay_out" = some (.ref f)) (b : Binds K fd ["row", "behind", "ends", "plan"] []) (B : Blt mg) (G : FrmC K w mg)
    (DR : Def P w K mg base "rows_in" 1 ["deed"] (spRowsIn K C)) : ∀ n, FnOk P w K mg base CX0 (n + 2) f fd ["row", "behind", "ends", "plan"] (spLay K C n) := by
  intro n
  induction n with
  | zero =>
    refine F.ok scLy (fun vs H Q E h => ?_) (fun cdv A outer s H vs Q E hr h => ?_)
    · obtain ⟨q, e, p, f, r, E, xs, rfl, _⟩ := h
      rfl
    · obtain ⟨q, e, p, f, r, E, xs, _, _, h, _⟩ := h
      exact absurd h (Nat.not_lt_zero _)
  | succ n G' =>
  refine F.ok scLy (fun vs H Q E h => ?_) (fun cdv A outer s H vs Q E hr h => ?_)
  · obtain ⟨q, e, p, f, r, E, xs, rfl, _⟩ := h
    rfl
  · obtain ⟨q, e, p, f, r, En, xs, rfl, ⟨vs, hq, hvs⟩, hdp, he, hpre, hp, hep, hmany, k⟩ := h
    have hr1 : Room 1 _ := hr.mono (by omega)
    refine ⟨_, pss_one (ps_for PassesOwn.never rfl (pi_enumT rfl G.me (pa_cons (pv 0) pa_nil)) (pg_tup rfl (pgs_cons (pg_name (i := 4) scLy.nd rfl (Or.inl rfl)) (pgs_cons (pg_name (i := 5) scLy.nd rfl (Or.inl rfl)) pgs_nil))) (pss_cons (ps_set (i := 6) scLy.nd rfl (Or.inl rfl) (pe_callB call_len_seq (by rfl) B.len PySem.boot_len (pa_cons (pv 3) pa_nil))) (pss_cons (ps_set (i := 7) scLy.nd rfl (Or.inl rfl) (pe_ifExp (pt_cmpR op_lt (pe_op op_add (pv 4) pe_int) (pe_callB call_len_seq (by rfl) B.len PySem.boot_len (pa_cons (pv 0) pa_nil)) (nomark _)) (pe_ix (r := rIxL K) ix_list (pv 2) (pv 6) (fun _ _ => rfl)) (pv 1))) (pss_cons (ps_set (i := 8) scLy.nd rfl (Or.inl rfl) (pe_ifExp (pt_cmpR op_eq (pe_ix (r := rIxT K) ix_tup (pv 5) pe_int (fun _ _ => rfl)) pe_str (nomark _)) (pv 6) (pv 7))) (pss_cons (ps_expr (pe_bm PySem.F.plainAttrs_list PySem.F.slot_list_append PySem.F.type_list_append mt_append (pv 3) (pa_cons pe_non pa_nil))) (pss_cons (ps_set (i := 9) scLy.nd rfl (Or.inl rfl) (pe_lst pa_nil)) (pss_cons (ps_for PassesOwn.never rfl (pi_tup (pe_def DR hr1 rfl (pa_cons (pv 5) pa_nil))) (pg_name (i := 10) scLy.nd rfl (Or.inl rfl)) (pss_cons (ps_expr (pe_bm PySem.F.plainAttrs_list PySem.F.slot_list_append PySem.F.type_list_append mt_append (pv 9) (pa_cons (pe_ifExp (pt_truth (pv 10) (by intro _; rfl)) (pe_callB call_len_seq (by rfl) B.len PySem.boot_len (pa_cons (pv 3) pa_nil)) (pv 8)) pa_nil))) (pss_one (ps_expr (pe_call G' hr rfl mgf F.kp b .nil pass0 (pa_cons (pv 10) (pa_cons (pv 8) (pa_cons (pv 2) (pa_cons (pv 3) pa_nil))))))))) (pss_cons (ps_if (pt_cmpR op_ne (pe_ix (r := rIxT K) ix_tup (pv 5) pe_int (fun _ _ => rfl)) pe_str (nomark _)) (pss_one (ps_expr (pe_bm PySem.F.plainAttrs_list PySem.F.slot_list_append PySem.F.type_list_append mt_append (pv 9) (pa_cons (pv 7) pa_nil)))) pss_nil) (pss_one (ps_asg (pe_tup (pa_cons (pv 5) (pa_cons (pe_callTy call_tuple_of (by rfl) G.mt PyProof.Rows.boot_tuple (pa_cons (pv 9) pa_nil)) pa_nil))) (pg_sub (pv 3) (pv 6) set_list))))))))))), ?_⟩
    have hsl := line4
    have hlen := DsAt.length r vs hvs
    refine ⟨_, rfl, q, vs, rfl, hq, for_it (walk_enumT (K := K) (a := q) (xs := vs)) (fun i σ H' => ∃ x4 x5 x6 x7 x8 x9 x10 : Option V, ∃ ys : List V, σ = [some (.ref q), some (.int (f : Nat)), some (.ref e), some (.ref p), x4, x5, x6, x7, x8, x9, x10] ∧ KB p H H' ∧ H' p = some (.lst (xs ++ ys)) ∧ Paired (PlE K C H') ys ((layR r f xs.length).take (manyR (r.take i)))) ⟨none, none, none, none, none, none, none, [], rfl, KB.refl p H, by rw [List.append_nil]; exact hp, by rw [List.take_zero, many_nil, List.take_zero]; exact .nil⟩ ?_ ?_ ?_⟩
    · rintro i σ H1 _ ⟨x4, x5, x6, x7, x8, x9, x10, ys, rfl, kb1, hp1, hys⟩
      exact sqt_kt (kb1.kt hp) hq
    · rintro i y σ H1 H2 hi ⟨x4, x5, x6, x7, x8, x9, x10, ys, rfl, kb1, hp1, hys⟩ ⟨T, v, rfl, nT, rfl, hv⟩
      obtain ⟨d, hd, hdv⟩ := DsAt.get r vs i v hvs hv
      have hdd := deepR_mem r d (List.mem_of_getElem? hd)
      have hmt := manyR_take r i d hd
      have hpos := many_pos d
      have hmr := many_rows d
      have sT := Same.new nT (o := .tup [.int (i : Nat), v])
      have kb2 : KB p H (upd H1 T (.tup [.int (i : Nat), v])) := kb1.trans (KB.of sT)
      have hp2 := sT _ _ hp1
      have hys2 := pls_kt (KT.of sT) hys
      have hdv2 : DAt K C (upd H1 T (.tup [.int (i : Nat), v])) v d := DAt_kt (kb2.kt hp) d v hdv
      have hq2 : SqT K (upd H1 T (.tup [.int (i : Nat), v])) q vs := sqt_kt (kb2.kt hp) hq
      have he2 := kb2 _ _ hep he
      have hT2 : (upd H1 T (.tup [.int (i : Nat), v])) T = some (.tup [.int (i : Nat), v]) := upd_same
      revert kb2 hp2 hys2 hdv2 hq2 he2 hT2
      generalize upd H1 T (.tup [.int (i : Nat), v]) = H2
      intro kb2 hp2 hys2 hdv2 hq2 he2 hT2
      refine ⟨T, _, rfl, SqT.of hT2, rfl, _, _, rfl, _, _, rfl, rfl, ?_⟩
      obtain ⟨pt, hpt⟩ : ∃ pt, xs.length + manyR (r.take i) = pt := ⟨_, rfl⟩
      have lys : ys.length = manyR (r.take i) := by
        rw [Paired.length hys, List.length_take, layR_len]
        omega
      have lxy : (xs ++ ys).length = pt := by rw [List.length_append, lys, hpt]
      refine ⟨_, rfl, p, _, rfl, .inl (SqL.of hp2), ?_⟩
      rw [lxy]
      -- after
      obtain ⟨af, haf⟩ : ∃ af, (if i + 1 < r.length then pt + d.many else f) = af := ⟨_, rfl⟩
      obtain ⟨rest, hen⟩ := ends_at r xs.length i d hd
      have hpre2 : Pre En pt (d.ends pt) := by
        rw [hen] at hpre
        have := hpre.right
        rw [endsR_len, hpt] at this
        exact this.left
      have hpre3 : En[pt]? = some (pt + d.many) := by
        have := hpre2 0 (pt + d.many) (by rw [ends_rows]; rfl)
        exact this
      dsimp only [gName]
      refine seq_via (.int (af : Nat)) (fun R hR => ?_) ?_
      · refine ⟨_, rfl, _, _, rfl, rfl, _, rfl, q, vs, rfl, .inr hq2, _, _, rfl, rfl, _, rfl, ?_⟩
        rw [hlen]
        by_cases hlt : i + 1 < r.length
        · rw [decide_eq_true (show ((i : Nat) : Int) + 1 < ((r.length : Nat) : Int) by omega)]
          refine iteT ?_
          rw [if_pos hlt] at haf
          refine ⟨_, rfl, _, rfl, e, _, _, .int (af : Nat), rfl, rfl, SqL.of he2, ?_, hR⟩
          refine atI_nat ?_
          rw [numsV, List.getElem?_map, hpre3, ← haf]
          rfl
        · rw [decide_eq_false (show ¬ ((i : Nat) : Int) + 1 < ((r.length : Nat) : Int) by omega)]
          refine iteF ?_
          rw [if_neg hlt] at haf
          subst haf
          exact ⟨_, rfl, hR⟩
      -- back
      obtain ⟨pd, its, ev, hpd, _⟩ := shape d hdv2
      subst ev
      refine seq_via (.int ((d.back af pt : Nat) : Int)) (fun R hR => ?_) ?_
      · refine ⟨_, rfl, pd, _, 0, _, rfl, rfl, hpd, at0 _ _, rfl, _, rfl, ?_⟩
        rw [kind_w]
        unfold Dd.back at hR
        cases hw : d.isW with
        | true =>
          rw [hw] at hR
          exact iteT ⟨_, rfl, hR⟩
        | false =>
          rw [hw] at hR
          exact iteF ⟨_, rfl, hR⟩
      obtain ⟨bk, hbk⟩ : ∃ bk, d.back af pt = bk := ⟨_, rfl⟩
      rw [hbk]
      refine ⟨_, rfl, .inl ⟨rfl, _, SqL.of hp2⟩, p, _, _, rfl, rfl, hp2, by omega, ?_⟩
      have kb3 : KB p H (upd H2 p (.lst (xs ++ ys ++ [.non]))) := kb2.trans KB.set
      have kt3 : KT H2 (upd H2 p (.lst (xs ++ ys ++ [.non]))) := KT.lst hp2
      have hp3 : (upd H2 p (.lst (xs ++ ys ++ [.non]))) p = some (.lst (xs ++ ys ++ [.non])) := upd_same
      have he3 : (upd H2 p (.lst (xs ++ ys ++ [.non]))) e = some (.lst (numsV En)) := by rw [upd_ne hep]; exact he2
      revert kb3 kt3 hp3 he3
      generalize upd H2 p (.lst (xs ++ ys ++ [.non])) = H3
      intro kb3 kt3 hp3 he3
      refine ⟨Nat.zero_le _, fun wl nwl => ?_⟩
      have s4 : Same H3 (upd H3 wl (.lst [])) := Same.new nwl
      have hwl4 : (upd H3 wl (.lst [])) wl = some (.lst []) := upd_same
      have hwp : wl ≠ p := fun z => by rw [z, hp3] at nwl; cases nwl
      have hwe : wl ≠ e := fun z => by rw [z, he3] at nwl; cases nwl
      have nwH : H wl = none := by
        cases hw : H wl with
        | none => rfl
        | some o =>
          have := kb3 _ _ hwp hw
          rw [nwl] at this
          cases this
      revert s4 hwl4
      generalize upd H3 wl (.lst []) = H4
      intro s4 hwl4
      have kt24 : KT H2 H4 := kt3.trans (KT.of s4)
      have hdv4 := DAt_kt kt24 d _ hdv2
      refine ⟨_, rfl, _, d, rfl, hdv4, fun ip ws H5 s5 hip hws => ?_⟩
      have hwl5 := Paired.length hws
      have kb5 : KB p H H5 := (kb3.trans (KB.of s4)).trans (KB.of s5)
      have kt25 : KT H2 H5 := kt24.trans (KT.of s5)
      have hp5 := s5 _ _ (s4 _ _ hp3)
      have he5 := s5 _ _ (s4 _ _ he3)
      have hw5 := s5 _ _ hwl4
      refine ⟨ip, rfl, ⟨_, hip⟩, for_tup (K := K) (a := ip) (xs := ws) (fun j σ H' => ∃ (x10 : Option V) (zs : List V), σ = [some (.ref q), some (.int (f : Nat)), some (.ref e), some (.ref p), some (.int (i : Nat)), some (.ref pd), some (.int (pt : Nat)), some (.int (af : Nat)), some (.int (bk : Nat)), some (.ref wl), x10] ∧ KB p H H' ∧ KT H5 H' ∧ H' e = some (.lst (numsV En)) ∧ H' wl = some (.lst (numsV (wayL (d.rows.take j) bk (pt + 1)))) ∧ H' p = some (.lst (xs ++ ys ++ [.non] ++ zs)) ∧ Paired (PlE K C H') zs (layL (d.rows.take j) bk (pt + 1))) ⟨_, [], rfl, kb5, KT.refl H5, he5, hw5, by rw [List.append_nil]; exact hp5, .nil⟩ ?_ ?_ ?_⟩
      · rintro j σ H6 _ ⟨x10, zs, rfl, kb6, kt6, he6, hw6, hp6, hzs⟩
        exact sqt_kt kt6 hip
      · rintro j v10 σ H6 hv10 ⟨x10, zs, rfl, kb6, kt6, he6, hw6, hp6, hzs⟩
        obtain ⟨r6, hr6, q6, rfl, hq6⟩ := paired_get hws hv10
        have hml := manyL_take d.rows j r6 hr6
        have hdl := deepL_mem d.rows r6 (List.mem_of_getElem? hr6)
        have hne : d.rows ≠ [] := fun z => by
          rw [z] at hr6
          cases hr6
        have hdr := deep_rows d hne
        have hjl := (List.getElem?_eq_some_iff.mp hv10).1
        have lzs : zs.length = manyL (d.rows.take j) := by rw [Paired.length hzs, layL_len]
        have lp6 : (xs ++ ys ++ [V.non] ++ zs).length = pt + 1 + manyL (d.rows.take j) := by
          rw [List.length_append, List.length_append, lxy, lzs]
          rfl
        obtain ⟨vs6, hsq6, hds6⟩ := hq6.kt kt6
        have l6 := DsAt.length r6 vs6 hds6
        refine ⟨_, rfl, .inl ⟨rfl, _, SqL.of hw6⟩, ?_⟩
        refine via (T := (tIf _ _ _) _ H6) (.int (((if r6.isEmpty then bk else pt + 1 + manyL (d.rows.take j) : Nat)) : Int)) H6 (fun R hR => ?_) ?_
        · refine ⟨_, rfl, !vs6.isEmpty, .inr (.inl ⟨vs6, hsq6, rfl⟩), ?_⟩
          cases r6 with
          | nil =>
            cases vs6 with
            | nil => exact iteF ⟨_, rfl, hR⟩
            | cons x y => cases l6
          | cons x y =>
            cases vs6 with
            | nil => cases l6
            | cons x' y' =>
              refine iteT ⟨_, rfl, p, _, rfl, .inl (SqL.of hp6), ?_⟩
              rw [lp6]
              exact hR
        obtain ⟨wn, hwn⟩ : ∃ wn, (if r6.isEmpty then bk else pt + 1 + manyL (d.rows.take j) : Nat) = wn := ⟨_, rfl⟩
        rw [hwn]
        have hrl : d.rows.length ≤ 2 := by
          cases d <;> simp [Dd.rows]
        refine ⟨wl, _, _, rfl, rfl, hw6, by rw [numsV_len, wayL_len, List.length_take]; omega, ?_⟩
        have kt7 : KT H6 (upd H6 wl (.lst (numsV (wayL (d.rows.take j) bk (pt + 1)) ++ [.int (wn : Nat)]))) := KT.lst hw6
        have e7 : numsV (wayL (d.rows.take j) bk (pt + 1)) ++ [.int (wn : Nat)] = numsV (wayL (d.rows.take (j + 1)) bk (pt + 1)) := by
          rw [take_snoc hr6, wayL_app, wayL_one, numsV_app, hwn]
          rfl
        rw [e7] at kt7 ⊢
        have hw7 : (upd H6 wl (.lst (numsV (wayL (d.rows.take (j + 1)) bk (pt + 1))))) wl = some (.lst (numsV (wayL (d.rows.take (j + 1)) bk (pt + 1)))) := upd_same
        have he7 : (upd H6 wl (.lst (numsV (wayL (d.rows.take (j + 1)) bk (pt + 1))))) e = some (.lst (numsV En)) := by rw [upd_ne (Ne.symm hwe)]; exact he6
        have hp7 : (upd H6 wl (.lst (numsV (wayL (d.rows.take (j + 1)) bk (pt + 1))))) p = some (.lst (xs ++ ys ++ [.non] ++ zs)) := by rw [upd_ne (Ne.symm hwp)]; exact hp6
        have kb7 : KB p H (upd H6 wl (.lst (numsV (wayL (d.rows.take (j + 1)) bk (pt + 1))))) := fun a o na ha => by
          rw [upd_ne (ne_of_none ha nwH)]
          exact kb6 _ _ na ha
        revert kt7 hw7 he7 hp7 kb7
        generalize upd H6 wl (.lst (numsV (wayL (d.rows.take (j + 1)) bk (pt + 1)))) = H7
        intro kt7 hw7 he7 hp7 kb7
        have hpre7 : Pre En (xs ++ ys ++ [V.non] ++ zs).length (endsR r6 (xs ++ ys ++ [V.non] ++ zs).length) := by
          rw [lp6]
          have h1 : Pre En (pt + 1) (endsL d.rows (pt + 1)) := by
            have := hpre2
            rw [ends_rows] at this
            exact Pre.right (a := [pt + d.many]) this
          obtain ⟨rest2, hen2⟩ := endsL_at d.rows (pt + 1) j r6 hr6
          rw [hen2] at h1
          have h2 := h1.right
          rw [endsL_len] at h2
          exact h2.left
        refine ⟨_, rfl, _, rfl, _, rfl, _, rfl, q6, e, p, bk, r6, En, _, rfl, (hq6.kt kt6).kt kt7, by omega, he7, hpre7, hp7, hep, by rw [lp6]; omega, fun H8 zs2 kb8 hp8 hzs2 => ?_⟩
        have kt8 : KT H7 H8 := kb8.kt hp7
        rw [lp6] at hzs2
        refine ⟨_, zs ++ zs2, rfl, kb7.trans kb8, (kt6.trans kt7).trans kt8, kb8 _ _ hep he7, kb8 _ _ hwp hw7, by rw [hp8, List.append_assoc (xs ++ ys ++ [V.non])], ?_⟩
        rw [take_snoc hr6, layL_app, layL_one]
        exact paired_app (pls_kt (kt7.trans kt8) hzs) hzs2
      · rintro σ H6 ⟨x10, zs, rfl, kb6, kt6, he6, hw6, hp6, hzs⟩
        rw [hwl5, List.take_length] at hw6 hzs
        have hpd6 := sqt_kt (kt25.trans kt6) hpd
        refine ⟨_, rfl, pd, _, 0, _, rfl, rfl, hpd6, at0 _ _, rfl, _, rfl, ?_⟩
        rw [kind_f]
        cases hF : d.isF with
        | true =>
          refine iteF ?_
          have ew : wayL d.rows bk (pt + 1) = d.ways af pt := by
            rw [Dd.ways, hbk, hF, if_pos rfl, List.append_nil]
          rw [ew] at hw6
          refine ⟨_, rfl, _, rfl, wl, _, rfl, .inl ⟨SqL.of hw6, fun wt nwt => ?_⟩⟩
          have s8 : Same H6 (upd H6 wt (.tup (numsV (d.ways af pt)))) := Same.new nwt
          have hwt8 : (upd H6 wt (.tup (numsV (d.ways af pt)))) wt = some (.tup (numsV (d.ways af pt))) := upd_same
          revert s8 hwt8
          generalize upd H6 wt (.tup (numsV (d.ways af pt))) = H8
          intro s8 hwt8
          refine ⟨by show 2 ≤ sizeLine; decide, fun tt ntt => ?_⟩
          have s9 : Same H8 (upd H8 tt (.tup [.ref pd, .ref wt])) := Same.new ntt
          have htt9 : (upd H8 tt (.tup [.ref pd, .ref wt])) tt = some (.tup [.ref pd, .ref wt]) := upd_same
          revert s9 htt9
          generalize upd H8 tt (.tup [.ref pd, .ref wt]) = H9
          intro s9 htt9
          have s79 := s8.trans s9
          have hp9 := s79 _ _ hp6
          have kt9 : KT H9 (upd H9 p (.lst ((xs ++ ys ++ [V.non] ++ zs).set pt (.ref tt)))) := KT.lst hp9
          refine ⟨_, rfl, _, rfl, p, _, _, pt, rfl, rfl, hp9, ixN_at _ _ (by rw [List.length_append, List.length_append, lxy]; simp only [List.length_cons]; omega), ?_⟩
          have es : (xs ++ ys ++ [V.non] ++ zs).set pt (.ref tt) = xs ++ (ys ++ (.ref tt :: zs)) := by
            rw [List.append_assoc (xs ++ ys), List.set_append_right _ _ (by rw [lxy]; exact Nat.le_refl _), lxy, Nat.sub_self, List.append_assoc]
            rfl
          have ktz : KT H2 (upd H9 p (.lst ((xs ++ ys ++ [V.non] ++ zs).set pt (.ref tt)))) := ((kt25.trans kt6).trans (KT.of s79)).trans kt9
          refine ⟨_, _, _, _, _, _, _, ys ++ (.ref tt :: zs), rfl, (kb6.trans (KB.of s79)).trans KB.set, by rw [upd_same, es], ?_⟩
          rw [lay_step r f xs.length i d hd, hpt, haf, lay_rows, hbk]
          refine paired_app (pls_kt ktz hys2) (.cons ⟨tt, wt, .ref pd, rfl, kt9 _ _ htt9 (fun _ e => nomatch e), kt9 _ _ (s9 _ _ hwt8) (fun _ e => nomatch e), DAt_kt ktz d _ hdv2⟩ (pls_kt ((KT.of s79).trans kt9) hzs))
        | false =>
          refine iteT ?_
          have hrl : d.rows.length ≤ 2 := by
            cases d <;> simp [Dd.rows]
          refine ⟨_, rfl, .inl ⟨rfl, _, SqL.of hw6⟩, _, rfl, wl, _, _, rfl, rfl, hw6, by rw [numsV_len, wayL_len]; omega, ?_⟩
          have ew : numsV (wayL d.rows bk (pt + 1)) ++ [.int (af : Nat)] = numsV (d.ways af pt) := by
            rw [Dd.ways, hbk, hF, if_neg Bool.false_ne_true, numsV_app]
            rfl
          rw [ew]
          have kt7 : KT H6 (upd H6 wl (.lst (numsV (d.ways af pt)))) := KT.lst hw6
          have hw7 : (upd H6 wl (.lst (numsV (d.ways af pt)))) wl = some (.lst (numsV (d.ways af pt))) := upd_same
          have hp7 : (upd H6 wl (.lst (numsV (d.ways af pt)))) p = some (.lst (xs ++ ys ++ [.non] ++ zs)) := by rw [upd_ne (Ne.symm hwp)]; exact hp6
          have kb7 : KB p H (upd H6 wl (.lst (numsV (d.ways af pt)))) := fun a o na ha => by
            rw [upd_ne (ne_of_none ha nwH)]
            exact kb6 _ _ na ha
          have hzs7 := pls_kt kt7 hzs
          revert kt7 hw7 hp7 kb7 hzs7
          generalize upd H6 wl (.lst (numsV (d.ways af pt))) = H7
          intro kt7 hw7 hp7 kb7 hzs7
          refine ⟨_, rfl, _, rfl, wl, _, rfl, .inl ⟨SqL.of hw7, fun wt nwt => ?_⟩⟩
          have s8 : Same H7 (upd H7 wt (.tup (numsV (d.ways af pt)))) := Same.new nwt
          have hwt8 : (upd H7 wt (.tup (numsV (d.ways af pt)))) wt = some (.tup (numsV (d.ways af pt))) := upd_same
          revert s8 hwt8
          generalize upd H7 wt (.tup (numsV (d.ways af pt))) = H8
          intro s8 hwt8
          refine ⟨by show 2 ≤ sizeLine; decide, fun tt ntt => ?_⟩
          have s9 : Same H8 (upd H8 tt (.tup [.ref pd, .ref wt])) := Same.new ntt
          have htt9 : (upd H8 tt (.tup [.ref pd, .ref wt])) tt = some (.tup [.ref pd, .ref wt]) := upd_same
          revert s9 htt9
          generalize upd H8 tt (.tup [.ref pd, .ref wt]) = H9
          intro s9 htt9
          have s79 := s8.trans s9
          have hp9 := s79 _ _ hp7
          have kt9 : KT H9 (upd H9 p (.lst ((xs ++ ys ++ [V.non] ++ zs).set pt (.ref tt)))) := KT.lst hp9
          refine ⟨_, rfl, _, rfl, p, _, _, pt, rfl, rfl, hp9, ixN_at _ _ (by rw [List.length_append, List.length_append, lxy]; simp only [List.length_cons]; omega), ?_⟩
          have es : (xs ++ ys ++ [V.non] ++ zs).set pt (.ref tt) = xs ++ (ys ++ (.ref tt :: zs)) := by
            rw [List.append_assoc (xs ++ ys), List.set_append_right _ _ (by rw [lxy]; exact Nat.le_refl _), lxy, Nat.sub_self, List.append_assoc]
            rfl
          have ktz : KT H2 (upd H9 p (.lst ((xs ++ ys ++ [V.non] ++ zs).set pt (.ref tt)))) := ((kt25.trans (kt6.trans kt7)).trans (KT.of s79)).trans kt9
          refine ⟨_, _, _, _, _, _, _, ys ++ (.ref tt :: zs), rfl, (kb7.trans (KB.of s79)).trans KB.set, by rw [upd_same, es], ?_⟩
          rw [lay_step r f xs.length i d hd, hpt, haf, lay_rows, hbk]
          refine paired_app (pls_kt ktz hys2) (.cons ⟨tt, wt, .ref pd, rfl, kt9 _ _ htt9 (fun _ e => nomatch e), kt9 _ _ (s9 _ _ hwt8) (fun _ e => nomatch e), DAt_kt ktz d _ hdv2⟩ (pls_kt ((KT.of s79).trans kt9) hzs7))
    · rintro σ H1 ⟨x4, x5, x6, x7, x8, x9, x10, ys, rfl, kb1, hp1, hys⟩
      rw [hlen, List.take_length, List.take_of_length_le (by rw [layR_len]; exact Nat.le_refl _)] at hys
      exact k H1 ys kb1 hp1 hys
end
end Js

set_option Elab.async false
set_option linter.all false
set_option maxRecDepth 100000
set_option maxHeartbeats 2000000
/-! == of deeds, of rows of deeds -/
namespace Js
open PySem L2
noncomputable instance : DecidableEq Dd := Classical.typeDecidableEq Dd
def kindN : Dd → Nat
  | .told _ _ => 0
  | .take false _ _ => 1
  | .take true _ _ => 2
  | .two false _ _ _ => 3
  | .two true _ _ _ => 4
  | .wh _ _ => 5
  | .iff _ _ _ => 6
def kindI (x : Str) : Nat := (["told", "first", "second", "pair", "same", "while", "if"] : List Str).findIdx (· == x)
theorem kind_ix : ∀ d : Dd, kindI (kindOf d) = kindN d
  | .told _ _ => (by decide +kernel : kindI "told" = 0)
  | .take false _ _ => (by decide +kernel : kindI "first" = 1)
  | .take true _ _ => (by decide +kernel : kindI "second" = 2)
  | .two false _ _ _ => (by decide +kernel : kindI "pair" = 3)
  | .two true _ _ _ => (by decide +kernel : kindI "same" = 4)
  | .wh _ _ => (by decide +kernel : kindI "while" = 5)
  | .iff _ _ _ => (by decide +kernel : kindI "if" = 6)
theorem kind_eq {d e : Dd} (h : kindOf d = kindOf e) : kindN d = kindN e := by rw [← kind_ix, ← kind_ix, h]
section
variable {X : Cx} {pins : List (Addr × Obj)} {σ : L2.St} {H : Hp} {s : Shared} {C : Addr}
theorem DAt_kind (I : Inv X pins σ H s) {d e : Dd} {v : V} (h : DAt X.K C H v d) (g : DAt X.K C H v e) : kindN d = kindN e := by
  obtain ⟨p, its, rfl, h1, _⟩ := shape d h
  obtain ⟨p', its', e', g1, _⟩ := shape e g
  cases e'
  have := I.tuple_inj h1 g1
  simp only [List.cons.injEq, V.str.injEq] at this
  exact kind_eq this.1
mutual
theorem DAt_inj (I : Inv X pins σ H s) : ∀ (d e : Dd) (v : V), DAt X.K C H v d → DAt X.K C H v e → d = e
  | .told a t, e, v, h, g => by
    have hk := DAt_kind I h g
    cases e with
    | told b u =>
      obtain ⟨p, x, rfl, h1, h2, h3, h4⟩ := h
      obtain ⟨p', x', e', g1, g2, g3, g4⟩ := g
      cases e'
      have := I.tuple_inj h1 g1
      simp only [List.cons.injEq, V.int.injEq, V.ref.injEq, and_true, true_and] at this
      obtain ⟨ea, rfl⟩ := this
      cases Int.ofNat.inj ea
      rw [h3.inj g3]
    | take s _ _ => cases s <;> cases hk
    | two s _ _ _ => cases s <;> cases hk
    | wh _ _ => cases hk
    | iff _ _ _ => cases hk
  | .take k a b, e, v, h, g => by
    have hk := DAt_kind I h g
    cases e with
    | take s a' b' =>
      obtain ⟨p, rfl, h1, h2, h3⟩ := h
      obtain ⟨p', e', g1, g2, g3⟩ := g
      cases e'
      have := I.tuple_inj h1 g1
      simp only [List.cons.injEq, V.int.injEq, and_true] at this
      obtain ⟨_, ea, eb⟩ := this
      cases Int.ofNat.inj ea
      cases Int.ofNat.inj eb
      have : k = s := by cases k <;> cases s <;> first | rfl | cases hk
      rw [this]
    | told _ _ => cases k <;> cases hk
    | two s _ _ _ => cases k <;> cases s <;> cases hk
    | wh _ _ => cases k <;> cases hk
    | iff _ _ _ => cases k <;> cases hk
  | .two k a b c, e, v, h, g => by
    have hk := DAt_kind I h g
    cases e with
    | two s a' b' c' =>
      obtain ⟨p, rfl, h1, h2, h3, h4⟩ := h
      obtain ⟨p', e', g1, g2, g3, g4⟩ := g
      cases e'
      have := I.tuple_inj h1 g1
      simp only [List.cons.injEq, V.int.injEq, and_true] at this
      obtain ⟨_, ea, eb, ec⟩ := this
      cases Int.ofNat.inj ea
      cases Int.ofNat.inj eb
      cases Int.ofNat.inj ec
      have : k = s := by cases k <;> cases s <;> first | rfl | cases hk
      rw [this]
    | told _ _ => cases k <;> cases hk
    | take s _ _ => cases k <;> cases s <;> cases hk
    | wh _ _ => cases k <;> cases hk
    | iff _ _ _ => cases k <;> cases hk
  | .wh a r, e, v, h, g => by
    have hk := DAt_kind I h g
    cases e with
    | wh a' r' =>
      obtain ⟨p, q, vs, rfl, h1, h2, h3, h4⟩ := h
      obtain ⟨p', q', vs', e', g1, g2, g3, g4⟩ := g
      cases e'
      have := I.tuple_inj h1 g1
      simp only [List.cons.injEq, V.int.injEq, V.ref.injEq, and_true, true_and] at this
      obtain ⟨ea, rfl⟩ := this
      cases Int.ofNat.inj ea
      cases I.tuple_inj h3 g3
      rw [DsAt_inj I r r' vs h4 g4]
    | told _ _ => cases hk
    | take s _ _ => cases s <;> cases hk
    | two s _ _ _ => cases s <;> cases hk
    | iff _ _ _ => cases hk
  | .iff a r o, e, v, h, g => by
    have hk := DAt_kind I h g
    cases e with
    | iff a' r' o' =>
      obtain ⟨p, q, vs, q2, vs2, rfl, h1, h2, h3, h4, h5, h6⟩ := h
      obtain ⟨p', q', vs', q2', vs2', e', g1, g2, g3, g4, g5, g6⟩ := g
      cases e'
      have := I.tuple_inj h1 g1
      simp only [List.cons.injEq, V.int.injEq, V.ref.injEq, and_true, true_and] at this
      obtain ⟨ea, rfl, rfl⟩ := this
      cases Int.ofNat.inj ea
      cases I.tuple_inj h3 g3
      cases I.tuple_inj h5 g5
      rw [DsAt_inj I r r' vs h4 g4, DsAt_inj I o o' vs2 h6 g6]
    | told _ _ => cases hk
    | take s _ _ => cases s <;> cases hk
    | two s _ _ _ => cases s <;> cases hk
    | wh _ _ => cases hk
theorem DsAt_inj (I : Inv X pins σ H s) : ∀ (r u : List Dd) (vs : List V), DsAt X.K C H vs r → DsAt X.K C H vs u → r = u
  | [], u, vs, h, g => by
    have e : vs = [] := h
    subst e
    cases u with
    | nil => rfl
    | cons d u =>
      obtain ⟨v, us, e, _⟩ := g
      cases e
  | d :: r, u, vs, h, g => by
    obtain ⟨v, us, rfl, h1, h2⟩ := h
    cases u with
    | nil => cases (show v :: us = [] from g)
    | cons e u =>
      obtain ⟨v', us', e', g1, g2⟩ := g
      cases e'
      rw [DAt_inj I d e v h1 g1, DsAt_inj I r u us h2 g2]
end
theorem RAt_inj (I : Inv X pins σ H s) {q : Addr} {r u : List Dd} (h : RAt X.K C H q r) (g : RAt X.K C H q u) : r = u := by
  obtain ⟨vs, h1, h2⟩ := h
  obtain ⟨us, g1, g2⟩ := g
  cases I.tuple_inj h1 g1
  exact DsAt_inj I r u vs h2 g2
end
/-! what == tells -/
/-- rows of fewer than n floors -/
def TRow (K : PySem.W.Frag) (C : Addr) (n : Nat) : Tells := fun x y b H => ∃ q q2 r u, x = .ref q ∧ y = .ref q2 ∧ RAt K C H q r ∧ RAt K C H q2 u ∧ deepR r < n ∧ deepR u < n ∧ b = decide (r = u)
def TDd (K : PySem.W.Frag) (C : Addr) (n : Nat) : Tells := fun x y b H => ∃ d e, DAt K C H x d ∧ DAt K C H y e ∧ d.deep ≤ n ∧ e.deep ≤ n ∧ b = decide (d = e)
/-- the parts of a deed -/
def TPart (K : PySem.W.Frag) (C : Addr) (n : Nat) : Tells := fun x y b H => (TFlat x y b H ∨ DTh C x y b H) ∨ TRow K C n x y b H
theorem TRow_mon {K : PySem.W.Frag} {C : Addr} {n : Nat} : MonT (TRow K C n) := fun x y r H H' s d => by
  obtain ⟨q, q2, a, u, e1, e2, h1, h2, h3, h4, e3⟩ := d
  exact ⟨q, q2, a, u, e1, e2, h1.same s, h2.same s, h3, h4, e3⟩
theorem TDd_mon {K : PySem.W.Frag} {C : Addr} {n : Nat} : MonT (TDd K C n) := fun x y r H H' s d => by
  obtain ⟨a, u, h1, h2, h3, h4, e3⟩ := d
  exact ⟨a, u, DAt_kt (KT.of s) _ _ h1, DAt_kt (KT.of s) _ _ h2, h3, h4, e3⟩
theorem DThM {C : Addr} : MonT (DTh C) := fun x y r H H' s d => by
  obtain ⟨a, b, t, u, e1, e2, ha, hb, hz, e3⟩ := d
  exact ⟨a, b, t, u, e1, e2, ha.same s, hb.same s, hz, e3⟩
theorem TPart_mon {K : PySem.W.Frag} {C : Addr} {n : Nat} : MonT (TPart K C n) := fun x y r H H' s d => by
  rcases d with (d | d) | d
  · exact .inl (.inl d)
  · exact .inl (.inr (DThM _ _ _ _ _ s d))
  · exact .inr (TRow_mon _ _ _ _ _ s d)
theorem eqT_thing {X : Cx} {C : Addr} (S : Spc X.prog X.w X.K X.mg X.base C "__eq__" 2 ["self", "other"] (spEqT C)) : EqT X 2 (DTh C) := by
  obtain ⟨f, fd, ow, F, hb⟩ := S
  refine eqT_own ow F hb (pass0) fun x y r H d => ?_
  obtain ⟨a, b, t, u, rfl, rfl, ha, hb', hz, rfl⟩ := d
  obtain ⟨dx, f1, g1, h1⟩ := ha.obj
  obtain ⟨dy, f2, g2, h2⟩ := hb'.obj
  refine ⟨a, b, dx, dy, _, _, rfl, rfl, h1, h2, fun e => ?_, a, b, t, u, rfl, ha, hb', hz, fun H' s => ⟨_, rfl, rfl, s⟩⟩
  subst e
  exact decide_eq_true (ha.inj hb')
theorem flat_i {H : Hp} (a b : Nat) : TFlat (.int (a : Nat)) (.int (b : Nat)) (decide (a = b)) H := ⟨rfl, rfl, by
  show (((a : Nat) : Int) == ((b : Nat) : Int)) = decide (a = b)
  by_cases h : a = b
  · subst h; simp
  · rw [decide_eq_false h]
    exact beq_eq_false_iff_ne.mpr (by omega)⟩
theorem flat_s {H : Hp} (a b : Str) : TFlat (.str a) (.str b) (decide (a = b)) H := ⟨rfl, rfl, by
  show (a == b) = decide (a = b)
  by_cases h : a = b
  · subst h; simp
  · rw [decide_eq_false h]
    exact beq_eq_false_iff_ne.mpr h⟩
theorem prs_nil {D : Tells} {H : Hp} : PrsT D [] [] [] H := ⟨rfl, fun i x y b h1 _ _ _ => by simp at h1⟩
theorem prs_cons {D : Tells} {H : Hp} {x y : V} {b : Bool} {xs ys : List V} {bs : List Bool} (h : D x y b H) (t : b = true → PrsT D xs ys bs H) (hl : bs.length = min xs.length ys.length) : PrsT D (x :: xs) (y :: ys) (b :: bs) H := by
  refine ⟨by rw [List.length_cons, List.length_cons, List.length_cons, hl]; omega, fun i u v c h1 h2 h3 h4 => ?_⟩
  cases i with
  | zero =>
    cases Option.some.inj h1
    cases Option.some.inj h2
    cases Option.some.inj h3
    exact h
  | succ i =>
    rw [List.take_succ_cons, List.all_cons] at h4
    have hb : b = true := by
      cases b
      · cases h4
      · rfl
    subst hb
    exact (t rfl).2 i u v c h1 h2 h3 (by simpa using h4)
theorem tells_cons (x y : V) (xs ys : List V) (b : Bool) (bs : List Bool) : tells (x :: xs) (y :: ys) (b :: bs) = (b && tells xs ys bs) := by
  unfold tells
  simp only [List.length_cons, List.all_cons, id, Nat.add_right_cancel_iff]
  cases b <;> simp
theorem tells_nil : tells [] [] [] = true := rfl
/-- unlike kinds: the first word tells -/
theorem prs_kind {K : PySem.W.Frag} {C : Addr} {n : Nat} {H : Hp} {a b : Str} {xs ys : List V} (h : a ≠ b) : PrsT (TPart K C n) (.str a :: xs) (.str b :: ys) (false :: List.replicate (min xs.length ys.length) false) H :=
  prs_cons (.inl (.inl (by rw [← decide_eq_false h]; exact flat_s a b))) (fun z => by cases z) (by rw [List.length_replicate])
theorem kind_ne {d e : Dd} (h : kindOf d ≠ kindOf e) : decide (d = e) = false := decide_eq_false fun z => h (by rw [z])
/-- two deeds that stand, part by part -/
theorem deeds_prs {K : PySem.W.Frag} {C : Addr} {n : Nat} {H : Hp} {x y : V} {d e : Dd} (h : DAt K C H x d) (g : DAt K C H y e) (hd : d.deep ≤ n) (he : e.deep ≤ n) :
    ∃ p q xs ys bs, x = .ref p ∧ y = .ref q ∧ SqT K H p xs ∧ SqT K H q ys ∧ PrsT (TPart K C n) xs ys bs H ∧ tells xs ys bs = decide (d = e) := by
  by_cases hk : kindOf d = kindOf e
  · have hn := kind_eq hk
    have fi : ∀ a b : Nat, TPart K C n (.int (a : Nat)) (.int (b : Nat)) (decide (a = b)) H := fun a b => .inl (.inl (flat_i a b))
    have fs : TPart K C n (.str (kindOf d)) (.str (kindOf e)) true H := .inl (.inl (by rw [hk]; have := flat_s (H := H) (kindOf e) (kindOf e); rwa [decide_eq_true rfl] at this))
    cases d with
    | told a t =>
      cases e with
      | told b u =>
        obtain ⟨p, x1, rfl, h1, h2, h3, h4⟩ := h
        obtain ⟨q, y1, rfl, g1, g2, g3, g4⟩ := g
        refine ⟨p, q, _, _, [true, decide (a = b), decide (t = u)], rfl, rfl, h1, g1, prs_cons fs (fun _ => prs_cons (fi a b) (fun _ => prs_cons (.inl (.inr ⟨x1, y1, t, u, rfl, rfl, h3, g3, h4, rfl⟩)) (fun _ => prs_nil) rfl) rfl) rfl, ?_⟩
        rw [tells_cons, tells_cons, tells_cons, tells_nil]
        by_cases e1 : a = b <;> by_cases e2 : t = u <;> simp [e1, e2]
      | take s _ _ => cases s <;> cases hn
      | two s _ _ _ => cases s <;> cases hn
      | wh _ _ => cases hn
      | iff _ _ _ => cases hn
    | take k a b =>
      cases e with
      | take s a' b' =>
        obtain ⟨p, rfl, h1, h2, h3⟩ := h
        obtain ⟨q, rfl, g1, g2, g3⟩ := g
        have eks : k = s := by cases k <;> cases s <;> first | rfl | cases hn
        subst eks
        refine ⟨p, q, _, _, [true, decide (a = a'), decide (b = b')], rfl, rfl, h1, g1, prs_cons fs (fun _ => prs_cons (fi a a') (fun _ => prs_cons (fi b b') (fun _ => prs_nil) rfl) rfl) rfl, ?_⟩
        rw [tells_cons, tells_cons, tells_cons, tells_nil]
        by_cases e1 : a = a' <;> by_cases e2 : b = b' <;> simp [e1, e2]
      | told _ _ => cases k <;> cases hn
      | two s _ _ _ => cases k <;> cases s <;> cases hn
      | wh _ _ => cases k <;> cases hn
      | iff _ _ _ => cases k <;> cases hn
    | two k a b c =>
      cases e with
      | two s a' b' c' =>
        obtain ⟨p, rfl, h1, h2, h3, h4⟩ := h
        obtain ⟨q, rfl, g1, g2, g3, g4⟩ := g
        have eks : k = s := by cases k <;> cases s <;> first | rfl | cases hn
        subst eks
        refine ⟨p, q, _, _, [true, decide (a = a'), decide (b = b'), decide (c = c')], rfl, rfl, h1, g1, prs_cons fs (fun _ => prs_cons (fi a a') (fun _ => prs_cons (fi b b') (fun _ => prs_cons (fi c c') (fun _ => prs_nil) rfl) rfl) rfl) rfl, ?_⟩
        rw [tells_cons, tells_cons, tells_cons, tells_cons, tells_nil]
        by_cases e1 : a = a' <;> by_cases e2 : b = b' <;> by_cases e3 : c = c' <;> simp [e1, e2, e3]
      | told _ _ => cases k <;> cases hn
      | take s _ _ => cases k <;> cases s <;> cases hn
      | wh _ _ => cases k <;> cases hn
      | iff _ _ _ => cases k <;> cases hn
    | wh a r =>
      cases e with
      | wh a' r' =>
        obtain ⟨p, q1, vs, rfl, h1, h2, h3, h4⟩ := h
        obtain ⟨q, q2, us, rfl, g1, g2, g3, g4⟩ := g
        rw [Dd.deep] at hd he
        refine ⟨p, q, _, _, [true, decide (a = a'), decide (r = r')], rfl, rfl, h1, g1, prs_cons fs (fun _ => prs_cons (fi a a') (fun _ => prs_cons (.inr ⟨q1, q2, r, r', rfl, rfl, ⟨vs, h3, h4⟩, ⟨us, g3, g4⟩, by omega, by omega, rfl⟩) (fun _ => prs_nil) rfl) rfl) rfl, ?_⟩
        rw [tells_cons, tells_cons, tells_cons, tells_nil]
        by_cases e1 : a = a' <;> by_cases e2 : r = r' <;> simp [e1, e2]
      | told _ _ => cases hn
      | take s _ _ => cases s <;> cases hn
      | two s _ _ _ => cases s <;> cases hn
      | iff _ _ _ => cases hn
    | iff a r o =>
      cases e with
      | iff a' r' o' =>
        obtain ⟨p, q1, vs, q3, vs3, rfl, h1, h2, h3, h4, h5, h6⟩ := h
        obtain ⟨q, q2, us, q4, us4, rfl, g1, g2, g3, g4, g5, g6⟩ := g
        rw [Dd.deep] at hd he
        refine ⟨p, q, _, _, [true, decide (a = a'), decide (r = r'), decide (o = o')], rfl, rfl, h1, g1, prs_cons fs (fun _ => prs_cons (fi a a') (fun _ => prs_cons (.inr ⟨q1, q2, r, r', rfl, rfl, ⟨vs, h3, h4⟩, ⟨us, g3, g4⟩, by omega, by omega, rfl⟩) (fun _ => prs_cons (.inr ⟨q3, q4, o, o', rfl, rfl, ⟨vs3, h5, h6⟩, ⟨us4, g5, g6⟩, by omega, by omega, rfl⟩) (fun _ => prs_nil) rfl) rfl) rfl) rfl, ?_⟩
        rw [tells_cons, tells_cons, tells_cons, tells_cons, tells_nil]
        by_cases e1 : a = a' <;> by_cases e2 : r = r' <;> by_cases e3 : o = o' <;> simp [e1, e2, e3]
      | told _ _ => cases hn
      | take s _ _ => cases s <;> cases hn
      | two s _ _ _ => cases s <;> cases hn
      | wh _ _ => cases hn
  · obtain ⟨p, xs, rfl, h1, _⟩ := shape d h
    obtain ⟨q, ys, rfl, g1, _⟩ := shape e g
    refine ⟨p, q, _, _, _, rfl, rfl, h1, g1, prs_kind hk, ?_⟩
    rw [tells_cons, kind_ne hk]
    rfl
theorem rows_prs {K : PySem.W.Frag} {C : Addr} {n : Nat} {H : Hp} : ∀ (r u : List Dd) (xs ys : List V), DsAt K C H xs r → DsAt K C H ys u → deepR r ≤ n → deepR u ≤ n → ∃ bs, PrsT (TDd K C n) xs ys bs H ∧ tells xs ys bs = decide (r = u)
  | [], [], xs, ys, h, g, _, _ => by
    have e1 : xs = [] := h
    have e2 : ys = [] := g
    subst e1 e2
    exact ⟨[], prs_nil, by rw [tells_nil, decide_eq_true rfl]⟩
  | [], e :: u, xs, ys, h, g, _, _ => by
    have e1 : xs = [] := h
    obtain ⟨v, us, rfl, _⟩ := g
    subst e1
    exact ⟨[], ⟨by simp, fun i x y b h1 _ _ _ => by simp at h1⟩, by rw [decide_eq_false (by simp)]; rfl⟩
  | d :: r, [], xs, ys, h, g, _, _ => by
    have e2 : ys = [] := g
    obtain ⟨v, us, rfl, _⟩ := h
    subst e2
    exact ⟨[], ⟨by simp, fun i x y b _ h2 _ _ => by simp at h2⟩, by rw [decide_eq_false (by simp)]; rfl⟩
  | d :: r, e :: u, xs, ys, h, g, hr, hu => by
    obtain ⟨v, vs, rfl, h1, h2⟩ := h
    obtain ⟨v', us, rfl, g1, g2⟩ := g
    rw [deepR] at hr hu
    have m1 := Nat.le_max_left d.deep (deepR r)
    have m2 := Nat.le_max_right d.deep (deepR r)
    have m3 := Nat.le_max_left e.deep (deepR u)
    have m4 := Nat.le_max_right e.deep (deepR u)
    obtain ⟨bs, p, t⟩ := rows_prs (n := n) r u vs us h2 g2 (by omega) (by omega)
    refine ⟨decide (d = e) :: bs, prs_cons ⟨d, e, h1, g1, by omega, by omega, rfl⟩ (fun _ => p) p.1, ?_⟩
    rw [tells_cons, t]
    by_cases e1 : d = e <;> by_cases e2 : r = u <;> simp [e1, e2]
section
variable {X : Cx} {C : Addr}
/-- == of rows, of deeds, of their parts -/
theorem eqT_rows (S : Spc X.prog X.w X.K X.mg X.base C "__eq__" 2 ["self", "other"] (spEqT C)) : ∀ n, EqT X (2 * n + 2) (TRow X.K C n) ∧ RcT X .Eq id (2 * n + 2) (TRow X.K C n) ∧ RcT X .NotEq not (2 * n + 2) (TRow X.K C n) := by
  intro n
  induction n with
  | zero =>
    refine ⟨fun A pins s σ H x y u v r sb I rx ry d => ?_, fun A pins s σ H x y u v r sb I rx ry d => ?_, fun A pins s σ H x y u v r sb I rx ry d => ?_⟩ <;>
    · obtain ⟨q, q2, a, b, _, _, _, _, h, _⟩ := d
      exact absurd h (Nat.not_lt_zero _)
  | succ n ih =>
    have hp : EqT X (2 * n + 2) (TPart X.K C n) := ((eqT_flat.mono (Nat.zero_le _)).or ((eqT_thing S).mono (by omega))).or ih.1
    have hd1 : EqT X (2 * n + 3) (TDd X.K C n) := by
      refine EqT.imp (D := fun x y b H => TTup X.K (TPart X.K C n) x y b H ∧ TDd X.K C n x y b H) ?_ (fun x y b H d => ?_)
      · refine RcT.eqT (fun A pins s σ H x y u v r sb I rx ry d => rcT_tup_eq TPart_mon hp A pins s σ H x y u v r sb I rx ry d.1) (fun x y r H d => ?_) fun pins s σ H x r I d => ?_
        · obtain ⟨a, b, _, _, _, hx, hy, _⟩ := d.1
          exact ⟨a, b, hx, hy⟩
        · obtain ⟨_, d, e, h1, h2, _, _, rfl⟩ := d
          exact decide_eq_true (DAt_inj I d e x h1 h2)
      · obtain ⟨d', e, h, g, hd, he, rfl⟩ := id d
        obtain ⟨p, q, xs, ys, bs, ex, ey, h1, h2, h3, h4⟩ := deeds_prs h g hd he
        exact ⟨⟨p, q, xs, ys, bs, ex, ey, h1, h2, h3, h4.symm⟩, d⟩
    have tt : ∀ x y b H, TRow X.K C (n + 1) x y b H → TTup X.K (TDd X.K C n) x y b H := by
      intro x y b H d
      obtain ⟨q, q2, r, u, ex, ey, ⟨vs, h1, h2⟩, ⟨us, g1, g2⟩, h3, h4, rfl⟩ := d
      obtain ⟨bs, p, t⟩ := rows_prs r u vs us h2 g2 (Nat.lt_succ_iff.mp h3) (Nat.lt_succ_iff.mp h4)
      exact ⟨q, q2, vs, us, bs, ex, ey, h1, g1, p, t.symm⟩
    have r1 : RcT X .Eq id (2 * (n + 1) + 2) (TRow X.K C (n + 1)) := fun A pins s σ H x y u v r sb I rx ry d => rcT_tup_eq TDd_mon hd1 A pins s σ H x y u v r sb I rx ry (tt _ _ _ _ d)
    have r2 : RcT X .NotEq not (2 * (n + 1) + 2) (TRow X.K C (n + 1)) := fun A pins s σ H x y u v r sb I rx ry d => rcT_tup_ne TDd_mon hd1 A pins s σ H x y u v r sb I rx ry (tt _ _ _ _ d)
    refine ⟨RcT.eqT r1 (fun x y r H d => ?_) fun pins s σ H x r I d => ?_, r1, r2⟩
    · obtain ⟨q, q2, _, _, ex, ey, _⟩ := d
      exact ⟨q, q2, ex, ey⟩
    · obtain ⟨q, q2, a, b, ex, ey, h1, h2, _, _, rfl⟩ := d
      cases ex
      cases ey
      exact decide_eq_true (RAt_inj I h1 h2)
end
end Js

set_option Elab.async false
set_option linter.all false
set_option maxRecDepth 100000
set_option maxHeartbeats 2000000
namespace Js
open PySem L2
abbrev sPInit : Stmt := inClass (top 19) 0
abbrev sPLen : Stmt := inClass (top 19) 2
abbrev sPEq : Stmt := inClass (top 19) 3
theorem n_dp : ¬ (("deeds" : Str) = "plan") := by decide +kernel
theorem n_pd : ¬ (("plan" : Str) = "deeds") := by decide +kernel
def pf (q pl : Addr) : List (Str × V) := putF "plan" (.ref pl) (putF "deeds" (.ref q) [])
theorem pf_deeds (q pl : Addr) : (pf q pl).lookup ("deeds" : Str) = some (.ref q) := by
  unfold pf
  rw [lookup_putF, if_neg n_dp, lookup_putF, if_pos rfl]
theorem pf_plan (q pl : Addr) : (pf q pl).lookup ("plan" : Str) = some (.ref pl) := by
  unfold pf
  rw [lookup_putF, if_pos rfl]
/-- tuples and things stay -/
structure Fr (H H' : Hp) : Prop where
  t : ∀ a xs, H a = some (.tup xs) → H' a = some (.tup xs)
  z : ∀ a o xs, H a = some (.frz o (.tup xs)) → H' a = some (.frz o (.tup xs))
  i : ∀ a C dx f s n, H a = some (.ins C dx (tf f s n)) → H' a = some (.ins C dx (tf f s n))
theorem Fr.kb {H H' : Hp} {p D dx : Addr} (hp : H p = some (.ins D dx [])) (k : KB p H H') : Fr H H' :=
  ⟨fun a xs h => k _ _ (fun z => by rw [z, hp] at h; cases h) h, fun a o xs h => k _ _ (fun z => by rw [z, hp] at h; cases h) h, fun a C dx f s n h => k _ _ (fun z => by
    rw [z, hp] at h
    have e := Option.some.inj h
    injection e with _ _ e3
    have := tf_size f s n
    rw [← e3] at this
    cases this) h⟩
theorem Th.fr {C : Addr} {H H' : Hp} (k : Fr H H') {a : Addr} {t : Tr} (h : Th C H a t) : Th C H' a t := by
  induction h with
  | nil h => exact .nil (k.i _ _ _ _ _ _ h)
  | pr h _ _ ih1 ih2 => exact .pr (k.i _ _ _ _ _ _ h) ih1 ih2
theorem sqt_fr {K : PySem.W.Frag} {H H' : Hp} (k : Fr H H') {a : Addr} {xs : List V} (h : SqT K H a xs) : SqT K H' a xs :=
  h.elim (fun h => .inl (h.elim (fun h => .inl (k.t _ _ h)) fun ⟨o, h⟩ => .inr ⟨o, k.z _ _ _ h⟩)) fun h => .inr h
mutual
theorem DAt_fr {K : PySem.W.Frag} {C : Addr} {H H' : Hp} (k : Fr H H') : ∀ (d : Dd) (v : V), DAt K C H v d → DAt K C H' v d
  | .told a t, v, h => by
    obtain ⟨p, x, e, h1, h2, h3, h4⟩ := h
    exact ⟨p, x, e, sqt_fr k h1, h2, h3.fr k, h4⟩
  | .take s a b, v, h => by
    obtain ⟨p, e, h1, h2⟩ := h
    exact ⟨p, e, sqt_fr k h1, h2⟩
  | .two s a b c, v, h => by
    obtain ⟨p, e, h1, h2⟩ := h
    exact ⟨p, e, sqt_fr k h1, h2⟩
  | .wh a r, v, h => by
    obtain ⟨p, q, vs, e, h1, h2, h3, h4⟩ := h
    exact ⟨p, q, vs, e, sqt_fr k h1, h2, sqt_fr k h3, DsAt_fr k r vs h4⟩
  | .iff a r o, v, h => by
    obtain ⟨p, q, vs, q2, vs2, e, h1, h2, h3, h4, h5, h6⟩ := h
    exact ⟨p, q, vs, q2, vs2, e, sqt_fr k h1, h2, sqt_fr k h3, DsAt_fr k r vs h4, sqt_fr k h5, DsAt_fr k o vs2 h6⟩
theorem DsAt_fr {K : PySem.W.Frag} {C : Addr} {H H' : Hp} (k : Fr H H') : ∀ (r : List Dd) (vs : List V), DsAt K C H vs r → DsAt K C H' vs r
  | [], vs, h => h
  | d :: r, vs, h => by
    obtain ⟨v, us, e, h1, h2⟩ := h
    exact ⟨v, us, e, DAt_fr k d v h1, DsAt_fr k r us h2⟩
end
theorem RAt.fr {K : PySem.W.Frag} {C : Addr} {H H' : Hp} (k : Fr H H') {q : Addr} {r : List Dd} (h : RAt K C H q r) : RAt K C H' q r := by
  obtain ⟨vs, h1, h2⟩ := h
  exact ⟨vs, sqt_fr k h1, DsAt_fr k r vs h2⟩
theorem pls_fr {K : PySem.W.Frag} {C : Addr} {H H' : Hp} (k : Fr H H') : ∀ {ys : List V} {ps : List (Dd × List Nat)}, Paired (PlE K C H) ys ps → Paired (PlE K C H') ys ps
  | _, _, .nil => .nil
  | _, _, .cons ⟨t, wv, dv, e, h1, h2, h3⟩ u => .cons ⟨t, wv, dv, e, k.t _ _ h1, k.t _ _ h2, DAt_fr k _ _ h3⟩ (pls_fr k u)
/-- what the text says of Program -/
structure TxtP (K : PySem.W.Frag) (mg : Str → Option Value) (CP : Addr) : Prop where
  cl : Cls K CP
  nD : NoAttr K CP "deeds"
  nP : NoAttr K CP "plan"
  mgP : mg "Program" = some (.ref CP)
  ca : PySem.W.findIn K (.ref CP) "__class__" = some (some (.builtin "object.__class__"))
  cn : PySem.W.specialIn K (.builtin "object.__class__") "__get__" = some (some (.builtin "getset_descriptor.__get__"))
  ct : PySem.W.takesIn K (.builtin "object.__class__") = some true
  cm : PySem.W.mroIn K CP (.type "object") = some true
  ne : PySem.W.findIn K (.ref CP) "__ne__" = some (some (.builtin "object.__ne__"))
/-- a program stands at a -/
structure PgAt (K : PySem.W.Frag) (C CP : Addr) (H : Hp) (a : Addr) (r : List Dd) : Prop where
  ex : ∃ dx q pl ys, H a = some (.ins CP dx (pf q pl)) ∧ RAt K C H q r ∧ H pl = some (.tup ys) ∧ Paired (PlE K C H) ys (layR r (manyR r) 0)
  dp : deepR r ≤ 8
  mn : manyR r ≤ 4000
theorem PgAt.kt {K : PySem.W.Frag} {C CP : Addr} {H H' : Hp} (k : KT H H') {a : Addr} {r : List Dd} (h : PgAt K C CP H a r) : PgAt K C CP H' a r := by
  obtain ⟨dx, q, pl, ys, h1, h2, h3, h4⟩ := h.ex
  exact ⟨⟨dx, q, pl, ys, k _ _ h1 (fun _ e => nomatch e), h2.kt k, k _ _ h3 (fun _ e => nomatch e), pls_kt k h4⟩, h.dp, h.mn⟩
theorem PgAt.same {K : PySem.W.Frag} {C CP : Addr} {H H' : Hp} (s : Same H H') {a : Addr} {r : List Dd} (h : PgAt K C CP H a r) : PgAt K C CP H' a r := h.kt (KT.of s)
def spPInit (K : PySem.W.Frag) (C CP : Addr) : Sp := fun vs H Q _ => ∃ (p dx q : Addr) (r : List Dd), vs = [.ref p, .ref q] ∧ H p = some (.ins CP dx []) ∧ RAt K C H q r ∧ deepR r ≤ 8 ∧ manyR r ≤ 4000 ∧
  ∀ pl ys H', KB p H H' → H' p = some (.ins CP dx (pf q pl)) → H' pl = some (.tup ys) → RAt K C H' q r → Paired (PlE K C H') ys (layR r (manyR r) 0) → Q .non H'
def spPLen (K : PySem.W.Frag) (C CP : Addr) : Sp := fun vs H Q _ => ∃ a r, vs = [.ref a] ∧ PgAt K C CP H a r ∧ Q (.int ((manyR r : Nat) : Int)) H
def spPEq (K : PySem.W.Frag) (C CP : Addr) : Sp := fun vs H Q _ => ∃ a b r u, vs = [.ref a, .ref b] ∧ PgAt K C CP H a r ∧ PgAt K C CP H b u ∧ ∀ H', Same H H' → Q (.bl (decide (r = u))) H'
section
variable {P : Program} {w : World} {K : PySem.W.Frag} {mg : Str → Option Value} {base : Heap} {C CP : Addr}
theorem scPI : FnScope ["self", "deeds", "ends", "plan"] ["self", "deeds"] (defScope sPInit) := ⟨rfl, rfl, rfl, by decide +kernel, rfl, by decide +kernel, by decide +kernel⟩
theorem ok_pinit {f : Addr} {fd : FuncData} (F : Fun K "__init__" "Program.__init__" sPInit f fd) (B : Blt mg) (T : Txt K mg C) (G : FrmC K w mg) (TP : TxtP K mg CP) (DL : Def P w K mg base "look_through" 13 ["row", "floors", "ends"] (spLook K C 9)) (DY : Def P w K mg base "lay_out" 11 ["row", "behind", "ends", "plan"] (spLay K C 9)) : FnOk P w K mg base CX0 14 f fd ["self", "deeds"] (spPInit K C CP) := by
  refine F.ok scPI (fun vs H Q E h => ?_) (fun cdv A outer s H vs Q E hr h => ?_)
  · obtain ⟨p, dx, q, r, rfl, _⟩ := h
    rfl
  · obtain ⟨p, dx, q, r, rfl, hp, hq, hd, hm, k⟩ := h
    have hr11 : Room 11 _ := hr.mono (by decide)
    refine ⟨_, PSs.nox (pss_cons (ps_if (pt_not (pt_val (pe_callB (r := rIsi K) call_isi (by rfl) T.isi PyProof.Rows.boot_isinstance (pa_cons (pv 1) (pa_cons (pe_bltn (v := .ty "tuple") rfl G.mt PyProof.Rows.boot_tuple rfl) pa_nil))))) (pss_one ps_never) pss_nil) (pss_cons (ps_set (i := 2) scPI.nd rfl (Or.inl rfl) (pe_lst pa_nil)) (pss_cons (ps_expr (pe_def DL hr rfl (pa_cons (pv 1) (pa_cons pe_int (pa_cons (pv 2) pa_nil))))) (pss_cons (ps_set (i := 3) scPI.nd rfl (Or.inl rfl) (pe_lst pa_nil)) (pss_cons (ps_expr (pe_def DY hr11 rfl (pa_cons (pv 1) (pa_cons (pe_callB call_len_seq (by rfl) B.len PySem.boot_len (pa_cons (pv 2) pa_nil)) (pa_cons (pv 2) (pa_cons (pv 3) pa_nil)))))) (pss_cons (ps_fld (pv 0) (pv 1) rfl) (pss_one (ps_fld (pv 0) (pe_callTy call_tuple_of (by rfl) G.mt PyProof.Rows.boot_tuple (pa_cons (pv 3) pa_nil)) rfl)))))))), ?_⟩
    have hsl := line4
    obtain ⟨vs, hqv, hvs⟩ := id hq
    refine ⟨_, rfl, _, _, _, _, true, rfl, .ty "tuple", sqt_ty hqv, G.tt, _, rfl, iteF ?_⟩
    refine ⟨Nat.zero_le _, fun e ne => ?_⟩
    have s1 : Same H (upd H e (.lst [])) := Same.new ne
    have he1 : (upd H e (.lst [])) e = some (.lst (numsV [])) := upd_same
    revert s1 he1
    generalize upd H e (.lst []) = H1
    intro s1 he1
    refine ⟨_, rfl, _, rfl, q, e, 0, r, [], rfl, hq.same s1, by omega, by omega, he1, by simpa using hm, fun H2 kb2 he2 => ?_⟩
    rw [List.nil_append] at he2
    have kt2 : KT H1 H2 := kb2.kt he1
    have hep : e ≠ p := fun z => by rw [z, hp] at ne; cases ne
    refine ⟨Nat.zero_le _, fun pn npn => ?_⟩
    have s3 : Same H2 (upd H2 pn (.lst [])) := Same.new npn
    have hpn3 : (upd H2 pn (.lst [])) pn = some (.lst []) := upd_same
    have hpe : e ≠ pn := fun z => by rw [← z, he2] at npn; cases npn
    have hpp : pn ≠ p := fun z => by
      have : H2 p = some (.ins CP dx []) := kb2 _ _ (Ne.symm hep) (s1 _ _ hp)
      rw [z, this] at npn
      cases npn
    revert s3 hpn3
    generalize upd H2 pn (.lst []) = H3
    intro s3 hpn3
    have he3 := s3 _ _ he2
    have hq3 : RAt K C H3 q r := ((hq.same s1).kt kt2).same s3
    refine ⟨_, rfl, _, rfl, e, _, rfl, .inl (SqL.of he3), ?_⟩
    rw [numsV_len, endsR_len]
    refine ⟨_, rfl, _, rfl, q, e, pn, manyR r, r, endsR r 0, [], rfl, hq3, by omega, he3, Pre.whole _, hpn3, hpe, by simpa using hm, fun H4 ys kb4 hp4 hys => ?_⟩
    rw [List.nil_append] at hp4
    have kt4 : KT H3 H4 := kb4.kt hpn3
    have hpz : H4 p = some (.ins CP dx []) := kb4 _ _ (Ne.symm hpp) (s3 _ _ (kb2 _ _ (Ne.symm hep) (s1 _ _ hp)))
    refine ⟨_, rfl, _, rfl, p, CP, dx, [], rfl, hpz, TP.cl, TP.nD, (by show 0 < 1000; decide), ?_⟩
    have hp5 : (upd H4 p (.ins CP dx (putF "deeds" (.ref q) []))) pn = some (.lst ys) := by rw [upd_ne hpp]; exact hp4
    refine ⟨_, rfl, pn, _, rfl, .inl ⟨SqL.of hp5, fun pl npl => ?_⟩⟩
    have hplp : pl ≠ p := fun z => by rw [z, upd_same] at npl; cases npl
    refine ⟨_, rfl, p, CP, dx, _, rfl, by rw [upd_ne (Ne.symm hplp)]; exact upd_same, TP.cl, TP.nP, Nat.lt_of_le_of_lt (length_putF _ _ _) (by show 0 + 1 < 1000; decide), ?_⟩
    have kbz : KB p H4 (upd (upd (upd H4 p (.ins CP dx (putF "deeds" (.ref q) []))) pl (.tup ys)) p (.ins CP dx (pf q pl))) := fun a o na ha => by
      have npl4 : H4 pl = none := by
        rw [upd_ne hplp] at npl
        exact npl
      rw [upd_ne na, upd_ne (ne_of_none ha npl4), upd_ne na]
      exact ha
    have kbH : KB p H H4 := fun a o na ha => by
      have nae : a ≠ e := ne_of_none ha ne
      have h2 := kb2 _ _ nae (s1 _ _ ha)
      have nan : a ≠ pn := ne_of_none h2 npn
      exact kb4 _ _ nan (s3 _ _ h2)
    have fr := Fr.kb hpz kbz
    refine k pl ys _ (kbH.trans kbz) ?_ ?_ ((hq3.kt kt4).fr fr) (pls_fr fr hys)
    · exact upd_same
    · rw [upd_ne hplp, upd_same]
theorem scPL : FnScope ["self"] ["self"] (defScope sPLen) := ⟨rfl, rfl, rfl, by decide +kernel, rfl, by decide +kernel, by decide +kernel⟩
theorem ok_plen {f : Addr} {fd : FuncData} (F : Fun K "__len__" "Program.__len__" sPLen f fd) (B : Blt mg) (TP : TxtP K mg CP) : FnOk P w K mg base CX0 1 f fd ["self"] (spPLen K C CP) := by
  refine F.ok scPL (fun vs H Q E h => ?_) (fun cdv A outer s H vs Q E hr h => ?_)
  · obtain ⟨a, r, rfl, _⟩ := h
    rfl
  · obtain ⟨a, r, rfl, ha, k⟩ := h
    refine ⟨_, pss_one (ps_ret (pe_callB call_len_seq (by rfl) B.len PySem.boot_len (pa_cons (pe_fld (pv 0) rfl) pa_nil))), ?_⟩
    obtain ⟨dx, q, pl, ys, h1, h2, h3, h4⟩ := ha.ex
    refine ⟨_, rfl, _, _, _, _, _, rfl, h1, TP.cl, TP.nP, pf_plan _ _, pl, ys, rfl, .inr (SqT.of h3), ?_⟩
    rw [Paired.length h4, layR_len]
    exact k
theorem scPE : FnScope ["self", "other"] ["self", "other"] (defScope sPEq) := ⟨rfl, rfl, rfl, by decide +kernel, rfl, by decide +kernel, by decide +kernel⟩
theorem ok_peq {f : Addr} {fd : FuncData} (F : Fun K "__eq__" "Program.__eq__" sPEq f fd) (T : Txt K mg C) (TP : TxtP K mg CP) (SE : Spc P w K mg base C "__eq__" 2 ["self", "other"] (spEqT C)) : FnOk P w K mg base CX0 21 f fd ["self", "other"] (spPEq K C CP) := by
  refine F.ok scPE (fun vs H Q E h => ?_) (fun cdv A outer s H vs Q E hr h => ?_)
  · obtain ⟨a, b, r, u, rfl, _⟩ := h
    rfl
  · obtain ⟨a, b, r, u, rfl, ha, hb, k⟩ := h
    refine ⟨_, pss_one (ps_ret (pe_and (pe_callB (r := rIsi K) call_isi (by rfl) T.isi PyProof.Rows.boot_isinstance (pa_cons (pv 1) (pa_cons (pe_glob (v := .ref CP) rfl TP.mgP rfl) pa_nil))) (pe_one (pe_cmpR (op_eqTl (eqT_rows SE 9).2.1 hr) (pe_fld (pv 0) rfl) (pe_fld (pv 1) rfl) (nomark _))))), ?_⟩
    obtain ⟨dx, q, pl, ys, h1, h2, h3, h4⟩ := ha.ex
    obtain ⟨dy, q2, pl2, ys2, g1, g2, g3, g4⟩ := hb.ex
    have d1 := ha.dp
    have d2 := hb.dp
    refine ⟨_, rfl, _, _, _, _, true, rfl, ClsV.own CP, .base (.ins g1 TP.cl TP.ca TP.cn TP.ct TP.cm), kit_self _ _, _, rfl, iteT ?_⟩
    exact ⟨_, rfl, _, _, _, _, _, rfl, h1, TP.cl, TP.nD, pf_deeds _ _, _, rfl, _, _, _, _, _, rfl, g1, TP.cl, TP.nD, pf_deeds _ _, decide (r = u), ⟨q, q2, r, u, rfl, rfl, h2, g2, by omega, by omega, rfl⟩, fun H' s' => k H' s'⟩
end
/-! making a program -/
structure MakerP (P : Program) (w : World) (K : PySem.W.Frag) (mg : Str → Option Value) (base : Heap) (C CP fI : Addr) (fdI : FuncData) : Prop where
  M : Mk K CP fI
  G : FnOk P w K mg base CX0 14 fI fdI ["self", "deeds"] (spPInit K C CP)
  mgP : mg "Program" = some (.ref CP)
  b : Binds K fdI ["self", "deeds"] []
def tP (K : PySem.W.Frag) (C CP : Addr) (t : TA) : TE := fun σ H Q => t σ H fun vs H1 => ∃ q r, vs = [.ref q] ∧ RAt K C H1 q r ∧ deepR r ≤ 8 ∧ manyR r ≤ 4000 ∧ ∀ z H', Same H1 H' → H1 z = none → PgAt K C CP H' z r → Q (.ref z) H'
theorem mk_pg {K : PySem.W.Frag} {C CP q : Addr} {H : Hp} {r : List Dd} {Q : VK} {E : XK} (hq : RAt K C H q r) (hd : deepR r ≤ 8) (hm : manyR r ≤ 4000) (k : ∀ z H', Same H H' → H z = none → PgAt K C CP H' z r → Q (.ref z) H') :
    ∀ x dx, H x = none → H dx = none → dx ≠ x → spPInit K C CP (.ref x :: ([.ref q] ++ [])) (upd (upd H dx (.own x)) x (.ins CP dx [])) (fun v H3 => v = .non ∧ Q (.ref x) H3) E := by
  intro x dx nx ndx ne
  have s0 : Same H (upd (upd H dx (.own x)) x (.ins CP dx [])) := fun b o e => by
    rw [upd_ne (ne_of_none e nx), upd_ne (ne_of_none e ndx)]
    exact e
  refine ⟨x, dx, q, r, rfl, upd_same, hq.same s0, hd, hm, fun pl ys H' kb h1 h2 h3 h4 => ⟨rfl, k x H' (fun b o e => kb _ _ (ne_of_none e nx) (s0 _ _ e)) nx ⟨⟨dx, q, pl, ys, h1, h3, h2, h4⟩, hd, hm⟩⟩⟩
section
open PyProof.Rows
variable {X : Cx} {C CP fI : Addr} {fdI : FuncData} {p pos : Pos} {e : Expr} {es : List Expr} {t : TA}
theorem pe_P (mk : MakerP X.prog X.w X.K X.mg X.base C CP fI fdI) (hr : Room 15 X.A) (hg : Gl X "Program") (ha : PA X (e :: es) t)
    (he : starEach (e :: es) X.env = (false, eval e X.env) :: starEach es X.env := by rfl) (hpl : (backTo pos (starEach es X.env)).any (·.1) = false := by rfl) : PE X (.Call (.Name "Program" p) (e :: es) [] pos) (tP X.K C CP t) := by
  refine ⟨fun pins s σ H Q I h => ?_⟩
  refine wpAny_Call_Name_kw (ld_glob I hg mk.mgP ?_ (by decide))
  refine PySem.W.callWith_K (h₀ := X.base) I.ok.mod.kin mk.M.kp (thn (ha.run pos pins s σ H _ I h) fun us s1 ⟨vs, H1, I1, r, q⟩ => ⟨I1.kIn, ?_⟩) he hpl
  obtain ⟨q, r', rfl, h1, h2, hz, k⟩ := q
  exact run_make mk.M mk.G hr mk.b .nil pass0 I1 r (mk_pg h1 h2 hz k)
end
end Js

set_option Elab.async false
set_option linter.all false
set_option maxRecDepth 100000
set_option maxHeartbeats 2000000
namespace Js
open PySem L2
abbrev sNamesIn : Stmt := top 23
/-- the names of a deed, in their order -/
def Dd.names : Dd → List Nat
  | .told a _ => [a]
  | .take _ a b => [a, b]
  | .two _ a b c => [a, b, c]
  | .wh a _ => [a]
  | .iff a _ _ => [a]
def namesV (ns : List Nat) : List V := ns.map fun a => V.int ((a : Nat) : Int)
theorem cn (s : Str) (cs : List Nat) (h : s.cps = cs.toArray) : PySem.Txt.count s "n" = ((cs.count 110 : Nat) : Int) := by
  rw [show s = tx cs from by cases s; simp only [tx]; exact congrArg _ h, c_n, count_tx]
theorem cut1n (x : V) (its : List V) (n : Nat) (hn : n ≤ its.length) : cutV (x :: its) (some 1) (some (1 + (n : Int))) = its.take n := by
  have e : HT.sIx (its.length + 1) 0 (some 1) = 1 := by
    show min 1 (its.length + 1) = 1
    omega
  have e2 : HT.sIx (its.length + 1) (its.length + 1) (some (1 + (n : Int))) = n + 1 := by
    have : (1 + (n : Int)) = ((n + 1 : Nat) : Int) := by omega
    rw [this]
    show min (n + 1) (its.length + 1) = n + 1
    omega
  unfold cutV
  rw [List.length_cons, e, e2, List.drop_succ_cons, List.drop_zero, Nat.add_sub_cancel]
/-- the names stand behind the kind -/
theorem names_look {K : PySem.W.Frag} {C : Addr} {H : Hp} {v : V} : ∀ (d : Dd), DAt K C H v d → ∃ p its n, v = .ref p ∧ SqT K H p (.str (kindOf d) :: its) ∧ PySem.Txt.count (formOf d) "n" = ((n : Nat) : Int) ∧ n ≤ its.length ∧ its.take n = namesV d.names ∧ its.length ≤ 3 ∧ 1 ≤ n ∧ n < its.length + 1 ∧ (∀ a ∈ d.names, a < 10)
  | .told a t, h => by
    obtain ⟨p, x, e, h1, h2, h3, h4⟩ := h
    exact ⟨p, _, 1, e, h1, by rw [formOf, cn _ [110, 116] cps_nt]; rfl, by simp, rfl, by simp, by simp, by simp, by simp [Dd.names]; omega⟩
  | .take s a b, h => by
    obtain ⟨p, e, h1, h2, h3⟩ := h
    exact ⟨p, _, 2, e, h1, by rw [formOf, cn _ [110, 110] cps_nn]; rfl, by simp, rfl, by simp, by simp, by simp, by simp [Dd.names]; omega⟩
  | .two s a b c, h => by
    obtain ⟨p, e, h1, h2, h3, h4⟩ := h
    exact ⟨p, _, 3, e, h1, by rw [formOf, cn _ [110, 110, 110] cps_nnn]; rfl, by simp, rfl, by simp, by simp, by simp, by simp [Dd.names]; omega⟩
  | .wh a r, h => by
    obtain ⟨p, q, vs, e, h1, h2, h3, h4⟩ := h
    exact ⟨p, _, 1, e, h1, by rw [formOf, cn _ [110, 114] cps_nr]; rfl, by simp, rfl, by simp, by simp, by simp, by simp [Dd.names]; omega⟩
  | .iff a r o, h => by
    obtain ⟨p, q, vs, q2, vs2, e, h1, h2, h3, h4, h5, h6⟩ := h
    exact ⟨p, _, 1, e, h1, by rw [formOf, cn _ [110, 114, 114] cps_nrr]; rfl, by simp, rfl, by simp, by simp, by simp, by simp [Dd.names]; omega⟩
def spNamesIn (K : PySem.W.Frag) (C : Addr) : Sp := fun vs H Q _ => ∃ v d, vs = [v] ∧ DAt K C H v d ∧ ∀ p H', Same H H' → SqT K H' p (namesV d.names) → Q (.ref p) H'
section
variable {P : Program} {w : World} {K : PySem.W.Frag} {mg : Str → Option Value} {base : Heap} {C : Addr}
theorem scNI : FnScope ["deed"] ["deed"] (defScope sNamesIn) := ⟨rfl, rfl, rfl, by decide +kernel, rfl, by decide +kernel, by decide +kernel⟩
theorem ok_namesIn {f : Addr} {fd : FuncData} (F : Fun K "names_in" "names_in" sNamesIn f fd) (G : FrmC K w mg) : FnOk P w K mg base CX0 1 f fd ["deed"] (spNamesIn K C) := by
  obtain ⟨dF, es, n, mF, kd, hk⟩ := G.ex
  refine F.ok scNI (fun vs H Q E h => ?_) (fun cdv A outer s H vs Q E hr h => ?_)
  · obtain ⟨v, d, rfl, _⟩ := h
    rfl
  · obtain ⟨v, d, rfl, hd, k⟩ := h
    refine ⟨_, pss_one (ps_ret (pe_slice sl_tup (pv 0) (po_some pe_int) (po_some (pe_op op_add pe_int (pe_m1 PySem.F.slot_str_count PySem.F.type_str_count mt_count (pe_ix (r := rIxD K w) ix_kdict (pe_glob (v := .ref dF) rfl mF rfl) (pe_ix (r := rIxT K) ix_tup (pv 0) pe_int (fun _ _ => rfl)) (fun _ _ => rfl)) pe_str))))), ?_⟩
    obtain ⟨p, its, m, rfl, hp, hc, hm, hn, hl3, hm1, hm2, _⟩ := names_look d hd
    obtain ⟨tk, hk⟩ := hk _ (form_in d)
    have hsl := line4
    refine ⟨_, rfl, _, rfl, _, rfl, p, _, 0, _, rfl, rfl, hp, at0 _ _, dF, _, .str (formOf d), rfl, rfl, ⟨es, n, _, kd.at_, kd.lit, hk, ⟨_, rfl⟩⟩, ?_⟩
    refine ⟨⟨_, rfl⟩, _, _, rfl, rfl, ?_⟩
    rw [hc]
    refine ⟨_, _, rfl, rfl, _, rfl, p, _, rfl, hp, ?_, fun q nq => ?_⟩
    · rintro ⟨h0, _⟩
      have e : HT.sIx (its.length + 1) 0 (some 1) = 1 := by
        show min 1 (its.length + 1) = 1
        omega
      rw [List.length_cons, e] at h0
      cases h0
    rw [cut1n _ _ _ hm, hn]
    exact k q _ (Same.new nq) (SqT.of upd_same)
end
end Js

set_option Elab.async false
set_option linter.all false
set_option maxRecDepth 100000
set_option maxHeartbeats 2000000
namespace Js
open PySem L2
/-- what stands in a deed behind its first name -/
inductive Pc where
  | nm (b : Nat)
  | th (t : Tr)
  | rw (r : List Dd)
def Dd.nm1 : Dd → Nat
  | .told a _ => a
  | .take _ a _ => a
  | .two _ a _ _ => a
  | .wh a _ => a
  | .iff a _ _ => a
def Dd.pcs : Dd → List Pc
  | .told _ t => [.th t]
  | .take _ _ b => [.nm b]
  | .two _ _ b c => [.nm b, .nm c]
  | .wh _ r => [.rw r]
  | .iff _ r o => [.rw r, .rw o]
def PcAt (K : PySem.W.Frag) (C : Addr) (H : Hp) (v : V) : Pc → Prop
  | .nm b => b < 10 ∧ v = .int (b : Nat)
  | .th t => t.size ≤ 4000 ∧ ∃ a, v = .ref a ∧ Th C H a t
  | .rw r => ∃ q, v = .ref q ∧ RAt K C H q r
theorem PcAt.kt {K : PySem.W.Frag} {C : Addr} {H H' : Hp} (k : KT H H') {v : V} : ∀ {x : Pc}, PcAt K C H v x → PcAt K C H' v x
  | .nm _, h => h
  | .th _, ⟨z, a, e, h⟩ => ⟨z, a, e, h.kt k⟩
  | .rw _, ⟨q, e, h⟩ => ⟨q, e, h.kt k⟩
theorem pcs_kt {K : PySem.W.Frag} {C : Addr} {H H' : Hp} (k : KT H H') : ∀ {vs : List V} {xs : List Pc}, Paired (PcAt K C H) vs xs → Paired (PcAt K C H') vs xs
  | _, _, .nil => .nil
  | _, _, .cons h t => .cons (h.kt k) (pcs_kt k t)
theorem DAt_split {K : PySem.W.Frag} {C : Addr} {H : Hp} {v : V} : ∀ (d : Dd), DAt K C H v d → ∃ p its, v = .ref p ∧ SqT K H p (.str (kindOf d) :: .int ((d.nm1 : Nat) : Int) :: its) ∧ d.nm1 < 10 ∧ Paired (PcAt K C H) its d.pcs ∧ its ≠ []
  | .told a t, h => by
    obtain ⟨p, x, e, h1, h2, h3, h4⟩ := h
    exact ⟨p, _, e, h1, h2, .cons ⟨h4, x, rfl, h3⟩ .nil, by simp⟩
  | .take s a b, h => by
    obtain ⟨p, e, h1, h2, h3⟩ := h
    exact ⟨p, _, e, h1, h2, .cons ⟨h3, rfl⟩ .nil, by simp⟩
  | .two s a b c, h => by
    obtain ⟨p, e, h1, h2, h3, h4⟩ := h
    exact ⟨p, _, e, h1, h2, .cons ⟨h3, rfl⟩ (.cons ⟨h4, rfl⟩ .nil), by simp⟩
  | .wh a r, h => by
    obtain ⟨p, q, vs, e, h1, h2, h3, h4⟩ := h
    exact ⟨p, _, e, h1, h2, .cons ⟨q, rfl, vs, h3, h4⟩ .nil, by simp⟩
  | .iff a r o, h => by
    obtain ⟨p, q, vs, q2, vs2, e, h1, h2, h3, h4, h5, h6⟩ := h
    exact ⟨p, _, e, h1, h2, .cons ⟨q, rfl, vs, h3, h4⟩ (.cons ⟨q2, rfl, vs2, h5, h6⟩ .nil), by simp⟩
theorem paired1 {α β : Type} {R : α → β → Prop} {xs : List α} {y : β} (h : Paired R xs [y]) : ∃ x, xs = [x] ∧ R x y := by
  cases h with
  | cons h t =>
    cases t
    exact ⟨_, rfl, h⟩
theorem paired2 {α β : Type} {R : α → β → Prop} {xs : List α} {y z : β} (h : Paired R xs [y, z]) : ∃ x x', xs = [x, x'] ∧ R x y ∧ R x' z := by
  cases h with
  | cons h t =>
    obtain ⟨x', rfl, h'⟩ := paired1 t
    exact ⟨_, x', rfl, h, h'⟩
theorem DAt_join {K : PySem.W.Frag} {C : Addr} {H : Hp} {p : Addr} {its : List V} : ∀ (d : Dd), SqT K H p (.str (kindOf d) :: .int ((d.nm1 : Nat) : Int) :: its) → d.nm1 < 10 → Paired (PcAt K C H) its d.pcs → DAt K C H (.ref p) d
  | .told a t, h1, h2, h => by
    obtain ⟨x, rfl, h4, x1, rfl, h3⟩ := paired1 h
    exact ⟨p, x1, rfl, h1, h2, h3, h4⟩
  | .take s a b, h1, h2, h => by
    obtain ⟨x, rfl, h3, rfl⟩ := paired1 h
    exact ⟨p, rfl, h1, h2, h3⟩
  | .two s a b c, h1, h2, h => by
    obtain ⟨x, x', rfl, ⟨h3, rfl⟩, h4, rfl⟩ := paired2 h
    exact ⟨p, rfl, h1, h2, h3, h4⟩
  | .wh a r, h1, h2, h => by
    obtain ⟨x, rfl, q, rfl, vs, h3, h4⟩ := paired1 h
    exact ⟨p, q, vs, rfl, h1, h2, h3, h4⟩
  | .iff a r o, h1, h2, h => by
    obtain ⟨x, x', rfl, ⟨q, rfl, vs, h3, h4⟩, q2, rfl, vs2, h5, h6⟩ := paired2 h
    exact ⟨p, q, vs, q2, vs2, rfl, h1, h2, h3, h4, h5, h6⟩
def Pc.deep : Pc → Nat
  | .rw r => deepR r + 1
  | _ => 0
theorem pcs_deep : ∀ (d : Dd) (x : Pc), x ∈ d.pcs → x.deep ≤ d.deep
  | .told a t, x, h => by simp [Dd.pcs] at h; subst h; exact Nat.zero_le _
  | .take s a b, x, h => by simp [Dd.pcs] at h; subst h; exact Nat.zero_le _
  | .two s a b c, x, h => by
    simp [Dd.pcs] at h
    rcases h with rfl | rfl <;> exact Nat.zero_le _
  | .wh a r, x, h => by
    simp [Dd.pcs] at h
    subst h
    rw [Pc.deep, Dd.deep]
    exact Nat.le_refl _
  | .iff a r o, x, h => by
    simp [Dd.pcs] at h
    rw [Dd.deep]
    rcases h with rfl | rfl
    · rw [Pc.deep]; have := Nat.le_max_left (deepR r) (deepR o); omega
    · rw [Pc.deep]; have := Nat.le_max_right (deepR r) (deepR o); omega
theorem pcs_len (d : Dd) : d.pcs.length ≤ 2 := by cases d <;> simp [Dd.pcs]
end Js

set_option Elab.async false
set_option linter.all false
set_option maxRecDepth 100000
set_option maxHeartbeats 2000000
namespace Js
open PySem L2
/-! the machine: where a run stands, and what comes of it -/
def nmA (ns : List Tr) (a : Nat) : Tr := ns.getD a .nil
def yesT : Tr := .pr .nil .nil
def Dd.look : Dd → Bool
  | .wh _ _ => true
  | .iff _ _ _ => true
  | _ => false
/-- what a deed that is no look makes -/
def Dd.made (ns : List Tr) : Dd → Tr
  | .told _ t => t
  | .take false _ b => (nmA ns b).head
  | .take true _ b => (nmA ns b).tail
  | .two false _ b c => .pr (nmA ns b) (nmA ns c)
  | .two true _ b c => if nmA ns b = nmA ns c then yesT else .nil
  | _ => .nil
/-- whether a pair would be too great -/
def Dd.grt (ns : List Tr) : Dd → Bool
  | .two false _ b c => decide (4000 < 1 + (nmA ns b).size + (nmA ns c).size)
  | _ => false
abbrev Pt := Dd × List Nat
def stepP (x : Pt) (ns : List Tr) : Nat := if x.1.look then (if 0 < (nmA ns x.1.nm1).size then x.2.getD 0 0 else x.2.getD 1 0) else x.2.getD 0 0
def stepN (x : Pt) (ns : List Tr) : List Tr := if x.1.look then ns else ns.set x.1.nm1 (x.1.made ns)
inductive Wd where
  | ended
  | opn
  | great
  deriving DecidableEq
def runM (pl : List Pt) : Nat → Nat → List Tr → Nat → Wd × Nat × Tr
  | 0, pt, ns, st => match pl[pt]? with
    | none => (.ended, st, nmA ns 0)
    | some _ => (.opn, st, .nil)
  | b + 1, pt, ns, st => match pl[pt]? with
    | none => (.ended, st, nmA ns 0)
    | some x => if x.1.grt ns then (.great, st, .nil) else runM pl b (stepP x ns) (stepN x ns) (st + 1)
theorem runM_end {pl : List Pt} {b pt st : Nat} {ns : List Tr} (h : pl[pt]? = none) : runM pl b pt ns st = (.ended, st, nmA ns 0) := by
  cases b <;> (rw [runM, h])
theorem runM_open {pl : List Pt} {pt st : Nat} {ns : List Tr} {x : Pt} (h : pl[pt]? = some x) : runM pl 0 pt ns st = (.opn, st, .nil) := by
  rw [runM, h]
theorem runM_great {pl : List Pt} {b pt st : Nat} {ns : List Tr} {x : Pt} (h : pl[pt]? = some x) (g : x.1.grt ns = true) : runM pl (b + 1) pt ns st = (.great, st, .nil) := by
  rw [runM, h]
  exact if_pos g
theorem runM_step {pl : List Pt} {b pt st : Nat} {ns : List Tr} {x : Pt} (h : pl[pt]? = some x) (g : x.1.grt ns = false) : runM pl (b + 1) pt ns st = runM pl b (stepP x ns) (stepN x ns) (st + 1) := by
  rw [runM, h]
  exact if_neg (by rw [g]; exact Bool.false_ne_true)
/-! where the deeds lead -/
theorem look_grt (d : Dd) (ns : List Tr) (h : d.look = true) : d.grt ns = false := by
  cases d <;> first | rfl | cases h
mutual
theorem lay_ways : ∀ (d : Dd) (f n : Nat) (x : Pt), x ∈ d.lay f n → x.2.length = (if x.1.look then 2 else 1) ∧ ∀ w ∈ x.2, w ≤ max f (n + d.many)
  | .told a t, f, n, x, h => by
    rw [Dd.lay, List.mem_singleton] at h
    subst h
    exact ⟨rfl, fun w hw => by rw [List.mem_singleton] at hw; subst hw; exact Nat.le_max_left _ _⟩
  | .take s a b, f, n, x, h => by
    rw [Dd.lay, List.mem_singleton] at h
    subst h
    exact ⟨rfl, fun w hw => by rw [List.mem_singleton] at hw; subst hw; exact Nat.le_max_left _ _⟩
  | .two s a b c, f, n, x, h => by
    rw [Dd.lay, List.mem_singleton] at h
    subst h
    exact ⟨rfl, fun w hw => by rw [List.mem_singleton] at hw; subst hw; exact Nat.le_max_left _ _⟩
  | .wh a r, f, n, x, h => by
    rw [Dd.lay] at h
    rcases List.mem_cons.mp h with rfl | h
    · refine ⟨rfl, fun w hw => ?_⟩
      rw [many_wh]
      simp only [List.mem_cons, List.not_mem_nil, or_false] at hw
      rcases hw with rfl | rfl
      · split <;> omega
      · omega
    · obtain ⟨h1, h2⟩ := layR_ways r n (n + 1) x h
      refine ⟨h1, fun w hw => ?_⟩
      have := h2 w hw
      rw [many_wh]
      omega
  | .iff a r o, f, n, x, h => by
    rw [Dd.lay] at h
    rcases List.mem_cons.mp h with rfl | h
    · refine ⟨rfl, fun w hw => ?_⟩
      rw [many_iff]
      simp only [List.mem_cons, List.not_mem_nil, or_false] at hw
      rcases hw with rfl | rfl
      · split <;> omega
      · split <;> omega
    · rcases List.mem_append.mp h with h | h
      · obtain ⟨h1, h2⟩ := layR_ways r f (n + 1) x h
        refine ⟨h1, fun w hw => ?_⟩
        have := h2 w hw
        rw [many_iff]
        omega
      · obtain ⟨h1, h2⟩ := layR_ways o f (n + 1 + manyR r) x h
        refine ⟨h1, fun w hw => ?_⟩
        have := h2 w hw
        rw [many_iff]
        omega
theorem layR_ways : ∀ (r : List Dd) (f n : Nat) (x : Pt), x ∈ layR r f n → x.2.length = (if x.1.look then 2 else 1) ∧ ∀ w ∈ x.2, w ≤ max f (n + manyR r)
  | [], f, n, x, h => by rw [layR] at h; cases h
  | d :: r, f, n, x, h => by
    rw [layR] at h
    rcases List.mem_append.mp h with h | h
    · obtain ⟨h1, h2⟩ := lay_ways d _ n x h
      refine ⟨h1, fun w hw => ?_⟩
      have := h2 w hw
      rw [many_cons]
      split at this <;> omega
    · obtain ⟨h1, h2⟩ := layR_ways r f _ x h
      refine ⟨h1, fun w hw => ?_⟩
      have := h2 w hw
      rw [many_cons]
      omega
end
/-- the plan of a program -/
def planR (r : List Dd) : List Pt := layR r (manyR r) 0
theorem planR_len (r : List Dd) : (planR r).length = manyR r := layR_len _ _ _
theorem plan_ways {r : List Dd} {pt : Nat} {x : Pt} (h : (planR r)[pt]? = some x) : x.2.length = (if x.1.look then 2 else 1) ∧ ∀ w ∈ x.2, w ≤ manyR r := by
  obtain ⟨h1, h2⟩ := layR_ways r (manyR r) 0 x (List.mem_of_getElem? h)
  exact ⟨h1, fun w hw => by have := h2 w hw; omega⟩
theorem getD_le {ws : List Nat} {m : Nat} (h : ∀ w ∈ ws, w ≤ m) (i : Nat) : ws.getD i 0 ≤ m := by
  rw [List.getD_eq_getElem?_getD]
  cases e : ws[i]? with
  | none => exact Nat.zero_le _
  | some w => exact h w (List.mem_of_getElem? e)
theorem stepP_le {r : List Dd} {pt : Nat} {x : Pt} (h : (planR r)[pt]? = some x) (ns : List Tr) : stepP x ns ≤ manyR r := by
  obtain ⟨_, h2⟩ := plan_ways h
  unfold stepP
  split
  · split
    · exact getD_le h2 0
    · exact getD_le h2 1
  · exact getD_le h2 0
/-! sizes -/
def NsOk (ns : List Tr) : Prop := ns.length = 10 ∧ ∀ t ∈ ns, t.size ≤ 4000
theorem nmA_le {ns : List Tr} (h : NsOk ns) (a : Nat) : (nmA ns a).size ≤ 4000 := by
  unfold nmA
  rw [List.getD_eq_getElem?_getD]
  cases e : ns[a]? with
  | none => exact Nat.zero_le _
  | some t => exact h.2 t (List.mem_of_getElem? e)
theorem nmA_at {ns : List Tr} (h : NsOk ns) {a : Nat} (ha : a < 10) : ns[a]? = some (nmA ns a) := by
  unfold nmA
  rw [List.getD_eq_getElem?_getD, List.getElem?_eq_getElem (by rw [h.1]; exact ha)]
  rfl
theorem made_le {ns : List Tr} (h : NsOk ns) (d : Dd) (ht : ∀ a t, d = .told a t → t.size ≤ 4000) (g : d.grt ns = false) : (d.made ns).size ≤ 4000 := by
  cases d with
  | told a t => exact ht a t rfl
  | take s a b =>
    have hb := nmA_le h b
    cases s with
    | false =>
      show ((nmA ns b).head).size ≤ 4000
      cases e : nmA ns b with
      | nil => exact Nat.zero_le _
      | pr l r => rw [e] at hb; simp only [Tr.size] at hb; simp only [Tr.head]; omega
    | true =>
      show ((nmA ns b).tail).size ≤ 4000
      cases e : nmA ns b with
      | nil => exact Nat.zero_le _
      | pr l r => rw [e] at hb; simp only [Tr.size] at hb; simp only [Tr.tail]; omega
  | two s a b c =>
    cases s with
    | false =>
      have := of_decide_eq_false g
      show (Tr.pr (nmA ns b) (nmA ns c)).size ≤ 4000
      simp only [Tr.size]
      omega
    | true =>
      show (if nmA ns b = nmA ns c then yesT else Tr.nil).size ≤ 4000
      split <;> simp [yesT, Tr.size]
  | wh a r => exact Nat.zero_le _
  | iff a r o => exact Nat.zero_le _
theorem stepN_ok {ns : List Tr} (h : NsOk ns) {x : Pt} (ht : ∀ a t, x.1 = .told a t → t.size ≤ 4000) (g : x.1.grt ns = false) : NsOk (stepN x ns) := by
  unfold stepN
  split
  · exact h
  · refine ⟨by rw [List.length_set]; exact h.1, fun t hm => ?_⟩
    rcases List.mem_or_eq_of_mem_set hm with hm | rfl
    · exact h.2 t hm
    · exact made_le h x.1 ht g
end Js

set_option Elab.async false
set_option linter.all false
set_option maxRecDepth 100000
set_option maxHeartbeats 2000000
namespace Js
open PySem L2
open PySem.Spec PyProof.Rows
abbrev sCutA : Stmt := top 38
abbrev sSame3 : Stmt := top 43
abbrev sWaysT : Stmt := top 41
abbrev sCutsM : Stmt := top 42
/-! cut things: anything, nil, a pair -/
inductive Cu where
  | any
  | nil
  | pr (a b : Cu)
def Cu.d : Cu → PyData
  | .any => .none
  | .nil => .tuple []
  | .pr a b => .tuple [a.d, b.d]
def Cu.dep : Cu → Nat
  | .any => 0
  | .nil => 1
  | .pr a b => max a.dep b.dep + 1
def cutC : Nat → Tr → Cu
  | 0, _ => .any
  | _ + 1, .nil => .nil
  | n + 1, .pr l r => .pr (cutC n l) (cutC n r)
theorem cutC_d : ∀ (n : Nat) (t : Tr), (cutC n t).d = cutD n t
  | 0, .nil => rfl
  | 0, .pr _ _ => rfl
  | _ + 1, .nil => rfl
  | n + 1, .pr l r => by rw [cutC, Cu.d, cutC_d n l, cutC_d n r, cutD]
theorem cutC_dep : ∀ (n : Nat) (t : Tr), (cutC n t).dep ≤ n
  | 0, .nil => Nat.le_refl _
  | 0, .pr _ _ => Nat.le_refl _
  | n + 1, .nil => by rw [cutC, Cu.dep]; omega
  | n + 1, .pr l r => by
    have h1 := cutC_dep n l
    have h2 := cutC_dep n r
    rw [cutC, Cu.dep]
    omega
/-- cut again -/
def dwn : Nat → Cu → Cu
  | 0, _ => .any
  | _ + 1, .any => .any
  | _ + 1, .nil => .nil
  | n + 1, .pr a b => .pr (dwn n a) (dwn n b)
theorem dwn_dep : ∀ (n : Nat) (c : Cu), (dwn n c).dep ≤ n
  | 0, .any => Nat.le_refl _
  | 0, .nil => Nat.le_refl _
  | 0, .pr _ _ => Nat.le_refl _
  | n + 1, .any => Nat.zero_le _
  | n + 1, .nil => by rw [dwn, Cu.dep]; omega
  | n + 1, .pr a b => by
    have h1 := dwn_dep n a
    have h2 := dwn_dep n b
    rw [dwn, Cu.dep]
    omega
/-- whether what two were cut of is surely the same -/
def same3 : Cu → Cu → Option Bool
  | .any, _ => none
  | .nil, .any => none
  | .nil, .nil => some true
  | .nil, .pr _ _ => some false
  | .pr _ _, .any => none
  | .pr _ _, .nil => some false
  | .pr a b, .pr c d => match same3 a c, same3 b d with
    | some false, _ => some false
    | _, some false => some false
    | none, _ => none
    | _, none => none
    | some true, some true => some true
def obV : Option Bool → V
  | none => .non
  | some b => .bl b
theorem Cu.shaped (c : Cu) (h : c.dep ≤ 60) : SeqAt.shaped c.d = true := by
  have lay : ∀ c : Cu, c.d.canLay0 = true := by
    intro c
    induction c with
    | any => rfl
    | nil => rfl
    | pr a b ha hb => simp only [Cu.d, PyData.canLay0, PyData.canLayAll0, ha, hb, Bool.and_self]
  have dep : ∀ c : Cu, c.d.depth ≤ c.dep := by
    intro c
    induction c with
    | any => simp [Cu.d, PyData.depth, Cu.dep]
    | nil => simp [Cu.d, PyData.depth, PyData.depthAll, Cu.dep]
    | pr a b ha hb =>
      simp only [Cu.d, PyData.depth, PyData.depthAll, Cu.dep]
      omega
  have h2 := dep c
  show (c.d.canLay0 && decide (c.d.depth ≤ 64)) = true
  rw [Bool.and_eq_true]
  exact ⟨lay c, decide_eq_true (by omega)⟩
theorem nil_shaped : SeqAt.shaped (.tuple []) = true := by decide
theorem Cu.eqv (c : Cu) : PyData.eqv c.d c.d = true := by
  induction c with
  | any => rfl
  | nil => rfl
  | pr a b ha hb => simp only [Cu.d, PyData.eqv, PyData.eqvAll, ha, hb, Bool.and_self]
/-- a cut thing stands at v -/
def CuAt (K : PySem.W.Frag) (H : Hp) (v : V) (c : Cu) : Prop := Dp K H v c.d
theorem CuAt.kt {K : PySem.W.Frag} {H H' : Hp} (k : KT H H') : ∀ {c : Cu} {v : V}, CuAt K H v c → CuAt K H' v c
  | .any, v, h => by
    cases h
    exact .non
  | .nil, v, h => by
    cases h with
    | tup h1 h2 =>
      cases h2
      exact .tup (sqt_kt k h1) .nil
  | .pr a b, v, h => by
    cases h with
    | tup h1 h2 =>
      cases h2 with
      | cons h3 h4 =>
        cases h4 with
        | cons h5 h6 =>
          cases h6
          exact .tup (sqt_kt k h1) (.cons (CuAt.kt k (c := a) h3) (.cons (CuAt.kt k (c := b) h5) .nil))
theorem CuAt.same {K : PySem.W.Frag} {H H' : Hp} (s : Same H H') {c : Cu} {v : V} (h : CuAt K H v c) : CuAt K H' v c := h.kt (KT.of s)
theorem CuAt.of_any {K : PySem.W.Frag} {H : Hp} {v : V} (h : CuAt K H v .any) : v = .non := by
  cases h
  rfl
theorem CuAt.of_nil {K : PySem.W.Frag} {H : Hp} {v : V} (h : CuAt K H v .nil) : ∃ a, v = .ref a ∧ SqT K H a [] := by
  cases h with
  | tup h1 h2 =>
    cases h2
    exact ⟨_, rfl, h1⟩
theorem CuAt.of_pr {K : PySem.W.Frag} {H : Hp} {v : V} {x y : Cu} (h : CuAt K H v (.pr x y)) : ∃ a u1 u2, v = .ref a ∧ SqT K H a [u1, u2] ∧ CuAt K H u1 x ∧ CuAt K H u2 y := by
  cases h with
  | tup h1 h2 =>
    cases h2 with
    | cons h3 h4 =>
      cases h4 with
      | cons h5 h6 =>
        cases h6
        exact ⟨_, _, _, rfl, h1, h3, h5⟩
theorem at1c (x y : V) (xs : List V) : atI (x :: y :: xs) 1 = some y := by
  have h : atI (x :: y :: xs) ((1 : Nat) : Int) = some y := atI_nat rfl
  exact h
def spCutA (K : PySem.W.Frag) (n : Nat) : Sp := fun vs H Q _ => ∃ (v : V) (c : Cu) (d : Nat), vs = [v, .int (d : Nat)] ∧ CuAt K H v c ∧ c.dep ≤ 60 ∧ d < n ∧ ∀ v' H', Same H H' → CuAt K H' v' (dwn d c) → Q v' H'
def spSame3 (K : PySem.W.Frag) (n : Nat) : Sp := fun vs H Q _ => ∃ (v u : V) (c e : Cu), vs = [v, u] ∧ CuAt K H v c ∧ CuAt K H u e ∧ c.dep ≤ 60 ∧ e.dep ≤ 60 ∧ c.dep < n ∧ ∀ H', Same H H' → Q (obV (same3 c e)) H'
def waysC : Cu → Nat → Nat → List Nat
  | .any, x, y => [x, y]
  | .nil, _, y => [y]
  | .pr _ _, x, _ => [x]
def spWaysT (K : PySem.W.Frag) : Sp := fun vs H Q _ => ∃ (v : V) (q : Addr) (c : Cu) (x y : Nat), vs = [v, .ref q] ∧ CuAt K H v c ∧ c.dep ≤ 60 ∧ SqT K H q [.int (x : Nat), .int (y : Nat)] ∧ ∀ l H', Same H H' → H l = none → H' l = some (.lst (numsV (waysC c x y))) → Q (.ref l) H'
section
variable {P : Program} {w : World} {K : PySem.W.Frag} {mg : Str → Option Value} {base : Heap} {C : Addr}
theorem scCa : FnScope ["told", "depth"] ["told", "depth"] (defScope sCutA) := ⟨rfl, rfl, rfl, by decide +kernel, rfl, by decide +kernel, by decide +kernel⟩
theorem scSs3 : FnScope ["one", "other", "both"] ["one", "other"] (defScope sSame3) := ⟨rfl, rfl, rfl, by decide +kernel, rfl, by decide +kernel, by decide +kernel⟩
theorem scWt : FnScope ["told", "ways"] ["told", "ways"] (defScope sWaysT) := ⟨rfl, rfl, rfl, by decide +kernel, rfl, by decide +kernel, by decide +kernel⟩
theorem ok_cutA {f : Addr} {fd : FuncData} (F : Fun K "cut_again" "cut_again" sCutA f fd) (mgf : mg "cut_again" = some (.ref f)) (b : Binds K fd ["told", "depth"] []) : ∀ n, FnOk P w K mg base CX0 (n + 1) f fd ["told", "depth"] (spCutA K n) := by
  intro n
  induction n with
  | zero =>
    refine F.ok scCa (fun vs H Q E h => ?_) (fun cdv A outer s H vs Q E hr h => ?_)
    · obtain ⟨v, c, d, rfl, _⟩ := h
      rfl
    · obtain ⟨v, c, d, _, _, _, h, _⟩ := h
      exact absurd h (Nat.not_lt_zero _)
  | succ n G' =>
  refine F.ok scCa (fun vs H Q E h => ?_) (fun cdv A outer s H vs Q E hr h => ?_)
  · obtain ⟨v, c, d, rfl, _⟩ := h
    rfl
  · obtain ⟨v, c, d, rfl, hv, hc6, hd, k⟩ := h
    refine ⟨_, pss_cons (ps_if (PW.pt (pw_or (pt_cmpR op_le (pv 1) pe_int (nomark _)) (pw_or1 (pt_cmp (pc_isN (pv 0)))))) (pss_one (ps_ret pe_non)) pss_nil) (pss_cons (ps_if (pt_cmpR (op_eqD hr.units) (pv 0) (pe_tup pa_nil) (nomark _)) (pss_one (ps_ret (pe_tup pa_nil))) pss_nil) (pss_one (ps_ret (pe_tup (pa_cons (pe_call G' hr rfl mgf F.kp b .nil pass0 (pa_cons (pe_ix (r := rIxT K) ix_tup (pv 0) pe_int (fun _ _ => rfl)) (pa_cons (pe_op op_sub (pv 1) pe_int) pa_nil))) (pa_cons (pe_call G' hr rfl mgf F.kp b .nil pass0 (pa_cons (pe_ix (r := rIxT K) ix_tup (pv 0) pe_int (fun _ _ => rfl)) (pa_cons (pe_op op_sub (pv 1) pe_int) pa_nil))) pa_nil)))))), ?_⟩
    have hsl := line4
    refine ⟨_, rfl, _, _, rfl, rfl, _, rfl, ?_⟩
    cases d with
    | zero =>
      refine iteT (iteT ?_)
      exact k .non H (Same.refl H) (by cases c <;> exact .non)
    | succ m =>
      rw [show decide ((((m + 1 : Nat) : Int)) ≤ 0) = false from decide_eq_false (by omega)]
      refine iteF ?_
      cases c with
      | any =>
        have e := hv.of_any
        subst e
        refine ⟨_, rfl, _, rfl, iteT ?_⟩
        exact k .non H (Same.refl H) .non
      | nil =>
        obtain ⟨a, rfl, ha⟩ := hv.of_nil
        refine ⟨_, rfl, _, rfl, iteF ?_⟩
        refine ⟨_, rfl, ?_⟩
        refine ⟨by show 0 ≤ sizeLine; decide, fun T0 nT0 => ?_⟩
        have s1 := Same.new nT0 (o := .tup [])
        have e1 : (upd H T0 (.tup [])) T0 = some (.tup []) := upd_same
        revert s1 e1
        generalize upd H T0 (.tup []) = H1
        intro s1 e1
        refine ⟨_, _, hv.same s1, (Dp.tup (SqT.of e1) .nil : Dp K H1 (.ref T0) (.tuple [])), nil_shaped, nil_shaped, _, rfl, iteT ?_⟩
        refine ⟨by show 0 ≤ sizeLine; decide, fun T1 nT1 => ?_⟩
        have s2 := Same.new nT1 (o := .tup [])
        have e2 : (upd H1 T1 (.tup [])) T1 = some (.tup []) := upd_same
        revert s2 e2
        generalize upd H1 T1 (.tup []) = H2
        intro s2 e2
        exact k (.ref T1) H2 (s1.trans s2) (.tup (SqT.of e2) .nil)
      | pr x y =>
        obtain ⟨a, u1, u2, rfl, ha, hu1, hu2⟩ := hv.of_pr
        have hx : x.dep ≤ 60 := by rw [Cu.dep] at hc6; omega
        have hy : y.dep ≤ 60 := by rw [Cu.dep] at hc6; omega
        refine ⟨_, rfl, _, rfl, iteF ?_⟩
        refine ⟨_, rfl, ?_⟩
        refine ⟨by show 0 ≤ sizeLine; decide, fun T0 nT0 => ?_⟩
        have s1 := Same.new nT0 (o := .tup [])
        have e1 : (upd H T0 (.tup [])) T0 = some (.tup []) := upd_same
        revert s1 e1
        generalize upd H T0 (.tup []) = H1
        intro s1 e1
        refine ⟨_, _, hv.same s1, (Dp.tup (SqT.of e1) .nil : Dp K H1 (.ref T0) (.tuple [])), Cu.shaped (.pr x y) hc6, nil_shaped, _, rfl, iteF ?_⟩
        have ha1 := sqt_kt (KT.of s1) ha
        refine ⟨_, rfl, a, _, 0, _, rfl, rfl, ha1, at0 _ _, _, rfl, _, _, rfl, rfl, u1, x, m, congrArg (fun z => [u1, V.int z]) (int_pred m), hu1.same s1, hx, by omega, fun v1 H2 s2 hv1 => ?_⟩
        refine ⟨_, rfl, a, _, 1, _, rfl, rfl, sqt_kt (KT.of s2) ha1, at1c _ _ _, _, rfl, _, _, rfl, rfl, u2, y, m, congrArg (fun z => [u2, V.int z]) (int_pred m), hu2.same (s1.trans s2), hy, by omega, fun v2 H3 s3 hv2 => ?_⟩
        refine ⟨by show 2 ≤ sizeLine; decide, fun T1 nT1 => ?_⟩
        have s4 := Same.new nT1 (o := .tup [v1, v2])
        have e4 : (upd H3 T1 (.tup [v1, v2])) T1 = some (.tup [v1, v2]) := upd_same
        revert s4 e4
        generalize upd H3 T1 (.tup [v1, v2]) = H4
        intro s4 e4
        exact k (.ref T1) H4 (((s1.trans s2).trans s3).trans s4) (.tup (SqT.of e4) (.cons ((hv1.same s3).same s4) (.cons (hv2.same s4) .nil)))
theorem ok_same3 {f : Addr} {fd : FuncData} (F : Fun K "surely_same" "surely_same" sSame3 f fd) (mgf : mg "surely_same" = some (.ref f)) (b : Binds K fd ["one", "other"] []) : ∀ n, FnOk P w K mg base CX0 (n + 1) f fd ["one", "other"] (spSame3 K n) := by
  intro n
  induction n with
  | zero =>
    refine F.ok scSs3 (fun vs H Q E h => ?_) (fun cdv A outer s H vs Q E hr h => ?_)
    · obtain ⟨v, u, c, e, rfl, _⟩ := h
      rfl
    · obtain ⟨v, u, c, e, _, _, _, _, _, h, _⟩ := h
      exact absurd h (Nat.not_lt_zero _)
  | succ n G' =>
  refine F.ok scSs3 (fun vs H Q E h => ?_) (fun cdv A outer s H vs Q E hr h => ?_)
  · obtain ⟨v, u, c, e, rfl, _⟩ := h
    rfl
  · obtain ⟨v, u, c, e, rfl, hv, hu, hc6, he6, hn, k⟩ := h
    refine ⟨_, pss_cons (ps_if (PW.pt (pw_or (pt_cmp (pc_isN (pv 0))) (pw_or1 (pt_cmp (pc_isN (pv 1)))))) (pss_one (ps_ret pe_non)) pss_nil) (pss_cons (ps_if (PW.pt (pw_or (pt_cmpR (op_eqD hr.units) (pv 0) (pe_tup pa_nil) (nomark _)) (pw_or1 (pt_cmpR (op_eqD hr.units) (pv 1) (pe_tup pa_nil) (nomark _))))) (pss_one (ps_ret (pe_cmpR (op_eqD hr.units) (pv 0) (pv 1) (nomark _)))) pss_nil) (pss_cons (ps_set (i := 2) scSs3.nd rfl (Or.inl rfl) (pe_lst (pa_cons (pe_call G' hr rfl mgf F.kp b .nil pass0 (pa_cons (pe_ix (r := rIxT K) ix_tup (pv 0) pe_int (fun _ _ => rfl)) (pa_cons (pe_ix (r := rIxT K) ix_tup (pv 1) pe_int (fun _ _ => rfl)) pa_nil))) (pa_cons (pe_call G' hr rfl mgf F.kp b .nil pass0 (pa_cons (pe_ix (r := rIxT K) ix_tup (pv 0) pe_int (fun _ _ => rfl)) (pa_cons (pe_ix (r := rIxT K) ix_tup (pv 1) pe_int (fun _ _ => rfl)) pa_nil))) pa_nil)))) (pss_cons (ps_if (pt_cmpR op_in_seq pe_bl (pv 2) rfl) (pss_one (ps_ret pe_bl)) pss_nil) (pss_one (ps_ret (pe_ifExp (pt_cmpR op_in_seq pe_non (pv 2) rfl) pe_non pe_bl)))))), ?_⟩
    have hsl := line4
    -- anything
    by_cases hca : c = .any
    · subst hca
      have e1 := hv.of_any
      subst e1
      refine ⟨_, rfl, _, rfl, iteT (iteT ?_)⟩
      have := k H (Same.refl H)
      rw [same3] at this
      exact this
    have hvn : ∃ a, v = .ref a := by
      cases c with
      | any => exact absurd rfl hca
      | nil => obtain ⟨a, h, _⟩ := hv.of_nil; exact ⟨a, h⟩
      | pr x y => obtain ⟨a, _, _, h, _⟩ := hv.of_pr; exact ⟨a, h⟩
    obtain ⟨va, rfl⟩ := hvn
    refine ⟨_, rfl, _, rfl, iteF ?_⟩
    by_cases hea : e = .any
    · subst hea
      have e1 := hu.of_any
      subst e1
      refine ⟨_, rfl, _, rfl, iteT ?_⟩
      have := k H (Same.refl H)
      have e3 : same3 c .any = none := by cases c <;> rfl
      rw [e3] at this
      exact this
    have hun : ∃ a, u = .ref a := by
      cases e with
      | any => exact absurd rfl hea
      | nil => obtain ⟨a, h, _⟩ := hu.of_nil; exact ⟨a, h⟩
      | pr x y => obtain ⟨a, _, _, h, _⟩ := hu.of_pr; exact ⟨a, h⟩
    obtain ⟨ua, rfl⟩ := hun
    refine ⟨_, rfl, _, rfl, iteF ?_⟩
    refine ⟨_, rfl, ?_⟩
    refine ⟨by show 0 ≤ sizeLine; decide, fun T0 nT0 => ?_⟩
    have s1 := Same.new nT0 (o := .tup [])
    have e1 : (upd H T0 (.tup [])) T0 = some (.tup []) := upd_same
    revert s1 e1
    generalize upd H T0 (.tup []) = H1
    intro s1 e1
    have hv1 := hv.same s1
    have hu1 := hu.same s1
    refine ⟨_, _, hv1, (Dp.tup (SqT.of e1) .nil : Dp K H1 (.ref T0) (.tuple [])), c.shaped hc6, nil_shaped, _, rfl, ?_⟩
    cases c with
    | any => exact absurd rfl hca
    | nil =>
      refine iteT (iteT ?_)
      refine ⟨_, rfl, _, rfl, _, _, hv1, hu1, nil_shaped, e.shaped he6, ?_⟩
      have := k H1 s1
      cases e with
      | any => exact absurd rfl hea
      | nil => exact this
      | pr x y => exact this
    | pr x y =>
      refine iteF ?_
      refine ⟨_, rfl, ?_⟩
      refine ⟨by show 0 ≤ sizeLine; decide, fun T1 nT1 => ?_⟩
      have s2 := Same.new nT1 (o := .tup [])
      have e2 : (upd H1 T1 (.tup [])) T1 = some (.tup []) := upd_same
      revert s2 e2
      generalize upd H1 T1 (.tup []) = H2
      intro s2 e2
      have hv2 := hv1.same s2
      have hu2 := hu1.same s2
      refine ⟨_, _, hu2, (Dp.tup (SqT.of e2) .nil : Dp K H2 (.ref T1) (.tuple [])), e.shaped he6, nil_shaped, _, rfl, ?_⟩
      cases e with
      | any => exact absurd rfl hea
      | nil =>
        refine iteT ?_
        refine ⟨_, rfl, _, rfl, _, _, hv2, hu2, Cu.shaped (.pr x y) hc6, nil_shaped, ?_⟩
        exact k H2 (s1.trans s2)
      | pr x' y' =>
        refine iteF ?_
        obtain ⟨_, p1, p2, ea, ha, hp1, hp2⟩ := hv2.of_pr
        cases ea
        obtain ⟨_, q1, q2, eb, hb', hq1, hq2⟩ := hu2.of_pr
        cases eb
        have hx : x.dep ≤ 60 ∧ x.dep < n := by rw [Cu.dep] at hc6 hn; omega
        have hy : y.dep ≤ 60 ∧ y.dep < n := by rw [Cu.dep] at hc6 hn; omega
        have hx' : x'.dep ≤ 60 := by rw [Cu.dep] at he6; omega
        have hy' : y'.dep ≤ 60 := by rw [Cu.dep] at he6; omega
        refine ⟨_, rfl, va, _, 0, _, rfl, rfl, ha, at0 _ _, _, rfl, ua, _, 0, _, rfl, rfl, hb', at0 _ _, p1, q1, x, x', rfl, hp1, hq1, hx.1, hx', hx.2, fun H3 s3 => ?_⟩
        refine ⟨_, rfl, va, _, 1, _, rfl, rfl, sqt_kt (KT.of s3) ha, at1c _ _ _, _, rfl, ua, _, 1, _, rfl, rfl, sqt_kt (KT.of s3) hb', at1c _ _ _, p2, q2, y, y', rfl, hp2.same s3, hq2.same s3, hy.1, hy', hy.2, fun H4 s4 => ?_⟩
        refine ⟨by show 2 ≤ sizeLine; decide, fun L nL => ?_⟩
        have s5 := Same.new nL (o := .lst [obV (same3 x x'), obV (same3 y y')])
        have e5 : (upd H4 L (.lst [obV (same3 x x'), obV (same3 y y')])) L = some (.lst [obV (same3 x x'), obV (same3 y y')]) := upd_same
        revert s5 e5
        generalize upd H4 L (.lst [obV (same3 x x'), obV (same3 y y')]) = H5
        intro s5 e5
        have sall := (((s1.trans s2).trans s3).trans s4).trans s5
        have kk := k H5 sall
        rw [same3] at kk
        revert kk e5
        generalize same3 x x' = o1
        generalize same3 y y' = o2
        intro e5 kk
        rcases o1 with _ | ⟨_ | _⟩ <;> rcases o2 with _ | ⟨_ | _⟩ <;> refine ⟨_, rfl, L, _, rfl, .inl (SqL.of e5), rfl, rfl, _, rfl, ?_⟩ <;> first | exact iteT kk | (refine iteF ⟨_, rfl, L, _, rfl, .inl (SqL.of e5), rfl, rfl, _, rfl, ?_⟩; first | exact iteT kk | exact iteF kk) | (refine iteF ⟨L, _, rfl, .inl (SqL.of e5), rfl, rfl, _, rfl, ?_⟩; first | exact iteT kk | exact iteF kk)
theorem ok_waysT {f : Addr} {fd : FuncData} (F : Fun K "ways_taken" "ways_taken" sWaysT f fd) (ml : mg "list" = none) : FnOk P w K mg base CX0 1 f fd ["told", "ways"] (spWaysT K) := by
  refine F.ok scWt (fun vs H Q E h => ?_) (fun cdv A outer s H vs Q E hr h => ?_)
  · obtain ⟨v, q, c, x, y, rfl, _⟩ := h
    rfl
  · obtain ⟨v, q, c, x, y, rfl, hv, hc6, hq, k⟩ := h
    refine ⟨_, pss_cons (ps_if (pt_cmp (pc_isN (pv 0))) (pss_one (ps_ret (pe_callTy call_list_of (by rfl) ml PyProof.Rows.boot_list (pa_cons (pv 1) pa_nil)))) pss_nil) (pss_one (ps_ret (pe_ifExp (pt_cmpR (op_eqD hr.units) (pv 0) (pe_tup pa_nil) (nomark _)) (pe_lst (pa_cons (pe_ix (r := rIxT K) ix_tup (pv 1) pe_int (fun _ _ => rfl)) pa_nil)) (pe_lst (pa_cons (pe_ix (r := rIxT K) ix_tup (pv 1) pe_int (fun _ _ => rfl)) pa_nil))))), ?_⟩
    have hsl := line4
    cases c with
    | any =>
      have e1 := hv.of_any
      subst e1
      refine ⟨_, rfl, _, rfl, iteT ?_⟩
      exact ⟨_, rfl, q, _, rfl, .inr hq, fun l nl => k l _ (Same.new nl) nl upd_same⟩
    | nil =>
      obtain ⟨a, rfl, ha⟩ := hv.of_nil
      refine ⟨_, rfl, _, rfl, iteF ?_⟩
      refine ⟨_, rfl, ?_⟩
      refine ⟨by show 0 ≤ sizeLine; decide, fun T0 nT0 => ?_⟩
      have s1 := Same.new nT0 (o := .tup [])
      have e1 : (upd H T0 (.tup [])) T0 = some (.tup []) := upd_same
      revert s1 e1
      generalize upd H T0 (.tup []) = H1
      intro s1 e1
      refine ⟨_, _, hv.same s1, (Dp.tup (SqT.of e1) .nil : Dp K H1 (.ref T0) (.tuple [])), nil_shaped, nil_shaped, _, rfl, iteT ?_⟩
      refine ⟨_, rfl, q, _, 1, _, rfl, rfl, sqt_kt (KT.of s1) hq, at1c _ _ _, by show 1 ≤ sizeLine; decide, fun l nl => k l _ (s1.trans (Same.new nl)) (s1.free nl) upd_same⟩
    | pr c1 c2 =>
      obtain ⟨a, u1, u2, rfl, ha, _, _⟩ := hv.of_pr
      refine ⟨_, rfl, _, rfl, iteF ?_⟩
      refine ⟨_, rfl, ?_⟩
      refine ⟨by show 0 ≤ sizeLine; decide, fun T0 nT0 => ?_⟩
      have s1 := Same.new nT0 (o := .tup [])
      have e1 : (upd H T0 (.tup [])) T0 = some (.tup []) := upd_same
      revert s1 e1
      generalize upd H T0 (.tup []) = H1
      intro s1 e1
      refine ⟨_, _, hv.same s1, (Dp.tup (SqT.of e1) .nil : Dp K H1 (.ref T0) (.tuple [])), Cu.shaped (.pr c1 c2) hc6, nil_shaped, _, rfl, iteF ?_⟩
      refine ⟨_, rfl, q, _, 0, _, rfl, rfl, sqt_kt (KT.of s1) hq, at0 _ _, by show 1 ≤ sizeLine; decide, fun l nl => k l _ (s1.trans (Same.new nl)) (s1.free nl) upd_same⟩
end
end Js

set_option Elab.async false
set_option linter.all false
set_option maxRecDepth 100000
set_option maxHeartbeats 2000000
namespace Js
open PySem L2 PyProof.Rows
/-- a value that is no Thing, and whose kind stands under no Thing -/
def NoTh (K : PySem.W.Frag) (C : Addr) (H : Hp) (y : V) : Prop := ∃ t : Value, TyX K H y t ∧ PySem.W.notFirst K C t = true ∧ PySem.W.kitOne K t (.ref C) = some false
/-- thing == what is no thing -/
def spEqN (K : PySem.W.Frag) (C : Addr) : Sp := fun vs H Q _ => ∃ a y, vs = [.ref a, y] ∧ NoTh K C H y ∧ Q (.bl false) H
section
variable {P : Program} {w : World} {K : PySem.W.Frag} {mg : Str → Option Value} {base : Heap} {C : Addr}
theorem ok_eqN {f fA : Addr} {fd fdA : FuncData} (F : Fun K "__eq__" "Thing.__eq__" sEq f fd) (T : Txt K mg C) (AA : At K mg "alike" sAlike ["one", "other"] fA fdA) : FnOk P w K mg base CX0 2 f fd ["self", "other"] (spEqN K C) := by
  have GA : FnOk P w K mg base CX0 1 fA fdA ["one", "other"] (spAlike C) := ok_alike AA.F T
  refine F.ok scE (fun vs H Q E h => ?_) (fun cdv A outer s H vs Q E hr h => ?_)
  · obtain ⟨a, y, rfl, _⟩ := h
    rfl
  · obtain ⟨a, y, rfl, ⟨t, hty, hnf, hkt⟩, k⟩ := h
    refine ⟨_, pss_one (ps_ret (pe_and (pe_callB call_isi (by rfl) T.isi PyProof.Rows.boot_isinstance (pa_cons (pv 1) (pa_cons (pe_glob (v := .ref C) rfl T.mgC rfl) pa_nil)))
      (pe_one (pe_call GA hr rfl AA.mgf AA.F.kp AA.b .nil pass0 (pa_cons (pv 0) (pa_cons (pv 1) pa_nil)))))), ?_⟩
    exact ⟨_, rfl, _, _, _, _, false, rfl, ClsV.own C, hty, hkt, false, rfl, iteF k⟩
end
section
variable {X : Cx} {C : Addr}
def rEqN (K : PySem.W.Frag) (C : Addr) : R2 := fun x y H Q => ∃ a dx fs, x = .ref a ∧ H a = some (.ins C dx fs) ∧ NoTh K C H y ∧ Q (.bl false) H
theorem op_eqN (S : Spc X.prog X.w X.K X.mg X.base C "__eq__" 2 ["self", "other"] (spEqN X.K C)) (hr : Room 2 X.A) : OpR X (compareOp .Eq) (rEqN X.K C) := by
  obtain ⟨f, fd, o, F, hb⟩ := S
  intro pins s σ H x y v u Q I rx ry h
  obtain ⟨a, dx, fs, rfl, ha, ⟨t, hty, hnf, hkt⟩, q⟩ := h
  cases (show v = Value.ref a from rx)
  show wpAny _ _ (richCompare .Eq (.ref a) u) _ _ _
  obtain ⟨od, J⟩ := inst_of I ha
  obtain ⟨m, hF⟩ := I.fr
  obtain ⟨Z, kx, hZ, _⟩ := kit_of I ry hty
  refine PySem.W.cmp_K (op := .Eq) (tb := t) hr.units0 hF I.ok.mod.kin J (kx.ty _ _ I.kIn hZ) hnf o.at_ o.fn (wpAny_mono (run_fnA (us := [.ref a, u]) (vs := [.ref a, y]) (Q := fun z H' => z = .bl false ∧ Q (.bl false) H') F hr I.env0 hb pass0 I (.cons rfl (.cons ry .nil)) ⟨a, y, rfl, ⟨t, hty, hnf, hkt⟩, rfl, q⟩) (fun w s' z => ?_) fun _ _ x => x)
  obtain ⟨z', H', I', rz, rfl, qz⟩ := z
  cases (show w = Value.bool false from rz)
  exact ⟨.bl false, H', I', rfl, qz⟩
end
end Js

set_option Elab.async false
set_option linter.all false
set_option maxRecDepth 100000
set_option maxHeartbeats 2000000
/-! u == x, u of a built-in kind that declines, x an instance with its own == -/
namespace JsLow
open PySem PySem.Spec PyProof.Rows PySem.W
section
variable {prog : Program} {w : World} {A : Around} {E : Value → Shared → Prop} {s : Shared} {K : Frag} {x C f : Addr} {ox : Obj} {od : Option Obj} {u : Value} {T : String}
theorem none_eq_ref (a : Addr) : Gives (Builtin.«NoneType.__eq__» ⟨[.none, .ref a], []⟩) (.val (Value.notImplemented)) :=
  .of_wp fun M A E s Q h => by obtain ⟨hp, g, d, tk, os⟩ := s; wp_walk; exact ⟨_, rfl, h⟩
/-- the left one declines, the right one's == is asked -/
theorem refl_K {Q : Value → Shared → Prop} (hu : A.units < cLine) (X : K.In s.heap) (I : InstAt s.heap x ox C od) (hT : s.TypeIs u T) (one : oneThing? .Eq u (.ref x) = none) (hs : subIn K (.ref C) (.type T) = some false)
    (dec : ∀ {Q' : Option Value → Shared → Prop}, (∀ tk, Q' none { s with toks := tk }) → wpAny (model prog w) A (tryCompare u "__eq__" (.ref x)) Q' E s)
    (he : findIn K (.ref C) "__eq__" = some (some (.ref f))) (hf : isFn K (.ref f) = true)
    (h : ∀ tk, wpAny (model prog w) A (call (.ref f) [.ref x, u]) (PySem.W.CmpBack Q) E { s with toks := tk }) : wpAny (model prog w) A (richCompare .Eq u (.ref x)) Q E s := by
  unfold richCompare
  refine wpAny_holding (wpAny_bind (wpAny_cRoomFor hu ?_))
  rw [one]
  refine wpAny_bind (wpAny_typeOf hT (wpAny_bind (I.type.here ?_)))
  have ne : (Value.type T != Value.ref C) = true := by simp
  try dsimp only
  rw [if_pos ne]
  refine wpAny_bind ((looks_subIn X hs).here ?_)
  simp only [Bool.false_eq_true, if_false, Bool.not_false, if_true]
  refine wpAny_bind (dec fun tk => ?_)
  try dsimp only
  refine wpAny_bind ?_
  unfold tryCompare
  refine wpAny_bind (ifBound_K (s := { s with toks := tk }) X (show InstAt ({ s with toks := tk } : Shared).heap x ox C od from I) he hf (wpAny_mono (h tk) (fun v s' hv => ?_) fun _ _ e => e))
  cases v <;> first | exact hv.elim | exact wpAny_pure (wpAny_pure hv)
theorem dec_none {Q' : Option Value → Shared → Prop} (h : ∀ tk, Q' none { s with toks := tk }) : wpAny (model prog w) A (tryCompare .none "__eq__" (.ref x)) Q' E s :=
  wpAny_tryCompare_declines (T := "NoneType") rfl F.slot_NoneType_eq (call_gives F.slot_NoneType_eq rfl F.entry_NoneType_eq (F.args_NoneType_eq_2 _ _) (none_eq_ref x) ⟨rfl, h _⟩)
theorem dec_str {a : Str} {t : Tok} {dx : Addr} {Q' : Option Value → Shared → Prop} (hx : s.heap.get? x = some (PySem.W.instObj C dx)) (h : ∀ tk, Q' none { s with toks := tk }) : wpAny (model prog w) A (tryCompare (.str a t) "__eq__" (.ref x)) Q' E s := by
  refine wpAny_tryCompare_declines (typeIs_str s a t) F.slot_str_eq (wpAny_call_entry F.slot_str_eq (typeIs_str s a t) F.entry_str_eq ?_ (F.args_str_eq_2 _ _))
  unfold Builtin.«str.__eq__» Builtin.Str.strCompare
  refine wpAny_bind (wpAny_of_eq (a := (Value.str a t, a, [Value.ref x])) (by first | rfl | kernel_rfl) ?_)
  try dsimp only
  show wpAny _ _ (asStr? (.ref x) >>= _) _ _ _
  unfold asStr?
  refine wpAny_bind (wpAny_bind (wpAny_load hx (wpAny_pure ?_)))
  exact wpAny_bind (wpAny_rule (wpAny_pure ⟨_, rfl, rfl, h _⟩))
end
end JsLow
namespace Js
open PySem L2 PySem.Spec PyProof.Rows
section
variable {X : Cx} {C : Addr}
/-- y == thing, y None or a text -/
def DRef (K : PySem.W.Frag) (C : Addr) : Tells := fun y x r H => ∃ a t, x = .ref a ∧ Th C H a t ∧ r = false ∧ (y = .non ∨ ∃ z, y = .str z) ∧ NoTh K C H y
theorem eqT_ref (S : Spc X.prog X.w X.K X.mg X.base C "__eq__" 2 ["self", "other"] (spEqN X.K C)) (h1 : PySem.W.subIn X.K (.ref C) (.type "NoneType") = some false) (h2 : PySem.W.subIn X.K (.ref C) (.type "str") = some false) : EqT X 2 (DRef X.K C) := by
  obtain ⟨f, fd, o, F, hb⟩ := S
  intro A pins s σ H y x u v r sb I ry rx d
  obtain ⟨a, t, rfl, ha, rfl, hy, hn⟩ := d
  cases (show v = Value.ref a from rx)
  obtain ⟨dx, f1, g1, h0⟩ := ha.obj
  obtain ⟨od, J⟩ := inst_of I h0
  have hx : s.heap.get? a = some (PySem.W.instObj C dx) := (show ObjOk X.prog X.w H s.heap a (.ins C dx _) from I.hok a _ h0).2.2.2.1
  have e0 : ∀ tk, Env0 X.prog X.w X.K X.mg X.base A X.stack { s with toks := tk } H := fun tk => by
    have e := (I.tok tk).env0
    exact ⟨by rw [sb.fr]; exact e.frames, e.mod, e.bs, e.bsz, e.funs, e.frf, e.hok, e.bare⟩
  have fin : ∀ {Q : Value → Shared → Prop}, (∀ s' H', Inv X pins σ H' s' → Same H H' → Q (.bool false) s') → ∀ tk, wpAny (model X.prog X.w) A (call (.ref f) [.ref a, u]) (PySem.W.CmpBack Q) X.xe { s with toks := tk } := by
    intro Q k tk
    refine wpAny_mono (run_fnA (us := [.ref a, u]) (vs := [.ref a, y]) (Q := fun z H' => z = .bl false ∧ H' = H) F sb.room (e0 tk) hb pass0 (I.tok tk) (.cons rfl (.cons ry .nil)) ⟨a, y, rfl, hn, rfl, rfl⟩) (fun w s' z => ?_) fun _ _ x => x
    obtain ⟨z', H', I', rz, rfl, rfl⟩ := z
    cases (show w = Value.bool false from rz)
    exact k s' _ I' (Same.refl _)
  rcases hy with rfl | ⟨z, rfl⟩
  · cases (show u = Value.none from ry)
    unfold eqBool
    refine wpAny_holding (wpAny_ite_split (fun hab => absurd (eq_of_beq hab) (by simp)) fun _ => wpAny_bind (wpAny_mono (Q := fun w s' => w = .bool false ∧ ∃ H', Inv X pins σ H' s' ∧ Same H H') ?_ (fun w s' z => ?_) fun _ _ x => x))
    · exact JsLow.refl_K (T := "NoneType") sb.room.units0 I.kIn J rfl rfl h1 JsLow.dec_none o.at_ o.fn (fin fun s' H' I' sm => ⟨rfl, H', I', sm⟩)
    · obtain ⟨rfl, H', I', sm⟩ := z
      exact wpAny_truthy_bool ⟨rfl, H', I', sm⟩
  · obtain ⟨t', rfl⟩ := (show ∃ t', u = Value.str z t' from ry)
    unfold eqBool
    refine wpAny_holding (wpAny_ite_split (fun hab => absurd (eq_of_beq hab) (by simp)) fun _ => wpAny_bind (wpAny_mono (Q := fun w s' => w = .bool false ∧ ∃ H', Inv X pins σ H' s' ∧ Same H H') ?_ (fun w s' z => ?_) fun _ _ x => x))
    · exact JsLow.refl_K (T := "str") sb.room.units0 I.kIn J (typeIs_str s z t') rfl h2 (JsLow.dec_str hx) o.at_ o.fn (fin fun s' H' I' sm => ⟨rfl, H', I', sm⟩)
    · obtain ⟨rfl, H', I', sm⟩ := z
      exact wpAny_truthy_bool ⟨rfl, H', I', sm⟩
end
end Js

set_option Elab.async false
set_option linter.all false
set_option maxRecDepth 100000
set_option maxHeartbeats 2000000
/-! u == x: whole numbers, tuples, lists decline, too -/
namespace JsLow
open PySem PySem.Spec PyProof.Rows PySem.W
open AutoSeq1 (wpAny_loadPart')
section
variable {prog : Program} {w : World} {A : Around} {E : Value → Shared → Prop} {s : Shared} {K : Frag} {x C f : Addr} {ox : Obj} {od : Option Obj} {u : Value} {T : String}
theorem isInst_K {M : Model} {b : Bool} {Q : Bool → Shared → Prop} (X : K.In s.heap) (I : InstAt s.heap x ox C od) (hs : subIn K (.ref C) (.type T) = some b) (h : Q b s) : wpAny M A (isInstance (.ref x) (.type T)) Q E s :=
  wpAny_bind (I.type.here ((looks_subIn X hs).here h))
theorem dec_tup {l : Addr} {Q' : Option Value → Shared → Prop} (X : K.In s.heap) (I : InstAt s.heap x ox C od) (hT : s.TypeIs (.ref l) "tuple") (hs : subIn K (.ref C) (.type "tuple") = some false) (h : ∀ tk, Q' none { s with toks := tk }) : wpAny (model prog w) A (tryCompare (.ref l) "__eq__" (.ref x)) Q' E s := by
  refine wpAny_tryCompare_declines hT F.slot_tuple_eq (wpAny_call_entry F.slot_tuple_eq hT F.entry_tuple_eq ?_ (F.args_tuple_eq_2 _ _))
  have h0 := h s.toks
  obtain ⟨hp, g, d, tk, os⟩ := s
  wp_walk using isInst_K X I hs
  exact ⟨_, rfl, rfl, h0⟩
theorem dec_lst {l : Addr} {Q' : Option Value → Shared → Prop} (X : K.In s.heap) (I : InstAt s.heap x ox C od) (hT : s.TypeIs (.ref l) "list") (hs : subIn K (.ref C) (.type "list") = some false) (h : ∀ tk, Q' none { s with toks := tk }) : wpAny (model prog w) A (tryCompare (.ref l) "__eq__" (.ref x)) Q' E s := by
  refine wpAny_tryCompare_declines hT F.slot_list_eq (wpAny_call_entry F.slot_list_eq hT F.entry_list_eq ?_ (F.args_list_eq_2 _ _))
  have h0 := h s.toks
  obtain ⟨hp, g, d, tk, os⟩ := s
  wp_walk using isInst_K X I hs
  exact ⟨_, rfl, rfl, h0⟩
theorem dec_int {i : Int} {t : Tok} {dx : Addr} {Q' : Option Value → Shared → Prop} (hx : s.heap.get? x = some (PySem.W.instObj C dx)) (h : ∀ tk, Q' none { s with toks := tk }) : wpAny (model prog w) A (tryCompare (.int i t) "__eq__" (.ref x)) Q' E s := by
  refine wpAny_tryCompare_declines (typeIs_int s i t) F.slot_int_eq (wpAny_call_entry F.slot_int_eq (typeIs_int s i t) F.entry_int_eq ?_ (F.args_int_eq_2 _ _))
  have h0 := h s.toks
  obtain ⟨hp, g, d, tk, os⟩ := s
  wp_walk using wpAny_load hx
  exact ⟨_, rfl, rfl, h0⟩
end
end JsLow

set_option Elab.async false
set_option linter.all false
set_option maxRecDepth 100000
set_option maxHeartbeats 2000000
/-! the truth of an instance, by its own len -/
namespace JsLow
open PySem PySem.Spec PyProof.Rows PySem.W
section
variable {prog : Program} {w : World} {A : Around} {E : Value → Shared → Prop} {s : Shared} {K : Frag} {x C f : Addr} {ox : Obj} {od : Option Obj}
theorem truth_len {Q : Bool → Shared → Prop} (X : K.In s.heap) (I : InstAt s.heap x ox C od) (nb : findIn K (.ref C) "__bool__" = some none) (hl : findIn K (.ref C) "__len__" = some (some (.ref f))) (hf : isFn K (.ref f) = true)
    (h : wpAny (model prog w) A.in1 (call (.ref f) [.ref x]) (fun v s' => ∃ n t, v = .int n t ∧ 0 ≤ n ∧ n < 2 ^ 63 ∧ ∀ tk, Q (n != 0) { s' with toks := tk }) E s) : wpAny (model prog w) A (truthy (.ref x)) Q E s := by
  unfold truthy
  refine wpAny_bind (m := callSpecial? (.ref x) "__bool__") (wpAny_bind (wpAny_bind (I.type.here ((looks_findIn X nb).here (wpAny_pure ?_)))))
  refine wpAny_bind (wpAny_bind (I.type.here ((looks_findIn X hl).here ?_)))
  rw [if_neg (show ¬ ((some (Value.ref f)).isNone = true) by simp)]
  refine wpAny_bind (wpAny_mono (Q := fun r s' => ∃ n t, r = .int n t ∧ Q (n != 0) s') (wpAny_runValue (codeAny_builtin entry_len ?_)) (fun r s' z => ?_) fun _ _ e => e)
  · rw [Around.under_plainId plain_len _]
    unfold Builtin.«len»
    refine wpAny_bind (m := oneArg "len" _) (wpAny_pure (wpAny_bind (m := callSpecial? (.ref x) (Str.ofString "__len__")) (special_fn X I hl (beq_iff_eq.mp hf) (wpAny_mono h ?_ fun _ _ y => y))))
    rintro r s' ⟨n, t, rfl, h0, h1, hq⟩
    refine wpAny_bind (wpAny_holding (wpAny_pure (wpAny_bind (wpAny_letGo ?_))))
    show wpAny _ _ (if n < 0 then _ else _) _ _ _
    rw [if_neg (by omega)]
    show wpAny _ _ (if n ≥ 2 ^ 63 then _ else _) _ _ _
    rw [if_neg (by omega)]
    exact wpAny_bind (wpAny_mkInt (wpAny_pure ⟨n, _, rfl, hq _⟩))
  · obtain ⟨n, t, rfl, hq⟩ := z
    exact wpAny_pure hq
theorem new_bool {v : Value} {Q₁ : Value → Shared → Prop} (h : wpAny (model prog w) A.in1 (truthy v) (fun b s' => Q₁ (.bool b) s') E s) : codeAny (model prog w) A (.call (.builtin "bool.__new__") ⟨[.type "bool", v], []⟩) (wants Q₁ E) s := by
  refine codeAny_of_tree ?_
  show wpAny _ A.in1 (do checkBuiltinCall "bool.__new__" ⟨[.type "bool", v], []⟩; again (.builtin "bool.__new__" ⟨[.type "bool", v], []⟩)) _ _ s
  refine wpAny_bind (wpAny_of_eq (F.newCall_bool_1 _) (wpAny_pure ⟨Code.quiet_builtin _ (by decide +kernel), codeAny_builtin F.entry_bool_new ?_⟩))
  have pl : plainId "bool.__new__" := by
    first
    | exact F.plain_bool_new
    | decide +kernel
  rw [Around.under_plainId pl _]
  unfold Builtin.«bool.__new__»
  have e1 : isType (.type "bool") = (pure true : Sem Bool) := by first | rfl | kernel_rfl
  refine wpAny_bind (wpAny_of_eq e1 ?_)
  simp only [Bool.not_true, Bool.false_eq_true, if_false]
  refine wpAny_bind (wpAny_of_eq F.conv_sub_bool ?_)
  simp only [Bool.not_true, Bool.false_eq_true, if_false]
  refine wpAny_bind (wpAny_of_eq (a := [v]) (by first | rfl | kernel_rfl) ?_)
  try dsimp only
  exact wpAny_bind (wpAny_mono h (fun b s' q => wpAny_pure q) fun _ _ e => e)
theorem call_boolV {v : Value} {Q : Value → Shared → Prop} (h : wpAny (model prog w) A.in1.in1 (truthy v) (fun b s' => Q (.bool b) s') E s) : wpAny (model prog w) A (call (.type "bool") [v]) Q E s := by
  have first := new_bool (prog := prog) (w := w) (A := A.in1) (E := E) (s := s) (v := v) (Q₁ := fun obj s₁ => s₁.TypeIs obj "bool" ∧ Q obj s₁) (wpAny_mono h (fun b s' q => ⟨rfl, q⟩) fun _ _ e => e)
  refine callType_codes F.called_bool (F.typeCall_bool_1 v) F.entry_object_init first fun obj s₁ hh => ⟨hh.1, F.args_object_init_2 obj _, ?_⟩
  exact object_init_meets F.called_bool.init.lookup F.called_bool.made (by decide) prog w A.in1 _ s₁ ⟨hh.1, rfl, hh.2⟩
end
end JsLow
namespace Js
open PySem PySem.Spec PyProof.Rows L2
section
variable {X : Cx} {C : Addr}
def rTruT (C : Addr) : V → Hp → (Bool → Hp → Prop) → Prop := fun x H Q => ∃ a t, x = .ref a ∧ Th C H a t ∧ t.size ≤ 4000 ∧ Q (((t.size : Nat) : Int) != 0) H
theorem tru_T (S : Spc X.prog X.w X.K X.mg X.base C "__len__" 1 ["self"] (spLen C)) (nb : PySem.W.findIn X.K (.ref C) "__bool__" = some none) (hr : Room 2 X.A) : TruR X (rTruT C) := by
  obtain ⟨f, fd, o, F, hb⟩ := S
  intro pins s σ H x v Q I rx h
  obtain ⟨a, t, rfl, ha, hz, q⟩ := h
  cases (show v = Value.ref a from rx)
  obtain ⟨dx, f1, g1, h0⟩ := ha.obj
  obtain ⟨od, J⟩ := inst_of I h0
  refine JsLow.truth_len I.kIn J nb o.at_ o.fn (wpAny_mono (run_fnA (us := [.ref a]) (vs := [.ref a]) (Q := fun z H' => z = .int ((t.size : Nat) : Int) ∧ H' = H) F hr.in1 I.env0.in1 hb pass0 I (.cons rfl .nil) ⟨a, t, rfl, ha, hz, rfl, rfl⟩) (fun w s' z => ?_) fun _ _ x => x)
  obtain ⟨z', H', I', rz, rfl, rfl⟩ := z
  obtain ⟨t', rfl⟩ := (show ∃ t', w = Value.int ((t.size : Nat) : Int) t' from rz)
  exact ⟨_, _, rfl, by omega, by omega, fun tk => ⟨_, I'.tok tk, q⟩⟩
end
end Js
namespace Js
open PySem PySem.Spec PyProof.Rows L2
section
variable {X : Cx} {C : Addr}
/-- bool(thing) -/
theorem call_boolT (S : Spc X.prog X.w X.K X.mg X.base C "__len__" 1 ["self"] (spLen C)) (nb : PySem.W.findIn X.K (.ref C) "__bool__" = some none) (hr : Room 4 X.A) : CallR X (.type "bool") (fun xs H Q => ∃ a t, xs = [.ref a] ∧ Th C H a t ∧ t.size ≤ 4000 ∧ Q (.bl (((t.size : Nat) : Int) != 0)) H) := by
  obtain ⟨f, fd, o, F, hb⟩ := S
  intro pins s σ H xs us Q I r h
  obtain ⟨a, t, rfl, ha, hz, q⟩ := h
  obtain ⟨u, rfl, ru⟩ := vals1 r
  cases (show u = Value.ref a from ru)
  obtain ⟨dx, f1, g1, h0⟩ := ha.obj
  obtain ⟨od, J⟩ := inst_of I h0
  have hr3 : Room 1 X.A.in1.in1.in1 := (show Room 2 X.A.in1.in1 from (show Room 3 X.A.in1 from hr.in1).in1).in1
  refine JsLow.call_boolV (JsLow.truth_len I.kIn J nb o.at_ o.fn (wpAny_mono (run_fnA (us := [.ref a]) (vs := [.ref a]) (Q := fun z H' => z = .int ((t.size : Nat) : Int) ∧ H' = H) F hr3 I.env0.in1.in1.in1 hb pass0 I (.cons rfl .nil) ⟨a, t, rfl, ha, hz, rfl, rfl⟩) (fun w s' z => ?_) fun _ _ x => x))
  obtain ⟨z', H', I', rz, rfl, rfl⟩ := z
  obtain ⟨t', rfl⟩ := (show ∃ t', w = Value.int ((t.size : Nat) : Int) t' from rz)
  exact ⟨_, _, rfl, by omega, by omega, fun tk => ⟨.bl _, _, I'.tok tk, rfl, q⟩⟩
end
end Js

set_option Elab.async false
set_option linter.all false
set_option maxRecDepth 100000
set_option maxHeartbeats 2000000
/-! programs: ==, !=, in, len, bool; beside what is none -/
namespace GQ
open PySem PySem.SeqAt PyProof.Rows
section
variable {prog : Program} {w : World} {A : Around} {R : Result → Shared → Prop}
theorem op_notin_listG {E : Value → Shared → Prop} {s : Shared} {l : Addr} {x : Value} {N : Nat} {Q : Value → Shared → Prop} (I : Nat → Shared → Prop)
    (hl : InI prog w A (wants (fun v s' => ∃ b, v = .bool b ∧ Q (.bool (!b)) s') E) l x N I)
    (fin : ∀ s, I N s → Q (.bool true) s) (h : I 0 s) : wpAny (model prog w) A (compareOp .NotIn x (.ref l)) Q E s := by
  obtain ⟨items, n, hl1, hs1, _⟩ := hl _ _ h
  show wpAny _ A (do return .bool (!(← contains (.ref l) x))) Q E s
  refine wpAny_bind (wpAny_contains_slot ⟨_, hl1, rfl⟩ F.slot_list_contains (wpAny_mono (call_here F.slot_list_contains ⟨_, hl1, rfl⟩ F.entry_list_contains (F.args_list_contains_2 _ _)
    (list_inG (R := wants (fun v s' => ∃ b, v = .bool b ∧ Q (.bool (!b)) s') E) l x N I hl (fun s' q => ⟨false, rfl, fin s' q⟩) h)) (fun v s' hv => ?_) fun _ _ e => e))
  obtain ⟨b, rfl, hq⟩ := hv
  exact wpAny_truthy_bool (wpAny_pure hq)
end
end GQ
namespace Js
open PySem PySem.Spec PyProof.Rows L2
def rNotInT (D : Tells) : R2 := fun x y H Q => ∃ (p : Addr) (xs : List V) (bs : List Bool), y = .ref p ∧ H p = some (.lst xs) ∧ bs.length = xs.length ∧ (∀ (i : Nat) z b, xs[i]? = some z → bs[i]? = some b → D z x b H) ∧ ∀ H', Same H H' → Q (.bl (!bs.any id)) H'
theorem op_notInT {X : Cx} {n : Nat} {D : Tells} (h : EqT X n D) (mon : MonT D) (hr : Room (n + 1) X.A) : OpR X (compareOp .NotIn) (rNotInT D) := by
  intro pins s σ H x y v u Q I rx ry hq
  obtain ⟨p, xs, bs, rfl, hp, hl, hd, q⟩ := hq
  cases (show u = Value.ref p from ry)
  refine GQ.op_notin_listG (N := xs.length) (fun i s' => (∃ H', Inv X pins σ H' s' ∧ Same H H') ∧ (bs.take i).any id = false) (fun i s' z => ?_) (fun s' z => ?_) ⟨⟨H, I, Same.refl H⟩, by simp⟩
  · obtain ⟨⟨H1, I1, e1⟩, nb⟩ := z
    obtain ⟨z, its, k, r, e⟩ := I1.hok p _ (e1 _ _ hp)
    refine ⟨its.toArray, k, e, by rw [List.size_toArray, ← r.length], fun h1 => ?_⟩
    have h1' : i < its.length := by simpa using h1
    have k1 : i < xs.length := by rw [r.length]; exact h1'
    have k2 : i < bs.length := by rw [hl]; exact k1
    obtain ⟨w', hw, rw'⟩ := r.get (List.getElem?_eq_getElem k1)
    have g1 : its[i]? = some its.toArray[i] := by rw [List.getElem?_eq_getElem h1'] <;> simp
    rw [g1] at hw
    rw [Option.some.inj hw]
    refine wpAny_mono (h X.A.in1 pins s' σ H1 _ x w' v _ ⟨hr.in1, rfl⟩ I1 rw' rx (mon _ _ _ _ _ e1 (hd i _ _ (List.getElem?_eq_getElem k1) (List.getElem?_eq_getElem k2)))) (fun r' s2 q2 => ?_) fun _ _ x => x
    obtain ⟨er, H2, I2, e2⟩ := q2
    subst er
    have tk : (bs.take (i + 1)).any id = bs[i] := by
      rw [List.take_succ_eq_append_getElem k2, List.any_append, nb]
      simp
    cases hb : bs[i] with
    | true =>
      rw [if_pos rfl]
      refine ⟨true, rfl, .bl false, H2, I2, rfl, ?_⟩
      have qq := q H2 (e1.trans e2)
      have : bs.any id = true := List.any_eq_true.mpr ⟨bs[i], List.getElem_mem k2, by rw [hb]; rfl⟩
      rw [this] at qq
      exact qq
    | false =>
      rw [if_neg Bool.false_ne_true]
      exact ⟨⟨H2, I2, e1.trans e2⟩, by rw [tk, hb]⟩
  · obtain ⟨⟨H1, I1, e1⟩, nb⟩ := z
    rw [← hl, List.take_length] at nb
    have qq := q H1 e1
    rw [nb] at qq
    exact ⟨.bl true, H1, I1, rfl, qq⟩
section
variable {X : Cx} {C CP : Addr} {k : Nat}
def DPg (K : PySem.W.Frag) (C CP : Addr) : Tells := fun x y b H => ∃ a c r u, x = .ref a ∧ y = .ref c ∧ PgAt K C CP H a r ∧ PgAt K C CP H c u ∧ b = decide (r = u)
theorem DPg_mon {K : PySem.W.Frag} : MonT (DPg K C CP) := fun x y b H H' s d => by
  obtain ⟨a, c, r, u, e1, e2, h1, h2, e3⟩ := d
  exact ⟨a, c, r, u, e1, e2, h1.same s, h2.same s, e3⟩
theorem PgAt_inj {pins : List (Addr × Obj)} {σ : L2.St} {H : Hp} {s : Shared} (I : Inv X pins σ H s) {a : Addr} {r u : List Dd} (h : PgAt X.K C CP H a r) (g : PgAt X.K C CP H a u) : r = u := by
  obtain ⟨dx, q, pl, ys, h1, h2, _⟩ := h.ex
  obtain ⟨dx', q', pl', ys', g1, g2, _⟩ := g.ex
  have e := Option.some.inj (h1.symm.trans g1)
  injection e with _ _ e3
  have e4 := congrArg (List.lookup ("deeds" : Str)) e3
  rw [pf_deeds, pf_deeds] at e4
  cases V.ref.inj (Option.some.inj e4)
  exact RAt_inj I h2 g2
theorem rcT_P (S : Spc X.prog X.w X.K X.mg X.base CP "__eq__" k ["self", "other"] (spPEq X.K C CP)) : RcT X .Eq id k (DPg X.K C CP) := by
  obtain ⟨f, fd, ow, F, hb⟩ := S
  intro A pins s σ H x y u v r sb I rx ry d
  obtain ⟨a, c, r1, r2, rfl, rfl, h1, h2, rfl⟩ := d
  cases rx
  cases ry
  obtain ⟨dx, q, pl, ys, g1, _⟩ := h1.ex
  obtain ⟨dy, q', pl', ys', g2, _⟩ := h2.ex
  have e0 : Env0 X.prog X.w X.K X.mg X.base A X.stack s H := by
    have e := I.env0
    exact ⟨by rw [sb.fr]; exact e.frames, e.mod, e.bs, e.bsz, e.funs, e.frf, e.hok, e.bare⟩
  refine wpAny_mono (rc_own (Q := fun b H' => b = decide (r1 = r2) ∧ Same H H') ow F hb sb.room e0 pass0 I g1 g2 ⟨a, c, r1, r2, rfl, h1, h2, fun H' s' => ⟨_, rfl, rfl, s'⟩⟩) (fun w s' z => ?_) fun _ _ x => x
  obtain ⟨b, rfl, H', I', rfl, sm⟩ := z
  exact ⟨rfl, H', I', sm⟩
theorem eqT_P (S : Spc X.prog X.w X.K X.mg X.base CP "__eq__" k ["self", "other"] (spPEq X.K C CP)) : EqT X k (DPg X.K C CP) :=
  RcT.eqT (rcT_P S) (fun x y r H d => let ⟨a, c, _, _, e1, e2, _⟩ := d; ⟨a, c, e1, e2⟩) fun pins s σ H x r I d => by
    obtain ⟨a, c, r1, r2, e1, e2, h1, h2, rfl⟩ := d
    cases e1
    cases e2
    exact decide_eq_true (PgAt_inj I h1 h2)
theorem op_neP (S : Spc X.prog X.w X.K X.mg X.base CP "__eq__" k ["self", "other"] (spPEq X.K C CP)) (TP : TxtP X.K X.mg CP) (hr : Room (k + 1) X.A) : OpR X (compareOp .NotEq) (rCmpT (DPg X.K C CP) not) := by
  obtain ⟨f, fd, ow, F, hb⟩ := S
  refine OpR.imp (op_neOwn ow ⟨TP.ne, TP.cm⟩ F hb hr (pass0)) fun x y H Q h => ?_
  obtain ⟨b, ⟨a, c, r, u, rfl, rfl, h1, h2, rfl⟩, q⟩ := h
  obtain ⟨dx, q1, pl, ys, g1, _⟩ := h1.ex
  obtain ⟨dy, q', pl', ys', g2, _⟩ := h2.ex
  exact ⟨a, dx, _, c, dy, _, rfl, rfl, g1, g2, a, c, r, u, rfl, h1, h2, fun H' s => ⟨_, rfl, q H' s⟩⟩
theorem call_lenP (S : Spc X.prog X.w X.K X.mg X.base CP "__len__" 1 ["self"] (spPLen X.K C CP)) (hr : Room 2 X.A) : CallR X (.builtin "len") (fun xs H Q => ∃ a r, xs = [.ref a] ∧ PgAt X.K C CP H a r ∧ Q (.int ((manyR r : Nat) : Int)) H) := by
  obtain ⟨f, fd, ow, F, hb⟩ := S
  refine CallR.imp (call_lenOwn ow F hb hr (pass0)) fun xs H Q h => ?_
  obtain ⟨a, r, rfl, ha, q⟩ := h
  obtain ⟨dx, q1, pl, ys, g1, _⟩ := ha.ex
  have := ha.mn
  exact ⟨a, dx, _, rfl, g1, a, r, rfl, ha, _, rfl, by omega, q⟩
theorem call_boolP (S : Spc X.prog X.w X.K X.mg X.base CP "__len__" 1 ["self"] (spPLen X.K C CP)) (nb : PySem.W.findIn X.K (.ref CP) "__bool__" = some none) (hr : Room 4 X.A) : CallR X (.type "bool") (fun xs H Q => ∃ a r, xs = [.ref a] ∧ PgAt X.K C CP H a r ∧ Q (.bl (((manyR r : Nat) : Int) != 0)) H) := by
  obtain ⟨f, fd, o, F, hb⟩ := S
  intro pins s σ H xs us Q I r h
  obtain ⟨a, t, rfl, ha, q⟩ := h
  obtain ⟨u, rfl, ru⟩ := vals1 r
  cases (show u = Value.ref a from ru)
  obtain ⟨dx, q1, pl, ys, g1, _⟩ := ha.ex
  have hm := ha.mn
  obtain ⟨od, J⟩ := inst_of I g1
  have hr3 : Room 1 X.A.in1.in1.in1 := (show Room 2 X.A.in1.in1 from (show Room 3 X.A.in1 from hr.in1).in1).in1
  refine JsLow.call_boolV (JsLow.truth_len I.kIn J nb o.at_ o.fn (wpAny_mono (run_fnA (us := [.ref a]) (vs := [.ref a]) (Q := fun z H' => z = .int ((manyR t : Nat) : Int) ∧ H' = H) F hr3 I.env0.in1.in1.in1 hb pass0 I (.cons rfl .nil) ⟨a, t, rfl, ha, rfl, rfl⟩) (fun w s' z => ?_) fun _ _ x => x))
  obtain ⟨z', H', I', rz, rfl, rfl⟩ := z
  obtain ⟨t', rfl⟩ := (show ∃ t', w = Value.int ((manyR t : Nat) : Int) t' from rz)
  exact ⟨_, _, rfl, by omega, by omega, fun tk => ⟨.bl _, _, I'.tok tk, rfl, q⟩⟩
/-- x == y, x of the class at C with its own ==, y of another kind -/
theorem op_eqNk (S : Spc X.prog X.w X.K X.mg X.base C "__eq__" k ["self", "other"] (spEqN X.K C)) (hr : Room k X.A) : OpR X (compareOp .Eq) (rEqN X.K C) := by
  obtain ⟨f, fd, o, F, hb⟩ := S
  intro pins s σ H x y v u Q I rx ry h
  obtain ⟨a, dx, fs, rfl, ha, ⟨t, hty, hnf, hkt⟩, q⟩ := h
  cases (show v = Value.ref a from rx)
  show wpAny _ _ (richCompare .Eq (.ref a) u) _ _ _
  obtain ⟨od, J⟩ := inst_of I ha
  obtain ⟨m, hF⟩ := I.fr
  obtain ⟨Z, kx, hZ, _⟩ := kit_of I ry hty
  refine PySem.W.cmp_K (op := .Eq) (tb := t) hr.units0 hF I.ok.mod.kin J (kx.ty _ _ I.kIn hZ) hnf o.at_ o.fn (wpAny_mono (run_fnA (us := [.ref a, u]) (vs := [.ref a, y]) (Q := fun z H' => z = .bl false ∧ Q (.bl false) H') F hr I.env0 hb pass0 I (.cons rfl (.cons ry .nil)) ⟨a, y, rfl, ⟨t, hty, hnf, hkt⟩, rfl, q⟩) (fun w s' z => ?_) fun _ _ x => x)
  obtain ⟨z', H', I', rz, rfl, qz⟩ := z
  cases (show w = Value.bool false from rz)
  exact ⟨.bl false, H', I', rfl, qz⟩
/-- a built-in value ahead of a program: None, a text, a whole number, a tuple, a list -/
def Blt5 (K : PySem.W.Frag) (H : Hp) (x : V) : Prop := x = .non ∨ (∃ z, x = .str z) ∨ (∃ i, x = .int i) ∨ (∃ p xs, x = .ref p ∧ SqT K H p xs) ∨ ∃ p xs, x = .ref p ∧ SqL K H p xs
def rEqBf (K : PySem.W.Frag) (CP : Addr) : R2 := fun x y H Q => ∃ a dx fs, y = .ref a ∧ H a = some (.ins CP dx fs) ∧ Blt5 K H x ∧ NoTh K CP H x ∧ Q (.bl false) H
theorem op_eqBf (S : Spc X.prog X.w X.K X.mg X.base CP "__eq__" k ["self", "other"] (spEqN X.K CP)) (hs : ∀ n ∈ ["NoneType", "str", "int", "tuple", "list"], PySem.W.subIn X.K (.ref CP) (.type n) = some false) (hr : Room k X.A) : OpR X (compareOp .Eq) (rEqBf X.K CP) := by
  obtain ⟨f, fd, o, F, hb⟩ := S
  intro pins s σ H x y u v Q I rx ry h
  obtain ⟨a, dx, fs, rfl, ha, h5, hn, q⟩ := h
  cases (show v = Value.ref a from ry)
  obtain ⟨od, J⟩ := inst_of I ha
  have hx : s.heap.get? a = some (PySem.W.instObj CP dx) := (show ObjOk X.prog X.w H s.heap a (.ins CP dx _) from I.hok a _ ha).2.2.2.1
  have fin : ∀ tk, wpAny (model X.prog X.w) X.A (call (.ref f) [.ref a, u]) (PySem.W.CmpBack (EP X pins σ Q)) X.xe { s with toks := tk } := by
    intro tk
    refine wpAny_mono (run_fnA (us := [.ref a, u]) (vs := [.ref a, x]) (Q := fun z H' => z = .bl false ∧ H' = H) F hr (I.tok tk).env0 hb pass0 (I.tok tk) (.cons rfl (.cons rx .nil)) ⟨a, x, rfl, hn, rfl, rfl⟩) (fun w s' z => ?_) fun _ _ x => x
    obtain ⟨z', H', I', rz, rfl, rfl⟩ := z
    cases (show w = Value.bool false from rz)
    exact ⟨.bl false, _, I', rfl, q⟩
  show wpAny _ _ (richCompare .Eq u (.ref a)) _ _ _
  rcases h5 with rfl | ⟨z, rfl⟩ | ⟨i, rfl⟩ | ⟨p, xs, rfl, hp⟩ | ⟨p, xs, rfl, hp⟩
  · cases (show u = Value.none from rx)
    exact JsLow.refl_K (T := "NoneType") hr.units0 I.kIn J rfl rfl (hs _ (by simp)) JsLow.dec_none o.at_ o.fn fin
  · obtain ⟨t', rfl⟩ := (show ∃ t', u = Value.str z t' from rx)
    exact JsLow.refl_K (T := "str") hr.units0 I.kIn J (typeIs_str s z t') rfl (hs _ (by simp)) (JsLow.dec_str hx) o.at_ o.fn fin
  · obtain ⟨t', rfl⟩ := (show ∃ t', u = Value.int i t' from rx)
    exact JsLow.refl_K (T := "int") hr.units0 I.kIn J (typeIs_int s i t') rfl (hs _ (by simp)) (JsLow.dec_int hx) o.at_ o.fn fin
  · cases (show u = Value.ref p from rx)
    obtain ⟨us, _, ht, _⟩ := I.tuple hp
    exact JsLow.refl_K (T := "tuple") hr.units0 I.kIn J ht.typeIs rfl (hs _ (by simp)) (JsLow.dec_tup I.kIn J ht.typeIs (hs _ (by simp))) o.at_ o.fn fin
  · cases (show u = Value.ref p from rx)
    obtain ⟨us, _, ht, _⟩ := I.list hp
    exact JsLow.refl_K (T := "list") hr.units0 I.kIn J ht.isList.typeIs rfl (hs _ (by simp)) (JsLow.dec_lst I.kIn J ht.isList.typeIs (hs _ (by simp))) o.at_ o.fn fin
theorem OpR.or {f : Value → Value → Sem Value} {r r' : R2} (h : OpR X f r) (h' : OpR X f r') : OpR X f (fun x y H Q => r x y H Q ∨ r' x y H Q) := fun pins s σ H x y v u Q I rx ry q => q.elim (h pins s σ H x y v u Q I rx ry) (h' pins s σ H x y v u Q I rx ry)
end
section
variable {P : Program} {w : World} {K : PySem.W.Frag} {mg : Str → Option Value} {base : Heap} {C CP : Addr}
theorem ok_peqN {f : Addr} {fd : FuncData} (F : Fun K "__eq__" "Program.__eq__" sPEq f fd) (T : Txt K mg C) (TP : TxtP K mg CP) (SE : Spc P w K mg base C "__eq__" 2 ["self", "other"] (spEqT C)) : FnOk P w K mg base CX0 21 f fd ["self", "other"] (spEqN K CP) := by
  refine F.ok scPE (fun vs H Q E h => ?_) (fun cdv A outer s H vs Q E hr h => ?_)
  · obtain ⟨a, y, rfl, _⟩ := h
    rfl
  · obtain ⟨a, y, rfl, ⟨t, hty, hnf, hkt⟩, k⟩ := h
    refine ⟨_, pss_one (ps_ret (pe_and (pe_callB (r := rIsi K) call_isi (by rfl) T.isi PyProof.Rows.boot_isinstance (pa_cons (pv 1) (pa_cons (pe_glob (v := .ref CP) rfl TP.mgP rfl) pa_nil))) (pe_one (pe_cmpR (op_eqTl (eqT_rows SE 9).2.1 hr) (pe_fld (pv 0) rfl) (pe_fld (pv 1) rfl) (nomark _))))), ?_⟩
    exact ⟨_, rfl, _, _, _, _, false, rfl, ClsV.own CP, hty, hkt, false, rfl, iteF k⟩
end
end Js

set_option Elab.async false
set_option linter.all false
set_option maxRecDepth 100000
namespace Js
open PySem L2
/-- rows joined by what holds between them -/
theorem seq_ex {ta tb : TS} {D : Ends} {σ : L2.St} {H : Hp} (Pst : L2.St → Hp → Prop) (h : ∀ N : L2.St → Hp → Prop, (∀ σ' H', Pst σ' H' → N σ' H') → ta { D with nx := N } σ H) (k : ∀ σ' H', Pst σ' H' → tb D σ' H') : tSeq ta tb D σ H := h _ k
end Js

set_option Elab.async false
set_option linter.all false
set_option maxRecDepth 100000
set_option maxHeartbeats 2000000
namespace Js
open PySem L2
open PySem.Spec PyProof.Rows
abbrev sCutSt : Stmt := top 40
def nmC (cs : List Cu) (a : Nat) : Cu := cs.getD a .any
def hdC : Bool → Cu → Cu
  | false, .pr x _ => x
  | true, .pr _ y => y
  | _, c => c
def yesC : Cu := .pr .nil .nil
def sameC : Option Bool → List Cu
  | none => [yesC, .nil]
  | some true => [yesC]
  | some false => [.nil]
/-- what the first name of a deed that is no look may come to stand for -/
def mkC (cs : List Cu) (dep : Nat) : Dd → List Cu
  | .told _ t => [cutC dep t]
  | .take s _ b => [hdC s (nmC cs b)]
  | .two false _ b c => [.pr (nmC cs b) (nmC cs c)]
  | .two true _ b c => sameC (same3 (nmC cs b) (nmC cs c))
  | _ => []
def CsAt (K : PySem.W.Frag) (H : Hp) (q : Addr) (cs : List Cu) : Prop := ∃ us, SqT K H q us ∧ Paired (CuAt K H) us cs
theorem cus_kt {K : PySem.W.Frag} {H H' : Hp} (k : KT H H') : ∀ {us : List V} {cs : List Cu}, Paired (CuAt K H) us cs → Paired (CuAt K H') us cs
  | _, _, .nil => .nil
  | _, _, .cons h t => .cons (h.kt k) (cus_kt k t)
theorem CsAt.kt {K : PySem.W.Frag} {H H' : Hp} (k : KT H H') {q : Addr} {cs : List Cu} (h : CsAt K H q cs) : CsAt K H' q cs := by
  obtain ⟨us, h1, h2⟩ := h
  exact ⟨us, sqt_kt k h1, cus_kt k h2⟩
theorem CsAt.same {K : PySem.W.Frag} {H H' : Hp} (s : Same H H') {q : Addr} {cs : List Cu} (h : CsAt K H q cs) : CsAt K H' q cs := h.kt (KT.of s)
theorem CsAt.dp {K : PySem.W.Frag} {H : Hp} {q : Addr} {cs : List Cu} (h : CsAt K H q cs) : Dp K H (.ref q) (.tuple (cs.map Cu.d)) := by
  obtain ⟨us, h1, h2⟩ := h
  refine .tup h1 ?_
  clear h1
  induction h2 with
  | nil => exact .nil
  | cons h t ih => exact .cons h ih
theorem cs_get {K : PySem.W.Frag} {H : Hp} {us : List V} {cs : List Cu} (h : Paired (CuAt K H) us cs) {a : Nat} (ha : a < cs.length) : ∃ v, us[a]? = some v ∧ CuAt K H v (nmC cs a) := by
  have hl := Paired.length h
  have h1 : a < us.length := by omega
  obtain ⟨c, e, hv⟩ := paired_get h (List.getElem?_eq_getElem h1)
  refine ⟨_, List.getElem?_eq_getElem h1, ?_⟩
  rw [nmC, List.getD_eq_getElem?_getD, e]
  exact hv
theorem nmC_dep {cs : List Cu} {m : Nat} (h : ∀ c ∈ cs, c.dep ≤ m) (a : Nat) : (nmC cs a).dep ≤ m := by
  rw [nmC, List.getD_eq_getElem?_getD]
  cases e : cs[a]? with
  | none => exact Nat.zero_le _
  | some c => exact h c (List.mem_of_getElem? e)
theorem tk_f (s : Bool) : decide (V.str (takeS s) = V.str "first") = !s := by cases s <;> decide +kernel
theorem tk_s (s : Bool) : decide (V.str (takeS s) = V.str "second") = s := by cases s <;> decide +kernel
theorem tk_t (s : Bool) : decide (V.str (takeS s) = V.str "told") = false := by cases s <;> decide +kernel
theorem tw_t (s : Bool) : decide (V.str (twoS s) = V.str "told") = false := by cases s <;> decide +kernel
theorem tw_f (s : Bool) : decide (V.str (twoS s) = V.str "first") = false := by cases s <;> decide +kernel
theorem tw_s (s : Bool) : decide (V.str (twoS s) = V.str "second") = false := by cases s <;> decide +kernel
theorem tw_p (s : Bool) : decide (V.str (twoS s) = V.str "pair") = !s := by cases s <;> decide +kernel
theorem td_t : decide (V.str "told" = V.str "told") = true := by decide +kernel
theorem at2c (x y z : V) (xs : List V) : atI (x :: y :: z :: xs) 2 = some z := by
  have h : atI (x :: y :: z :: xs) ((2 : Nat) : Int) = some z := atI_nat rfl
  exact h
theorem at3c (x y z u : V) (xs : List V) : atI (x :: y :: z :: u :: xs) 3 = some u := by
  have h : atI (x :: y :: z :: u :: xs) ((3 : Nat) : Int) = some u := atI_nat rfl
  exact h
def spCutsM (K : PySem.W.Frag) (C : Addr) : Sp := fun vs H Q _ => ∃ (dv : V) (d : Dd) (q : Addr) (cs : List Cu) (dep : Nat), vs = [dv, .ref q, .int (dep : Nat)] ∧ DAt K C H dv d ∧ d.look = false ∧ CsAt K H q cs ∧ cs.length = 10 ∧ (∀ c ∈ cs, c.dep ≤ 5) ∧ dep < 5 ∧
  ∀ l ws H', Same H H' → H l = none → H' l = some (.lst ws) → Paired (CuAt K H') ws (mkC cs dep d) → Q (.ref l) H'
section
variable {X : Cx}
/-- tuples of any values -/
def rCatV (K : PySem.W.Frag) : R2 := fun x y H Q => ∃ a b xs ys, x = .ref a ∧ y = .ref b ∧ SqT K H a xs ∧ SqT K H b ys ∧ xs.length + ys.length ≤ 100000 ∧ ∀ q H', Same H H' → SqT K H' q (xs ++ ys) → Q (.ref q) H'
theorem op_catV : OpR X (binaryOp .Add) (rCatV X.K) :=
  OpR.imp op_catA fun x y H Q h => by
    obtain ⟨a, b, xs, ys, rfl, rfl, h1, h2, hl, k⟩ := h
    have hsl := line4
    refine ⟨a, b, xs, ys, rfl, rfl, h1, h2, by omega, fun e0 => ?_, fun _ e1 => ?_, fun _ _ U nU => ?_⟩
    · subst e0
      exact k b H (Same.refl H) h2
    · subst e1
      exact k a H (Same.refl H) (by rw [List.append_nil]; exact h1)
    · exact k U _ (Same.new nU) (SqT.of upd_same)
def rTkV (K : PySem.W.Frag) : V → Option Int → Option Int → Hp → VK → Prop := fun x lo hi H Q => ∃ a xs, ∃ n : Nat, x = .ref a ∧ lo = none ∧ hi = some (n : Int) ∧ SqT K H a xs ∧ ∀ q H', Same H H' → SqT K H' q (xs.take n) → Q (.ref q) H'
theorem sl_tkV : SlR X (rTkV X.K) := by
  intro pins s σ H x v vl vu lo hi sl Q I rx hs pl pu h
  obtain ⟨a, xs, n, rfl, rfl, rfl, h1, k⟩ := h
  have eh : HT.sIx xs.length xs.length (some (n : Int)) = min n xs.length := HT.sIx_nat _ _ _
  refine sl_tupA pins s σ H _ v vl vu _ _ sl Q I rx hs pl pu ⟨a, xs, rfl, h1, fun hw => ?_, fun _ p np => ?_⟩
  · rw [eh] at hw
    refine k a H (Same.refl H) ?_
    rw [List.take_of_length_le (by omega)]
    exact h1
  · refine k p _ (Same.new np) ?_
    have ec : cutV xs none (some (n : Int)) = xs.take n := by
      unfold cutV
      rw [eh, HT.sIx_none, Nat.sub_zero, List.drop_zero, List.take_eq_take_iff]
      omega
    rw [← ec]
    exact SqT.of upd_same
def rDrV (K : PySem.W.Frag) : V → Option Int → Option Int → Hp → VK → Prop := fun x lo hi H Q => ∃ a xs, ∃ n : Nat, x = .ref a ∧ lo = some (n : Int) ∧ hi = none ∧ SqT K H a xs ∧ ∀ q H', Same H H' → SqT K H' q (xs.drop n) → Q (.ref q) H'
theorem sl_drV : SlR X (rDrV X.K) := by
  intro pins s σ H x v vl vu lo hi sl Q I rx hs pl pu h
  obtain ⟨a, xs, n, rfl, rfl, rfl, h1, k⟩ := h
  have eh : HT.sIx xs.length 0 (some (n : Int)) = min n xs.length := HT.sIx_nat _ _ _
  refine sl_tupA pins s σ H _ v vl vu _ _ sl Q I rx hs pl pu ⟨a, xs, rfl, h1, fun hw => ?_, fun _ p np => ?_⟩
  · rw [eh] at hw
    refine k a H (Same.refl H) ?_
    by_cases hn : n = 0
    · rw [hn, List.drop_zero]
      exact h1
    · have hx : xs.length = 0 := by omega
      have : xs = [] := List.length_eq_zero_iff.mp hx
      rw [this] at h1 ⊢
      rw [List.drop_nil]
      exact h1
  · refine k p _ (Same.new np) ?_
    have ec : cutV xs (some (n : Int)) none = xs.drop n := by
      unfold cutV
      rw [eh, HT.sIx_none]
      by_cases hn : n ≤ xs.length
      · rw [Nat.min_eq_left hn, List.take_of_length_le (by rw [List.length_drop]; exact Nat.le_refl _)]
      · rw [Nat.min_eq_right (by omega), List.drop_length, List.drop_of_length_le (by omega), List.take_nil]
    rw [← ec]
    exact SqT.of upd_same
end
section
variable {P : Program} {w : World} {K : PySem.W.Frag} {mg : Str → Option Value} {base : Heap} {C CP aY : Addr}
theorem scCm : FnScope ["deed", "cuts", "depth", "kind", "one", "other", "alike"] ["deed", "cuts", "depth"] (defScope sCutsM) := ⟨rfl, rfl, rfl, by decide +kernel, rfl, by decide +kernel, by decide +kernel⟩
theorem ok_cutsM {f : Addr} {fd : FuncData} (F : Fun K "cuts_made" "cuts_made" sCutsM f fd) (mgY : mg "YES" = some (.ref aY)) (hY : ∀ H, CuAt K H (.ref aY) yesC) (DC : Def P w K mg base "cut" 6 ["thing", "depth"] (spCut K C 5)) (DSs : Def P w K mg base "surely_same" 7 ["one", "other"] (spSame3 K 6)) : FnOk P w K mg base CX0 8 f fd ["deed", "cuts", "depth"] (spCutsM K C) := by
  refine F.ok scCm (fun vs H Q E h => ?_) (fun cdv A outer s H vs Q E hr h => ?_)
  · obtain ⟨dv, d, q, cs, dep, rfl, _⟩ := h
    rfl
  · obtain ⟨dv, d, q, cs, dep, rfl, hd, hlk, ⟨us, hq, hus⟩, hl10, hcd, hdep, k⟩ := h
    have hr6 : Room 6 _ := hr.mono (by decide)
    have hr7 : Room 7 _ := hr
    refine ⟨_, pss_cons (ps_set (i := 3) scCm.nd rfl (Or.inl rfl) (pe_ix (r := rIxT K) ix_tup (pv 0) pe_int (fun _ _ => rfl))) (pss_cons (ps_if (pt_cmpR op_eq (pv 3) pe_str (nomark _)) (pss_one (ps_ret (pe_lst (pa_cons (pe_def DC hr6 rfl (pa_cons (pe_ix (r := rIxT K) ix_tup (pv 0) pe_int (fun _ _ => rfl)) (pa_cons (pv 2) pa_nil))) pa_nil)))) pss_nil) (pss_cons (ps_set (i := 4) scCm.nd rfl (Or.inl rfl) (pe_ix (r := rIxT K) ix_tup (pv 1) (pe_ix (r := rIxT K) ix_tup (pv 0) pe_int (fun _ _ => rfl)) (fun _ _ => rfl))) (pss_cons (ps_if (pt_cmpR op_eq (pv 3) pe_str (nomark _)) (pss_one (ps_ret (pe_lst (pa_cons (pe_ifExp (pt_truth (pv 4) (by intro _; rfl)) (pe_ix (r := rIxT K) ix_tup (pv 4) pe_int (fun _ _ => rfl)) (pv 4)) pa_nil)))) pss_nil) (pss_cons (ps_if (pt_cmpR op_eq (pv 3) pe_str (nomark _)) (pss_one (ps_ret (pe_lst (pa_cons (pe_ifExp (pt_truth (pv 4) (by intro _; rfl)) (pe_ix (r := rIxT K) ix_tup (pv 4) pe_int (fun _ _ => rfl)) (pv 4)) pa_nil)))) pss_nil) (pss_cons (ps_set (i := 5) scCm.nd rfl (Or.inl rfl) (pe_ix (r := rIxT K) ix_tup (pv 1) (pe_ix (r := rIxT K) ix_tup (pv 0) pe_int (fun _ _ => rfl)) (fun _ _ => rfl))) (pss_cons (ps_if (pt_cmpR op_eq (pv 3) pe_str (nomark _)) (pss_one (ps_ret (pe_lst (pa_cons (pe_tup (pa_cons (pv 4) (pa_cons (pv 5) pa_nil))) pa_nil)))) pss_nil) (pss_cons (ps_set (i := 6) scCm.nd rfl (Or.inl rfl) (pe_def DSs hr7 rfl (pa_cons (pv 4) (pa_cons (pv 5) pa_nil)))) (pss_cons (ps_if (pt_cmp (pc_isN (pv 6))) (pss_one (ps_ret (pe_lst (pa_cons (pe_glob (v := .ref aY) rfl mgY rfl) (pa_cons (pe_tup pa_nil) pa_nil))))) pss_nil) (pss_one (ps_ret (pe_ifExp (pt_truth (pv 6) (by intro _; rfl)) (pe_lst (pa_cons (pe_glob (v := .ref aY) rfl mgY rfl) pa_nil)) (pe_lst (pa_cons (pe_tup pa_nil) pa_nil))))))))))))), ?_⟩
    have hsl := line4
    have one : ∀ {G : Hp} {v : V} {c : Cu}, CuAt K G v c → mkC cs dep d = [c] → Same H G → ∀ l, G l = none → Q (.ref l) (upd G l (.lst [v])) := by
      intro G v c hv e sg l nl
      have sn := Same.new nl (o := .lst [v])
      refine k l [v] _ (sg.trans sn) (sg.free nl) upd_same ?_
      rw [e]
      exact .cons (hv.same sn) .nil
    cases d with
    | wh a r => cases hlk
    | iff a r o => cases hlk
    | told a t =>
      obtain ⟨p, x, rfl, hp, ha, hx, hz⟩ := hd
      refine ⟨_, rfl, p, _, 0, _, rfl, rfl, hp, at0 _ _, ?_⟩
      refine ⟨_, rfl, rfl, _, rfl, ?_⟩
      rw [td_t]
      refine iteT ?_
      refine ⟨_, rfl, p, _, 2, _, rfl, rfl, hp, at2c _ _ _ _, _, rfl, x, t, dep, rfl, hx, hdep, fun v H1 s1 hv => ⟨by show 1 ≤ sizeLine; decide, fun l nl => one (c := cutC dep t) ?_ rfl s1 l nl⟩⟩
      show Dp K H1 v (cutC dep t).d
      rw [cutC_d]
      exact hv
    | take s0 a b =>
      obtain ⟨p, rfl, hp, ha, hb⟩ := hd
      obtain ⟨v1, hv1, hc1⟩ := cs_get hus (a := b) (by omega)
      have hdp := nmC_dep hcd b
      refine ⟨_, rfl, p, _, 0, _, rfl, rfl, hp, at0 _ _, ?_⟩
      refine ⟨_, rfl, rfl, _, rfl, ?_⟩
      rw [tk_t]
      refine iteF ?_
      refine ⟨_, rfl, _, rfl, p, _, 2, _, rfl, rfl, hp, at2c _ _ _ _, q, _, _, _, rfl, rfl, hq, atI_nat hv1, ?_⟩
      have hk : mkC cs dep (.take s0 a b) = [hdC s0 (nmC cs b)] := rfl
      revert one
      rw [hk]
      generalize nmC cs b = c at *
      intro one
      refine ⟨_, rfl, rfl, _, rfl, ?_⟩
      rw [tk_f]
      cases s0 with
      | false =>
        refine iteT ?_
        cases c with
        | any =>
          have e1 := hc1.of_any
          subst e1
          refine ⟨_, rfl, false, rfl, iteF ⟨_, rfl, by show 1 ≤ sizeLine; decide, fun l nl => one (c := .any) hc1 rfl (Same.refl H) l nl⟩⟩
        | nil =>
          obtain ⟨aa, rfl, haa⟩ := hc1.of_nil
          refine ⟨_, rfl, false, .inr (.inl ⟨_, haa, rfl⟩), iteF ⟨_, rfl, by show 1 ≤ sizeLine; decide, fun l nl => one (c := .nil) hc1 rfl (Same.refl H) l nl⟩⟩
        | pr x y =>
          obtain ⟨aa, u1, u2, rfl, haa, hu1, hu2⟩ := hc1.of_pr
          refine ⟨_, rfl, true, .inr (.inl ⟨_, haa, rfl⟩), iteT ⟨_, rfl, aa, _, 0, _, rfl, rfl, haa, at0 _ _, by show 1 ≤ sizeLine; decide, fun l nl => one (c := x) hu1 rfl (Same.refl H) l nl⟩⟩
      | true =>
        refine iteF ?_
        refine ⟨_, rfl, rfl, _, rfl, ?_⟩
        rw [tk_s]
        refine iteT ?_
        cases c with
        | any =>
          have e1 := hc1.of_any
          subst e1
          refine ⟨_, rfl, false, rfl, iteF ⟨_, rfl, by show 1 ≤ sizeLine; decide, fun l nl => one (c := .any) hc1 rfl (Same.refl H) l nl⟩⟩
        | nil =>
          obtain ⟨aa, rfl, haa⟩ := hc1.of_nil
          refine ⟨_, rfl, false, .inr (.inl ⟨_, haa, rfl⟩), iteF ⟨_, rfl, by show 1 ≤ sizeLine; decide, fun l nl => one (c := .nil) hc1 rfl (Same.refl H) l nl⟩⟩
        | pr x y =>
          obtain ⟨aa, u1, u2, rfl, haa, hu1, hu2⟩ := hc1.of_pr
          refine ⟨_, rfl, true, .inr (.inl ⟨_, haa, rfl⟩), iteT ⟨_, rfl, aa, _, 1, _, rfl, rfl, haa, at1c _ _ _, by show 1 ≤ sizeLine; decide, fun l nl => one (c := y) hu2 rfl (Same.refl H) l nl⟩⟩
    | two s0 a b e =>
      obtain ⟨p, rfl, hp, ha, hb, he⟩ := hd
      obtain ⟨v1, hv1, hc1⟩ := cs_get hus (a := b) (by omega)
      obtain ⟨v2, hv2, hc2⟩ := cs_get hus (a := e) (by omega)
      have hd1 := nmC_dep hcd b
      have hd2 := nmC_dep hcd e
      refine ⟨_, rfl, p, _, 0, _, rfl, rfl, hp, at0 _ _, ?_⟩
      refine ⟨_, rfl, rfl, _, rfl, ?_⟩
      rw [tw_t]
      refine iteF ?_
      refine ⟨_, rfl, _, rfl, p, _, 2, _, rfl, rfl, hp, at2c _ _ _ _, q, _, _, _, rfl, rfl, hq, atI_nat hv1, ?_⟩
      refine ⟨_, rfl, rfl, _, rfl, ?_⟩
      rw [tw_f]
      refine iteF ?_
      refine ⟨_, rfl, rfl, _, rfl, ?_⟩
      rw [tw_s]
      refine iteF ?_
      refine ⟨_, rfl, _, rfl, p, _, 3, _, rfl, rfl, hp, at3c _ _ _ _ _, q, _, _, _, rfl, rfl, hq, atI_nat hv2, ?_⟩
      refine ⟨_, rfl, rfl, _, rfl, ?_⟩
      rw [tw_p]
      cases s0 with
      | false =>
        refine iteT ?_
        refine ⟨_, rfl, _, rfl, ?_⟩
        refine ⟨by show 2 ≤ sizeLine; decide, fun T1 nT1 => ?_⟩
        have s1 := Same.new nT1 (o := .tup [v1, v2])
        have e1 : (upd H T1 (.tup [v1, v2])) T1 = some (.tup [v1, v2]) := upd_same
        revert s1 e1
        generalize upd H T1 (.tup [v1, v2]) = H1
        intro s1 e1
        refine ⟨by show 1 ≤ sizeLine; decide, fun l nl => one (c := .pr (nmC cs b) (nmC cs e)) (Dp.tup (SqT.of e1) (.cons (hc1.same s1) (.cons (hc2.same s1) .nil))) rfl s1 l nl⟩
      | true =>
        refine iteF ?_
        refine ⟨_, rfl, _, rfl, v1, v2, _, _, rfl, hc1, hc2, by omega, by omega, by omega, fun H1 s1 => ?_⟩
        have hk : mkC cs dep (.two true a b e) = sameC (same3 (nmC cs b) (nmC cs e)) := rfl
        rw [hk] at one k
        revert one k
        generalize same3 (nmC cs b) (nmC cs e) = o3
        intro k one
        rcases o3 with _ | ⟨_ | _⟩
        · refine ⟨_, rfl, _, rfl, iteT ?_⟩
          refine ⟨by show 0 ≤ sizeLine; decide, fun T0 nT0 => ?_⟩
          have s2 := Same.new nT0 (o := .tup [])
          have e2 : (upd H1 T0 (.tup [])) T0 = some (.tup []) := upd_same
          revert s2 e2
          generalize upd H1 T0 (.tup []) = H2
          intro s2 e2
          refine ⟨by show 2 ≤ sizeLine; decide, fun l nl => ?_⟩
          have sn := Same.new nl (o := .lst [V.ref aY, .ref T0])
          have s12 := s1.trans s2
          exact k l _ _ (s12.trans sn) (s12.free nl) upd_same (.cons (hY _) (.cons (Dp.tup (SqT.of (sn _ _ e2)) .nil) .nil))
        · refine ⟨_, rfl, _, rfl, iteF ?_⟩
          refine ⟨_, rfl, false, rfl, iteF ?_⟩
          refine ⟨by show 0 ≤ sizeLine; decide, fun T0 nT0 => ?_⟩
          have s2 := Same.new nT0 (o := .tup [])
          have e2 : (upd H1 T0 (.tup [])) T0 = some (.tup []) := upd_same
          revert s2 e2
          generalize upd H1 T0 (.tup []) = H2
          intro s2 e2
          exact ⟨by show 1 ≤ sizeLine; decide, fun l nl => one (c := .nil) (Dp.tup (SqT.of e2) .nil) rfl (s1.trans s2) l nl⟩
        · refine ⟨_, rfl, _, rfl, iteF ?_⟩
          refine ⟨_, rfl, true, rfl, iteT ?_⟩
          exact ⟨by show 1 ≤ sizeLine; decide, fun l nl => one (c := yesC) (hY _) rfl s1 l nl⟩
end
end Js

set_option Elab.async false
set_option linter.all false
set_option maxRecDepth 100000
set_option maxHeartbeats 2000000
namespace Js
open PySem L2
open PySem.Spec PyProof.Rows
def spD (s : Nat × List Cu) : PyData := .tuple [.int s.1, .tuple (s.2.map Cu.d)]
def stepC0 (pl : List Pt) (pt : Nat) (cs : List Cu) (dep : Nat) : List (Nat × List Cu) := match pl[pt]? with
  | none => []
  | some x => if x.1.look then (waysC (nmC cs x.1.nm1) (x.2.getD 0 0) (x.2.getD 1 0)).map (fun w => (w, cs)) else (mkC cs dep x.1).map (fun c => (x.2.getD 0 0, cs.set x.1.nm1 (dwn dep c)))
def ddp : List (Nat × List Cu) → List (Nat × List Cu)
  | [a, b] => if PyData.eqv (spD a) (spD b) then [a] else [a, b]
  | xs => xs
def stepC (pl : List Pt) (pt : Nat) (cs : List Cu) (dep : Nat) : List (Nat × List Cu) := ddp (stepC0 pl pt cs dep)
def SpAt (K : PySem.W.Frag) (H : Hp) (v : V) (s : Nat × List Cu) : Prop := ∃ T q, v = .ref T ∧ SqT K H T [.int ((s.1 : Nat) : Int), .ref q] ∧ CsAt K H q s.2
theorem SpAt.kt {K : PySem.W.Frag} {H H' : Hp} (k : KT H H') {v : V} {s : Nat × List Cu} (h : SpAt K H v s) : SpAt K H' v s := by
  obtain ⟨T, q, e, h1, h2⟩ := h
  exact ⟨T, q, e, sqt_kt k h1, h2.kt k⟩
theorem sps_kt {K : PySem.W.Frag} {H H' : Hp} (k : KT H H') : ∀ {ws : List V} {xs : List (Nat × List Cu)}, Paired (SpAt K H) ws xs → Paired (SpAt K H') ws xs
  | _, _, .nil => .nil
  | _, _, .cons h t => .cons (h.kt k) (sps_kt k t)
theorem SpAt.dp {K : PySem.W.Frag} {H : Hp} {v : V} {s : Nat × List Cu} (h : SpAt K H v s) : Dp K H v (spD s) := by
  obtain ⟨T, q, rfl, h1, h2⟩ := h
  exact .tup h1 (.cons (.int _) (.cons h2.dp .nil))
theorem csD_lay : ∀ cs : List Cu, PyData.canLayAll0 (cs.map Cu.d) = true
  | [] => rfl
  | c :: cs => by
    have lay : ∀ c : Cu, c.d.canLay0 = true := by
      intro c
      induction c with
      | any => rfl
      | nil => rfl
      | pr a b ha hb => simp only [Cu.d, PyData.canLay0, PyData.canLayAll0, ha, hb, Bool.and_self]
    rw [List.map_cons, PyData.canLayAll0, lay c, csD_lay cs]
    rfl
theorem csD_dep {m : Nat} : ∀ cs : List Cu, (∀ c ∈ cs, c.dep ≤ m) → PyData.depthAll (cs.map Cu.d) ≤ m
  | [], _ => Nat.zero_le _
  | c :: cs, h => by
    have dep : ∀ c : Cu, c.d.depth ≤ c.dep := by
      intro c
      induction c with
      | any => simp [Cu.d, PyData.depth, Cu.dep]
      | nil => simp [Cu.d, PyData.depth, PyData.depthAll, Cu.dep]
      | pr a b ha hb =>
        simp only [Cu.d, PyData.depth, PyData.depthAll, Cu.dep]
        omega
    have h1 := csD_dep cs (fun c hc => h c (List.mem_cons_of_mem _ hc))
    have h2 := dep c
    have h3 := h c (List.mem_cons_self ..)
    rw [List.map_cons, PyData.depthAll]
    omega
theorem spD_shaped (s : Nat × List Cu) (h : ∀ c ∈ s.2, c.dep ≤ 20) : SeqAt.shaped (spD s) = true := by
  have h1 := csD_dep s.2 h
  show ((spD s).canLay0 && decide ((spD s).depth ≤ 64)) = true
  rw [Bool.and_eq_true]
  refine ⟨?_, decide_eq_true ?_⟩
  · simp only [spD, PyData.canLay0, PyData.canLayAll0, csD_lay, Bool.and_self]
  · simp only [spD, PyData.depth, PyData.depthAll]
    omega
theorem set_parts (cs : List Cu) (a : Nat) (c : Cu) (h : a < cs.length) : cs.take a ++ [c] ++ cs.drop (a + 1) = cs.set a c := by
  rw [List.append_assoc]
  exact (List.set_eq_take_append_cons_drop.trans (if_pos h)).symm
theorem paired_take {α β : Type} {R : α → β → Prop} : ∀ (n : Nat) {xs : List α} {ys : List β}, Paired R xs ys → Paired R (xs.take n) (ys.take n)
  | 0, _, _, _ => by rw [List.take_zero, List.take_zero]; exact .nil
  | _ + 1, _, _, .nil => .nil
  | n + 1, _, _, .cons h t => .cons h (paired_take n t)
theorem paired_drop {α β : Type} {R : α → β → Prop} : ∀ (n : Nat) {xs : List α} {ys : List β}, Paired R xs ys → Paired R (xs.drop n) (ys.drop n)
  | 0, _, _, h => h
  | _ + 1, _, _, .nil => .nil
  | n + 1, _, _, .cons _ t => paired_drop n t
theorem waysC_len (c : Cu) (x y : Nat) : (waysC c x y).length ≤ 2 := by cases c <;> simp [waysC]
theorem mkC_len (cs : List Cu) (dep : Nat) (d : Dd) : (mkC cs dep d).length ≤ 2 := by
  cases d with
  | told a t => simp [mkC]
  | take s a b => simp [mkC]
  | two s a b c =>
    cases s with
    | false => simp [mkC]
    | true =>
      simp only [mkC]
      rcases same3 (nmC cs b) (nmC cs c) with _ | ⟨_ | _⟩ <;> simp [sameC]
  | wh a r => simp [mkC]
  | iff a r o => simp [mkC]
theorem mkC_dep {cs : List Cu} {dep : Nat} (h : ∀ c ∈ cs, c.dep ≤ 5) (hd : dep ≤ 5) (d : Dd) : ∀ c ∈ mkC cs dep d, c.dep ≤ 6 := by
  intro c hc
  cases d with
  | told a t =>
    cases List.mem_singleton.mp hc
    have := cutC_dep dep t
    omega
  | take s a b =>
    cases List.mem_singleton.mp hc
    have h1 := nmC_dep h b
    revert h1
    generalize nmC cs b = x
    intro h1
    cases s <;> cases x <;> simp only [hdC, Cu.dep] at * <;> omega
  | two s a b e =>
    have h1 := nmC_dep h b
    have h2 := nmC_dep h e
    cases s with
    | false =>
      cases List.mem_singleton.mp hc
      rw [Cu.dep]
      omega
    | true =>
      simp only [mkC] at hc
      revert hc
      rcases same3 (nmC cs b) (nmC cs e) with _ | ⟨_ | _⟩
      · intro hc
        simp only [sameC, List.mem_cons, List.not_mem_nil, or_false] at hc
        rcases hc with rfl | rfl <;> decide
      · intro hc
        cases List.mem_singleton.mp hc
        decide
      · intro hc
        cases List.mem_singleton.mp hc
        decide
  | wh a r => cases hc
  | iff a r o => cases hc
def spCutSt (K : PySem.W.Frag) (C CP : Addr) : Sp := fun vs H Q _ => ∃ (a st q : Addr) (r : List Dd) (pt : Nat) (cs : List Cu) (dep : Nat), vs = [.ref a, .ref st, .int (dep : Nat)] ∧ PgAt K C CP H a r ∧ SqT K H st [.int (pt : Nat), .ref q] ∧ CsAt K H q cs ∧ cs.length = 10 ∧ (∀ c ∈ cs, c.dep ≤ 5) ∧ dep < 5 ∧ pt ≤ manyR r ∧
  ∀ l ws H', Same H H' → H l = none → H' l = some (.lst ws) → Paired (SpAt K H') ws (stepC (planR r) pt cs dep) → Q (.ref l) H'
section
variable {P : Program} {w : World} {K : PySem.W.Frag} {mg : Str → Option Value} {base : Heap} {C CP aY : Addr}
theorem scCs : FnScope ["program", "stand", "depth", "point", "cuts", "deed", "ways", "name", "found", "made", "way", "told"] ["program", "stand", "depth"] (defScope sCutSt) := ⟨rfl, rfl, rfl, by decide +kernel, rfl, by decide +kernel, by decide +kernel⟩
theorem ok_cutSt {f : Addr} {fd : FuncData} (F : Fun K "cut_steps" "cut_steps" sCutSt f fd) (B : Blt mg) (TP : TxtP K mg CP) (SPL : Spc P w K mg base CP "__len__" 1 ["self"] (spPLen K C CP)) (DWt : Def P w K mg base "ways_taken" 1 ["told", "ways"] (spWaysT K)) (DCm : Def P w K mg base "cuts_made" 8 ["deed", "cuts", "depth"] (spCutsM K C)) (DCa : Def P w K mg base "cut_again" 6 ["told", "depth"] (spCutA K 5)) : FnOk P w K mg base CX0 9 f fd ["program", "stand", "depth"] (spCutSt K C CP) := by
  refine F.ok scCs (fun vs H Q E h => ?_) (fun cdv A outer s H vs Q E hr h => ?_)
  · obtain ⟨a, st, q, r, pt, cs, dep, rfl, _⟩ := h
    rfl
  · obtain ⟨a, st, q, r, pt, cs, dep, rfl, ha, hst, hq, hl10, hcd, hdep, hpt, k⟩ := h
    have hr1 : Room 1 _ := hr.mono (by decide)
    have hr2 : Room 2 _ := hr.mono (by decide)
    have hr6 : Room 6 _ := hr.mono (by decide)
    have hr8 : Room 8 _ := hr
    refine ⟨_, pss_cons (ps_asg (pv 1) (pg_tup rfl (pgs_cons (pg_name (i := 3) scCs.nd rfl (Or.inl rfl)) (pgs_cons (pg_name (i := 4) scCs.nd rfl (Or.inr rfl)) pgs_nil)))) (pss_cons (ps_if (pt_cmpR op_eq (pv 3) (pe_callB (call_lenP SPL hr2) (by rfl) B.len PySem.boot_len (pa_cons (pv 0) pa_nil)) (nomark _)) (pss_one (ps_ret (pe_lst pa_nil))) pss_nil) (pss_cons (ps_asg (pe_ix (r := rIxT K) ix_tup (pe_fld (pv 0) rfl) (pv 3) (fun _ _ => rfl)) (pg_tup rfl (pgs_cons (pg_name (i := 5) scCs.nd rfl (Or.inl rfl)) (pgs_cons (pg_name (i := 6) scCs.nd rfl (Or.inr rfl)) pgs_nil)))) (pss_cons (ps_set (i := 7) scCs.nd rfl (Or.inr rfl) (pe_ix (r := rIxT K) ix_tup (pv 5) pe_int (fun _ _ => rfl))) (pss_cons (ps_if (pt_cmpR op_eq (pe_callB call_len_seq (by rfl) B.len PySem.boot_len (pa_cons (pv 6) pa_nil)) pe_int (nomark _)) (pss_one (ps_setLc (i := 8) (own := [("way", 10)]) (g := gName 10) (tt := tYes) rfl scCs.nd rfl rfl (sw_true rfl rfl rfl (by decide +kernel)) (pi_list (pe_def DWt hr1 rfl (pa_cons (pe_ix (r := rIxT K) ix_tup (pv 4) (pv 7) (fun _ _ => rfl)) (pa_cons (pv 6) pa_nil)))) (blkOk_by (N := ["program", "stand", "depth", "point", "cuts", "deed", "ways", "name", "found", "made", "way", "told"]) (sc := defScope sCutSt) (by decide +kernel)) (fun _ _ _ _ _ => (pg_name (i := 10) scCs.nd rfl (Or.inl rfl))) (fun _ _ _ _ _ => pts_nil) (fun _ _ _ _ _ => (pe_tup (pa_cons (pv 10) (pa_cons (pv 4) pa_nil)))))) (pss_cons (ps_setLc (i := 9) (own := [("told", 11)]) (g := gName 11) (tt := tYes) rfl scCs.nd rfl rfl (sw_true rfl rfl rfl (by decide +kernel)) (pi_list (pe_def DCm hr8 rfl (pa_cons (pv 5) (pa_cons (pv 4) (pa_cons (pv 2) pa_nil))))) (blkOk_by (N := ["program", "stand", "depth", "point", "cuts", "deed", "ways", "name", "found", "made", "way", "told"]) (sc := defScope sCutSt) (by decide +kernel)) (fun _ _ _ _ _ => (pg_name (i := 11) scCs.nd rfl (Or.inl rfl))) (fun _ _ _ _ _ => pts_nil) (fun _ _ _ _ _ => (pe_def DCa hr6 rfl (pa_cons (pv 11) (pa_cons (pv 2) pa_nil))))) (pss_one (ps_setLc (i := 8) (own := [("told", 11)]) (g := gName 11) (tt := tYes) rfl scCs.nd rfl rfl (sw_true rfl rfl rfl (by decide +kernel)) (pi_list (pv 9)) (blkOk_by (N := ["program", "stand", "depth", "point", "cuts", "deed", "ways", "name", "found", "made", "way", "told"]) (sc := defScope sCutSt) (by decide +kernel)) (fun _ _ _ _ _ => (pg_name (i := 11) scCs.nd rfl (Or.inl rfl))) (fun _ _ _ _ _ => pts_nil) (fun _ _ _ _ _ => (pe_tup (pa_cons (pe_ix (r := rIxT K) ix_tup (pv 6) pe_int (fun _ _ => rfl)) (pa_cons (pe_op (r := rCatV K) op_catV (pe_op (r := rCatV K) op_catV (pe_slice (r := rTkV K) sl_tkV (pv 4) po_none (po_some (pv 7))) (pe_tup (pa_cons (pv 11) pa_nil))) (pe_slice (r := rDrV K) sl_drV (pv 4) (po_some (pe_op op_add (pv 7) pe_int)) po_none)) pa_nil)))))))) (pss_cons (ps_if (PW.pt (pw_and (pt_cmpR op_eq (pe_callB call_len_seq (by rfl) B.len PySem.boot_len (pa_cons (pv 8) pa_nil)) pe_int (nomark _)) (pw_and1 (pt_cmpR (op_eqD hr.units) (pe_ix (r := rIxL K) ix_list (pv 8) pe_int (fun _ _ => rfl)) (pe_ix (r := rIxL K) ix_list (pv 8) pe_int (fun _ _ => rfl)) (nomark _))))) (pss_one (ps_ret (pe_slice sl_list (pv 8) po_none (po_some pe_int)))) pss_nil) (pss_one (ps_ret (pv 8)))))))), ?_⟩
    have hsl := line4
    refine ⟨_, rfl, st, _, rfl, hst, rfl, _, _, rfl, _, _, rfl, rfl, ?_⟩
    refine ⟨_, rfl, _, rfl, a, r, rfl, ha, rfl, _, rfl, ?_⟩
    by_cases hend : pt = manyR r
    · rw [decide_eq_true (show V.int ((pt : Nat) : Int) = V.int ((manyR r : Nat) : Int) by rw [hend])]
      refine iteT ?_
      refine ⟨Nat.zero_le _, fun l nl => k l [] _ (Same.new nl) nl upd_same ?_⟩
      have hn : (planR r)[pt]? = none := by rw [List.getElem?_eq_none_iff, planR_len]; omega
      have e0 : stepC (planR r) pt cs dep = [] := by unfold stepC stepC0; rw [hn]; rfl
      rw [e0]
      exact .nil
    rw [decide_eq_false (show ¬ V.int ((pt : Nat) : Int) = V.int ((manyR r : Nat) : Int) from fun z => hend (by have := V.int.inj z; omega))]
    refine iteF ?_
    obtain ⟨dx, q', pl, ys, h1, h2, h3, h4⟩ := id ha.ex
    have hlen := Paired.length h4
    have hlt : pt < (planR r).length := by rw [planR_len]; omega
    obtain ⟨x, hx⟩ : ∃ x, (planR r)[pt]? = some x := ⟨_, List.getElem?_eq_getElem hlt⟩
    have hpt' : pt < ys.length := by rw [hlen]; exact hlt
    obtain ⟨x', hx', t, wv, dv, hyt, ht, hw, hdv⟩ := paired_get h4 (List.getElem?_eq_getElem hpt')
    have hxx : x' = x := Option.some.inj (hx'.symm.trans hx)
    subst hxx
    obtain ⟨hwl, hwm⟩ := plan_ways hx
    obtain ⟨dp, its, rfl, hdp, hn1, _, _⟩ := DAt_split x'.1 hdv
    obtain ⟨us, hqs, hus⟩ := hq
    obtain ⟨cv, hcv, hcc⟩ := cs_get hus (a := x'.1.nm1) (by omega)
    have hcdn := nmC_dep hcd x'.1.nm1
    refine ⟨_, rfl, _, _, _, _, _, rfl, h1, TP.cl, TP.nP, pf_plan _ _, _, rfl, pl, _, _, _, rfl, rfl, SqT.of h3, atI_nat (by rw [List.getElem?_eq_getElem hpt', hyt]), ?_⟩
    refine ⟨t, _, rfl, SqT.of ht, rfl, _, _, rfl, _, _, rfl, rfl, ?_⟩
    refine ⟨_, rfl, dp, _, 1, _, rfl, rfl, hdp, at1c _ _ _, ?_⟩
    have e0 : stepC0 (planR r) pt cs dep = if x'.1.look then (waysC (nmC cs x'.1.nm1) (x'.2.getD 0 0) (x'.2.getD 1 0)).map (fun w => (w, cs)) else (mkC cs dep x'.1).map (fun c => (x'.2.getD 0 0, cs.set x'.1.nm1 (dwn dep c))) := by
      unfold stepC0
      rw [hx]
    have k' : ∀ l ws H', Same H H' → H l = none → H' l = some (.lst ws) → Paired (SpAt K H') ws (ddp (stepC0 (planR r) pt cs dep)) → Q (.ref l) H' := k
    have dep0 : ∀ s ∈ stepC0 (planR r) pt cs dep, ∀ c ∈ s.2, c.dep ≤ 20 := by
      intro s hs c hc
      rw [e0] at hs
      cases hlk : x'.1.look with
      | true =>
        rw [hlk, if_pos rfl] at hs
        obtain ⟨z, _, rfl⟩ := List.mem_map.mp hs
        have := hcd c hc
        omega
      | false =>
        rw [hlk, if_neg Bool.false_ne_true] at hs
        obtain ⟨z, _, rfl⟩ := List.mem_map.mp hs
        rcases List.mem_or_eq_of_mem_set hc with h | h
        · have := hcd c h
          omega
        · rw [h]
          have := dwn_dep dep z
          omega
    have len0 : (stepC0 (planR r) pt cs dep).length ≤ 2 := by
      rw [e0]
      cases x'.1.look with
      | true => rw [if_pos rfl, List.length_map]; exact waysC_len _ _ _
      | false => rw [if_neg Bool.false_ne_true, List.length_map]; exact mkC_len _ _ _
    dsimp only [gName]
    refine seq_ex (fun σ' H' => ∃ (l : Addr) (ws : List V) (y9 y10 y11 : Option V), σ' = [some (.ref a), some (.ref st), some (.int (dep : Nat)), some (.int (pt : Nat)), some (.ref q), some (.ref dp), some (.ref wv), some (.int ((x'.1.nm1 : Nat) : Int)), some (.ref l), y9, y10, y11] ∧ Same H H' ∧ H l = none ∧ H' l = some (.lst ws) ∧ Paired (SpAt K H') ws (stepC0 (planR r) pt cs dep)) (fun N hN => ?_) ?_
    · rw [e0] at hN
      refine ⟨_, rfl, wv, _, rfl, .inr (SqT.of hw), rfl, _, rfl, ?_⟩
      rw [numsV_len, hwl]
      cases hlk : x'.1.look with
      | true =>
        rw [hlk, if_pos rfl] at hN hwl
        refine iteT ?_
        obtain ⟨w0, w1, hws⟩ : ∃ w0 w1, x'.2 = [w0, w1] := by
          match hh : x'.2, hwl with
          | [a, b], _ => exact ⟨a, b, rfl⟩
        rw [hws] at hw hN
        refine ⟨_, rfl, _, rfl, q, _, _, _, rfl, rfl, hqs, atI_nat hcv, _, rfl, cv, wv, _, w0, w1, rfl, hcc, by omega, SqT.of hw, fun l1 H1 s1 nl1 hl1 => ?_⟩
        refine ⟨l1, rfl, ⟨_, SqL.of hl1⟩, fun D nD => lc_list (K := K) (a := l1) (xs := numsV (waysC (nmC cs x'.1.nm1) w0 w1)) (fun i H' => ∃ ws, Same H1 H' ∧ H' D = some (.lst ws) ∧ Paired (SpAt K H') ws (((waysC (nmC cs x'.1.nm1) w0 w1).map (fun w => (w, cs))).take i)) ⟨[], Same.new nD, upd_same, by rw [List.take_zero]; exact .nil⟩ (fun i H' _ z => SqL.of (z.choose_spec.1 _ _ hl1)) ?_ ?_⟩
        · rintro i v H2 hv ⟨ws, s2, hD2, hws2⟩
          rw [numsV, List.getElem?_map] at hv
          obtain ⟨wn, hwn, rfl⟩ := Option.map_eq_some_iff.mp hv
          refine ⟨rfl, lc_yes ?_⟩
          refine ⟨_, rfl, _, rfl, ?_⟩
          refine ⟨by show 2 ≤ sizeLine; decide, fun T1 nT1 => ?_⟩
          have s3 := Same.new nT1 (o := .tup [V.int ((wn : Nat) : Int), .ref q])
          have e3 : (upd H2 T1 (.tup [V.int ((wn : Nat) : Int), .ref q])) T1 = some (.tup [V.int ((wn : Nat) : Int), .ref q]) := upd_same
          revert s3 e3
          generalize upd H2 T1 (.tup [V.int ((wn : Nat) : Int), .ref q]) = H3
          intro s3 e3
          have hD3 := s3 _ _ hD2
          have hwl2 := Paired.length hws2
          rw [List.length_take, List.length_map] at hwl2
          have kt : KT H3 (upd H3 D (.lst (ws ++ [V.ref T1]))) := KT.lst hD3
          have hwn' : ((waysC (nmC cs x'.1.nm1) w0 w1).map (fun w => (w, cs)))[i]? = some (wn, cs) := by rw [List.getElem?_map, hwn]; rfl
          refine ⟨_, hD3, by have := waysC_len (nmC cs x'.1.nm1) w0 w1; omega, ws ++ [V.ref T1], (s2.trans s3).set nD, upd_same, ?_⟩
          rw [take_snoc hwn']
          exact paired_app (sps_kt ((KT.of s3).trans kt) hws2) (.cons ⟨T1, q, rfl, sqt_kt kt (SqT.of e3), CsAt.kt kt ⟨us, sqt_kt (KT.of ((s1.trans s2).trans s3)) hqs, cus_kt (KT.of ((s1.trans s2).trans s3)) hus⟩⟩ .nil)
        · rintro H2 ⟨ws, s2, hD2, hws2⟩
          rw [List.take_of_length_le (by rw [List.length_map, numsV_len]; exact Nat.le_refl _)] at hws2
          exact hN _ _ ⟨D, ws, _, _, _, rfl, s1.trans s2, s1.free nD, hD2, hws2⟩
      | false =>
        rw [hlk] at hwl
        rw [hlk, if_neg Bool.false_ne_true] at hN
        refine iteF ?_
        obtain ⟨w0, hws⟩ : ∃ w0, x'.2 = [w0] := by
          match hh : x'.2, hwl with
          | [a], _ => exact ⟨a, rfl⟩
        rw [hws] at hw hN
        refine ⟨_, rfl, _, rfl, _, rfl, _, x'.1, q, cs, dep, rfl, hdv, hlk, ⟨us, hqs, hus⟩, hl10, hcd, hdep, fun l1 ws1 H1 s1 nl1 hl1 hws1 => ?_⟩
        have hml := mkC_len cs dep x'.1
        have hw1 := Paired.length hws1
        refine ⟨l1, rfl, ⟨_, SqL.of hl1⟩, fun D nD => lc_list (K := K) (a := l1) (xs := ws1) (fun i H' => ∃ ws, Same H1 H' ∧ H' D = some (.lst ws) ∧ Paired (CuAt K H') ws (((mkC cs dep x'.1).map (dwn dep)).take i)) ⟨[], Same.new nD, upd_same, by rw [List.take_zero]; exact .nil⟩ (fun i H' _ z => SqL.of (z.choose_spec.1 _ _ hl1)) ?_ ?_⟩
        · rintro i v H2 hv ⟨ws, s2, hD2, hws2⟩
          obtain ⟨c, hc, hcv2⟩ := paired_get hws1 hv
          have hcdep : c.dep ≤ 60 := by
            have : c ∈ mkC cs dep x'.1 := List.mem_of_getElem? hc
            have := mkC_dep hcd (by omega : dep ≤ 5) x'.1 c this
            omega
          refine ⟨rfl, lc_yes ?_⟩
          refine ⟨_, rfl, _, rfl, v, c, dep, rfl, hcv2.same s2, hcdep, hdep, fun v2 H3 s3 hv2 => ?_⟩
          have hD3 := s3 _ _ hD2
          have hwl2 := Paired.length hws2
          rw [List.length_take, List.length_map] at hwl2
          have kt : KT H3 (upd H3 D (.lst (ws ++ [v2]))) := KT.lst hD3
          have hc' : ((mkC cs dep x'.1).map (dwn dep))[i]? = some (dwn dep c) := by rw [List.getElem?_map, hc]; rfl
          refine ⟨_, hD3, by omega, ws ++ [v2], (s2.trans s3).set nD, upd_same, ?_⟩
          rw [take_snoc hc']
          exact paired_app (cus_kt ((KT.of s3).trans kt) hws2) (.cons (hv2.kt kt) .nil)
        rintro H2 ⟨ws2, s2, hD2, hws2⟩
        rw [List.take_of_length_le (by rw [List.length_map, hw1]; exact Nat.le_refl _)] at hws2
        have hw2 := Paired.length hws2
        rw [List.length_map] at hw2
        have s12 := s1.trans s2
        refine ⟨_, rfl, D, rfl, ⟨_, SqL.of hD2⟩, fun D2 nD2 => lc_list (K := K) (a := D) (xs := ws2) (fun i H' => ∃ ws, Same H2 H' ∧ H' D2 = some (.lst ws) ∧ Paired (SpAt K H') ws (((mkC cs dep x'.1).map (fun c => (w0, cs.set x'.1.nm1 (dwn dep c)))).take i)) ⟨[], Same.new nD2, upd_same, by rw [List.take_zero]; exact .nil⟩ (fun i H' _ z => SqL.of (z.choose_spec.1 _ _ hD2)) ?_ ?_⟩
        · rintro i v H3 hv ⟨ws, s3, hD3, hws3⟩
          obtain ⟨c', hc', hcv2⟩ := paired_get hws2 hv
          rw [List.getElem?_map] at hc'
          obtain ⟨c, hc, rfl⟩ := Option.map_eq_some_iff.mp hc'
          have s13 := s12.trans s3
          have hqs3 := sqt_kt (KT.of s13) hqs
          refine ⟨rfl, lc_yes ?_⟩
          refine ⟨_, rfl, wv, _, 0, _, rfl, rfl, SqT.of (s13 _ _ hw), at0 _ _, ?_⟩
          refine ⟨_, rfl, _, rfl, _, rfl, q, us, x'.1.nm1, rfl, rfl, rfl, hqs3, fun p1 H4 s4 hp1 => ?_⟩
          refine ⟨_, rfl, ?_⟩
          refine ⟨by show 1 ≤ sizeLine; decide, fun T1 nT1 => ?_⟩
          have s5 := Same.new nT1 (o := .tup [v])
          have e5 : (upd H4 T1 (.tup [v])) T1 = some (.tup [v]) := upd_same
          revert s5 e5
          generalize upd H4 T1 (.tup [v]) = H5
          intro s5 e5
          refine ⟨p1, T1, _, _, rfl, rfl, sqt_kt (KT.of s5) hp1, SqT.of e5, by rw [List.length_take]; show _ + 1 ≤ 100000; omega, fun p2 H6 s6 hp2 => ?_⟩
          have s36 := (s4.trans s5).trans s6
          refine ⟨_, rfl, _, rfl, _, _, rfl, rfl, _, rfl, q, us, x'.1.nm1 + 1, rfl, by rw [Int.natCast_add]; rfl, rfl, sqt_kt (KT.of s36) hqs3, fun p3 H7 s7 hp3 => ?_⟩
          have hul := Paired.length hus
          refine ⟨p2, p3, _, _, rfl, rfl, sqt_kt (KT.of s7) hp2, hp3, by rw [List.length_append, List.length_take, List.length_drop]; show _ + 1 + _ ≤ 100000; omega, fun p4 H8 s8 hp4 => ?_⟩
          refine ⟨by show 2 ≤ sizeLine; decide, fun T2 nT2 => ?_⟩
          have s9 := Same.new nT2 (o := .tup [V.int ((w0 : Nat) : Int), .ref p4])
          have e9 : (upd H8 T2 (.tup [V.int ((w0 : Nat) : Int), .ref p4])) T2 = some (.tup [V.int ((w0 : Nat) : Int), .ref p4]) := upd_same
          revert s9 e9
          generalize upd H8 T2 (.tup [V.int ((w0 : Nat) : Int), .ref p4]) = H9
          intro s9 e9
          have s39 := ((s36.trans s7).trans s8).trans s9
          have hD9 := s39 _ _ hD3
          have hwl3 := Paired.length hws3
          rw [List.length_take, List.length_map] at hwl3
          have kt : KT H9 (upd H9 D2 (.lst (ws ++ [V.ref T2]))) := KT.lst hD9
          have hc2 : ((mkC cs dep x'.1).map (fun c => (w0, cs.set x'.1.nm1 (dwn dep c))))[i]? = some (w0, cs.set x'.1.nm1 (dwn dep c)) := by rw [List.getElem?_map, hc]; rfl
          refine ⟨_, hD9, by omega, ws ++ [V.ref T2], (s3.trans s39).set nD2, upd_same, ?_⟩
          rw [take_snoc hc2]
          refine paired_app (sps_kt ((KT.of s39).trans kt) hws3) (.cons ⟨T2, p4, rfl, sqt_kt kt (SqT.of e9), ⟨_, sqt_kt ((KT.of s9).trans kt) hp4, ?_⟩⟩ .nil)
          rw [← set_parts cs x'.1.nm1 (dwn dep c) (by omega)]
          have k09 : KT H (upd H9 D2 (.lst (ws ++ [V.ref T2]))) := (KT.of (s13.trans s39)).trans kt
          exact paired_app (paired_app (paired_take _ (cus_kt k09 hus)) (.cons ((hcv2.same (s3.trans s39)).kt kt) .nil)) (paired_drop _ (cus_kt k09 hus))
        · rintro H3 ⟨ws, s3, hD3, hws3⟩
          rw [List.take_of_length_le (by rw [List.length_map, hw2]; exact Nat.le_refl _)] at hws3
          exact hN _ _ ⟨D2, ws, _, _, _, rfl, s12.trans s3, s12.free nD2, hD3, hws3⟩
    · rintro σ' H1 ⟨l, ws, y9, y10, y11, rfl, s1, nl, hl1, hws⟩
      have hwsl := Paired.length hws
      refine ⟨_, rfl, l, _, rfl, .inl (SqL.of hl1), rfl, _, rfl, ?_⟩
      revert k' hws hwsl dep0 len0
      generalize stepC0 (planR r) pt cs dep = L
      intro k' dep0 len0 hws hwsl
      have ret : ddp L = L → { nx := fun _ H' => Q V.non H', rt := Q : Ends }.rt (.ref l) H1 := fun e => k' l ws H1 s1 nl hl1 (by rw [e]; exact hws)
      by_cases h2 : ws.length = 2
      · rw [h2, show decide (V.int ((2 : Nat) : Int) = V.int 2) = true by decide]
        refine iteT ?_
        obtain ⟨v1, v2, rfl⟩ : ∃ v1 v2, ws = [v1, v2] := by
          match ws, h2 with
          | [a, b], _ => exact ⟨a, b, rfl⟩
        cases hws with
        | @cons _ s1' _ _ hv1 t1 =>
          cases t1 with
          | @cons _ s2' _ _ hv2 t2 =>
            cases t2
            refine ⟨_, rfl, l, _, 0, _, rfl, rfl, SqL.of hl1, at0 _ _, _, rfl, l, _, 1, _, rfl, rfl, SqL.of hl1, at1c _ _ _, _, _, hv1.dp, hv2.dp, spD_shaped _ (dep0 s1' (by simp)), spD_shaped _ (dep0 s2' (by simp)), _, rfl, ?_⟩
            cases heq : PyData.eqv (spD s1') (spD s2') with
            | true =>
              refine iteT ?_
              refine ⟨_, rfl, _, rfl, l, _, rfl, SqL.of hl1, fun l2 nl2 => ?_⟩
              have sn := Same.new nl2 (o := .lst (cutV [v1, v2] none (some 1)))
              refine k' l2 [v1] _ (s1.trans sn) (s1.free nl2) ?_ ?_
              · rw [upd_same]
                rfl
              · have e1 : ddp [s1', s2'] = [s1'] := by
                  show (if PyData.eqv (spD s1') (spD s2') = true then [s1'] else [s1', s2']) = [s1']
                  rw [heq]
                  rfl
                rw [e1]
                exact .cons (hv1.kt (KT.of sn)) .nil
            | false =>
              refine iteF ?_
              refine ⟨_, rfl, ret ?_⟩
              show (if PyData.eqv (spD s1') (spD s2') = true then [s1'] else [s1', s2']) = [s1', s2']
              rw [heq]
              rfl
      · rw [decide_eq_false (show ¬ V.int ((ws.length : Nat) : Int) = V.int 2 from fun z => h2 (by have := V.int.inj z; omega))]
        refine iteF (iteF ?_)
        refine ⟨_, rfl, ret ?_⟩
        match L, hwsl with
        | [], _ => rfl
        | [_], _ => rfl
        | [_, _], e => exact absurd e h2
        | _ :: _ :: _ :: _, _ => rfl
end
end Js

set_option Elab.async false
set_option linter.all false
set_option maxRecDepth 100000
set_option maxHeartbeats 2000000
namespace Js
open PySem L2
open PySem.Spec PyProof.Rows
/-! dicts whose keys are nested tuples -/
mutual
inductive NkV (K : PySem.W.Frag) (H : Hp) : V → NestedKey → Prop
  | non : NkV K H .non .none
  | int (i : Int) : NkV K H (.int i) (.num i)
  | str (x : Str) : NkV K H (.str x) (.text x)
  | tup {a : Addr} {xs : List V} {ks : List NestedKey} : SqT K H a xs → NkAll K H xs ks → NkV K H (.ref a) (.tup ks)
inductive NkAll (K : PySem.W.Frag) (H : Hp) : List V → List NestedKey → Prop
  | nil : NkAll K H [] []
  | cons {v : V} {vs : List V} {k : NestedKey} {ks : List NestedKey} : NkV K H v k → NkAll K H vs ks → NkAll K H (v :: vs) (k :: ks)
end
/-- the tuples stay -/
def TpS (K : PySem.W.Frag) (H H' : Hp) : Prop := ∀ a xs, SqT K H a xs → SqT K H' a xs
theorem TpS.of {K : PySem.W.Frag} {H H' : Hp} (s : Same H H') : TpS K H H' := fun a xs h => sqt_kt (KT.of s) h
theorem TpS.kt {K : PySem.W.Frag} {H H' : Hp} (s : KT H H') : TpS K H H' := fun a xs h => sqt_kt s h
theorem TpS.refl (K : PySem.W.Frag) (H : Hp) : TpS K H H := fun _ _ h => h
theorem TpS.trans {K : PySem.W.Frag} {H H1 H2 : Hp} (a : TpS K H H1) (b : TpS K H1 H2) : TpS K H H2 := fun x xs h => b x xs (a x xs h)
theorem TpS.ext {K : PySem.W.Frag} {H : Hp} {p : Addr} {φ : Heap → Prop} {o : HO} (hp : H p = some (.ext φ)) : TpS K H (upd H p o) := fun a xs h => by
  rcases h with (h | ⟨q, h⟩) | h
  · exact .inl (.inl ((upd_ne (ne_of h hp (fun e => nomatch e))).trans h))
  · exact .inl (.inr ⟨q, (upd_ne (ne_of h hp (fun e => nomatch e))).trans h⟩)
  · exact .inr h
mutual
theorem NkV.tps {K : PySem.W.Frag} {H H' : Hp} (s : TpS K H H') : ∀ (k : NestedKey) (v : V), NkV K H v k → NkV K H' v k
  | .none, _, h => by cases h; exact .non
  | .num _, _, h => by cases h; exact .int _
  | .text _, _, h => by cases h; exact .str _
  | .tup ks, _, h => by
    cases h with
    | tup h1 h2 => exact .tup (s _ _ h1) (NkAll.tps s ks _ h2)
theorem NkAll.tps {K : PySem.W.Frag} {H H' : Hp} (s : TpS K H H') : ∀ (ks : List NestedKey) (vs : List V), NkAll K H vs ks → NkAll K H' vs ks
  | [], _, h => by cases h; exact .nil
  | k :: ks, _, h => by
    cases h with
    | cons h1 h2 => exact .cons (NkV.tps s k _ h1) (NkAll.tps s ks _ h2)
end
section
variable {X : Cx} {pins : List (Addr × Obj)} {σ : L2.St} {H : Hp} {s : Shared}
mutual
theorem NkV.is (I : Inv X pins σ H s) : ∀ (k : NestedKey) (v : V) (u : Value), NkV X.K H v k → RelV v u → NestedIs s.heap k u
  | .none, _, _, h, r => by
    cases h
    cases r
    exact .none
  | .num _, _, _, h, r => by
    cases h
    obtain ⟨t, rfl⟩ := r
    exact .int _ t
  | .text _, _, _, h, r => by
    cases h
    obtain ⟨t, rfl⟩ := r
    exact .text _ t
  | .tup ks, _, _, h, r => by
    cases h with
    | @tup a xs _ h1 h2 =>
      cases r
      obtain ⟨its, rv, ⟨o, e, c, n, d⟩, _⟩ := I.tuple h1
      exact .tup e c d (by simpa using NkAll.is I ks xs its h2 rv)
theorem NkAll.is (I : Inv X pins σ H s) : ∀ (ks : List NestedKey) (vs : List V) (us : List Value), NkAll X.K H vs ks → Vals vs us → NestedAll s.heap ks us
  | [], _, _, h, r => by
    cases h
    cases r
    exact .nil
  | k :: ks, _, _, h, r => by
    cases h with
    | cons h1 h2 =>
      cases r with
      | cons r1 r2 => exact .cons (NkV.is I k _ _ h1 r1) (NkAll.is I ks _ _ h2 r2)
end
end
abbrev KRow := NestedKey × Addr × V
abbrev KRel : List KRow → List (NestedKey × Addr × Value) → Prop := Paired fun p q => p.1 = q.1 ∧ p.2.1 = q.2.1 ∧ RelV p.2.2 q.2.2
/-- the dict at a, by its rows -/
def KdO (P : Program) (w : World) (a : Addr) (kes : List KRow) : HO := .ext fun h => ∃ xs, KRel kes xs ∧ ∃ o es ep, h.get? a = some o ∧ o.ExactDict ∧ o.data = .dict es ep ∧ es.toList = xs.map (entryOfKey (nestedKind P w)) ∧ (xs.map (·.1)).Nodup
def prK (kes : List KRow) : List (NestedKey × V) := kes.map fun e => (e.1, e.2.2)
def KdAt (P : Program) (w : World) (K : PySem.W.Frag) (H : Hp) (a : Addr) (kvs : List (NestedKey × V)) : Prop :=
  ∃ kes, H a = some (KdO P w a kes) ∧ kvs = prK kes ∧ (∀ e ∈ kes, NkV K H (.ref e.2.1) e.1 ∧ e.1.depth ≤ 8) ∧ kes.length ≤ sizeLine ∧ (a == sysModules) = false
theorem KdAt.fr {P : Program} {w : World} {K : PySem.W.Frag} {H H' : Hp} {a : Addr} {kvs : List (NestedKey × V)} (h : KdAt P w K H a kvs) (hs : ∀ o, H a = some o → H' a = some o) (ht : TpS K H H') : KdAt P w K H' a kvs := by
  obtain ⟨kes, h1, h2, h3, h4, h5⟩ := h
  exact ⟨kes, hs _ h1, h2, fun e he => ⟨NkV.tps ht _ _ (h3 e he).1, (h3 e he).2⟩, h4, h5⟩
theorem KdAt.same {P : Program} {w : World} {K : PySem.W.Frag} {H H' : Hp} {a : Addr} {kvs : List (NestedKey × V)} (h : KdAt P w K H a kvs) (s : Same H H') : KdAt P w K H' a kvs := h.fr (fun o e => s _ _ e) (TpS.of s)
theorem KdAt.kt {P : Program} {w : World} {K : PySem.W.Frag} {H H' : Hp} {a : Addr} {kvs : List (NestedKey × V)} (h : KdAt P w K H a kvs) (s : KT H H') : KdAt P w K H' a kvs := by
  obtain ⟨kes, h1, h2, h3, h4, h5⟩ := h
  exact ⟨kes, s _ _ h1 (fun xs e => nomatch e), h2, fun e he => ⟨NkV.tps (TpS.kt s) _ _ (h3 e he).1, (h3 e he).2⟩, h4, h5⟩
theorem KdAt.ext {P : Program} {w : World} {K : PySem.W.Frag} {H : Hp} {a : Addr} {kvs : List (NestedKey × V)} (h : KdAt P w K H a kvs) : ∃ φ, H a = some (.ext φ) := by
  obtain ⟨kes, h1, _⟩ := h
  exact ⟨_, h1⟩
theorem kr_val {kes : List KRow} {xs : List (NestedKey × Addr × Value)} (r : KRel kes xs) (k : NestedKey) : RelO (valV (prK kes) k) ((atKey xs k).map (·.2)) := by
  induction r with
  | nil => exact True.intro
  | @cons p q ps qs h t ih =>
    obtain ⟨h1, _, h2⟩ := h
    by_cases e : p.1 = k
    · have e' : q.1 = k := h1.symm.trans e
      have b : atKey (q :: qs) k = some q.2 := by simp [atKey, List.find?_cons, e']
      have c : valV (prK (p :: ps)) k = some p.2.2 := valV_pos (p := (p.1, p.2.2)) e
      rw [c, b]
      exact h2
    · have e' : ¬ q.1 = k := fun z => e (h1.trans z)
      have b : atKey (q :: qs) k = atKey qs k := by simp [atKey, List.find?_cons, e']
      have c : valV (prK (p :: ps)) k = valV (prK ps) k := valV_neg (p := (p.1, p.2.2)) e
      rw [c, b]
      exact ih
/-- the rows behind d[k] = v -/
def kPut (kes : List KRow) (k : NestedKey) (b : Addr) (v : V) : List KRow :=
  if (valV (prK kes) k).isSome then kes.map (fun e => if e.1 = k then (e.1, e.2.1, v) else e) else kes ++ [(k, b, v)]
theorem kPut_pr (kes : List KRow) (k : NestedKey) (b : Addr) (v : V) : prK (kPut kes k b v) = putK (prK kes) k v := by
  unfold kPut putK
  rw [valV_any]
  by_cases e : (valV (prK kes) k).isSome = true
  · rw [if_pos e, if_pos e]
    unfold prK
    rw [List.map_map, List.map_map]
    refine List.map_congr_left fun x _ => ?_
    by_cases h : x.1 = k
    · simp [h]
    · simp [h]
  · rw [if_neg e, if_neg e]
    unfold prK
    rw [List.map_append]
    rfl
theorem kPut_len (kes : List KRow) (k : NestedKey) (b : Addr) (v : V) : (kPut kes k b v).length ≤ kes.length + 1 := by
  unfold kPut
  split
  · rw [List.length_map]; omega
  · rw [List.length_append]; exact Nat.le_refl _
theorem kPut_mem {kes : List KRow} {k : NestedKey} {b : Addr} {v : V} {e : KRow} (h : e ∈ kPut kes k b v) : (∃ e0 ∈ kes, e.1 = e0.1 ∧ e.2.1 = e0.2.1) ∨ (e.1 = k ∧ e.2.1 = b) := by
  unfold kPut at h
  split at h
  · obtain ⟨x, hx, rfl⟩ := List.mem_map.mp h
    refine .inl ⟨x, hx, ?_⟩
    split
    · exact ⟨rfl, rfl⟩
    · exact ⟨rfl, rfl⟩
  · rcases List.mem_append.mp h with h | h
    · exact .inl ⟨e, h, rfl, rfl⟩
    · rw [List.mem_singleton.mp h]
      exact .inr ⟨rfl, rfl⟩
theorem kr_repl {kes : List KRow} {xs : List (NestedKey × Addr × Value)} (r : KRel kes xs) (k : NestedKey) {v : V} {u : Value} (rv : RelV v u) : KRel (kes.map (fun e => if e.1 = k then (e.1, e.2.1, v) else e)) (xs.map (putAt k u)) := by
  induction r with
  | nil => exact .nil
  | @cons p q ps qs h t ih =>
    rw [List.map_cons, List.map_cons]
    refine .cons ?_ ih
    obtain ⟨h1, h2, h3⟩ := h
    unfold putAt
    by_cases e : p.1 = k
    · rw [if_pos e, if_pos (h1.symm.trans e)]
      exact ⟨h1, h2, rv⟩
    · rw [if_neg e, if_neg (fun z => e (h1.trans z))]
      exact ⟨h1, h2, h3⟩
theorem kr_put {kes : List KRow} {xs : List (NestedKey × Addr × Value)} (r : KRel kes xs) (k : NestedKey) (b : Addr) {v : V} {u : Value} (rv : RelV v u) : KRel (kPut kes k b v) (storedH xs k b u) := by
  have e : (valV (prK kes) k).isSome = (atKey xs k).isSome := by rw [(kr_val r k).isSome_eq, Option.isSome_map]
  unfold kPut storedH
  rw [e]
  by_cases q : (atKey xs k).isSome = true
  · rw [if_pos q, if_pos q]
    exact kr_repl r k rv
  · rw [if_neg q, if_neg q]
    exact Paired.snoc r ⟨rfl, rfl, rv⟩
section
variable {X : Cx} {pins : List (Addr × Obj)} {σ : L2.St} {H : Hp} {s : Shared} {a b : Addr} {k : NestedKey} {v : V} {u r : Value} {A : Around} {E : Value → Shared → Prop} {kvs : List (NestedKey × V)}
theorem kr_is (I : Inv X pins σ H s) {kes : List KRow} {xs : List (NestedKey × Addr × Value)} (r : KRel kes xs) (h : ∀ e ∈ kes, NkV X.K H (.ref e.2.1) e.1 ∧ e.1.depth ≤ 8) : ∀ x ∈ xs, (nestedKind X.prog X.w).is s.heap x.1 x.2.1 := by
  induction r with
  | nil => exact fun x hx => nomatch hx
  | @cons p q ps qs hq t ih =>
    intro x hx
    rcases List.mem_cons.mp hx with e | hx
    · subst e
      have := h p (List.mem_cons_self)
      rw [← hq.1, ← hq.2.1]
      exact ⟨NkV.is I _ _ _ this.1 rfl, this.2⟩
    · exact ih (fun e he => h e (List.mem_cons_of_mem _ he)) x hx
theorem kd_dict (I : Inv X pins σ H s) {kes : List KRow} (h1 : H a = some (KdO X.prog X.w a kes)) (h3 : ∀ e ∈ kes, NkV X.K H (.ref e.2.1) e.1 ∧ e.1.depth ≤ 8) : ∃ xs, KRel kes xs ∧ s.heap.DictOfH (nestedKind X.prog X.w) a xs := by
  obtain ⟨⟨xs, rel, o, es, ep, g1, g2, g3, g4, g5⟩, _, _⟩ := I.hok a _ h1
  exact ⟨xs, rel, o, es, ep, g1, g2, g3, g4, kr_is I rel h3, g5⟩
theorem nk_room (hu : A.units + 64 < cLine) : (nestedKind X.prog X.w).room A.in1 := by
  show A.in1.units + 8 < cLine
  rw [Around.in1_units]
  omega
theorem kd_in {Q : Value → Shared → Prop} (hu : A.units + 64 < cLine) (I : Inv X pins σ H s) (g : KdAt X.prog X.w X.K H a kvs) (hk : NkV X.K H (.ref b) k) (hd : k.depth ≤ 8) (h : ∀ s', Inv X pins σ H s' → Q (.bool (valV kvs k).isSome) s') :
    wpAny (model X.prog X.w) A (compareOp .In (.ref b) (.ref a)) Q E s := by
  obtain ⟨kes, h1, rfl, h3, h4, h5⟩ := g
  obtain ⟨xs, rel, dd⟩ := kd_dict I h1 h3
  refine wpAny_in_heap (nk_room hu) ⟨NkV.is I _ _ _ hk rfl, hd⟩ h5 dd ?_
  have q := (kr_val rel k).isSome_eq
  rw [Option.isSome_map] at q
  rw [← q]
  exact h _ (I.tok _)
theorem kd_notIn {Q : Value → Shared → Prop} (hu : A.units + 64 < cLine) (I : Inv X pins σ H s) (g : KdAt X.prog X.w X.K H a kvs) (hk : NkV X.K H (.ref b) k) (hd : k.depth ≤ 8) (h : ∀ s', Inv X pins σ H s' → Q (.bool (!(valV kvs k).isSome)) s') :
    wpAny (model X.prog X.w) A (compareOp .NotIn (.ref b) (.ref a)) Q E s := by
  obtain ⟨kes, h1, rfl, h3, h4, h5⟩ := g
  obtain ⟨xs, rel, dd⟩ := kd_dict I h1 h3
  refine wpAny_notIn_heap (nk_room hu) ⟨NkV.is I _ _ _ hk rfl, hd⟩ h5 dd ?_
  have q := (kr_val rel k).isSome_eq
  rw [Option.isSome_map] at q
  rw [← q]
  exact h _ (I.tok _)
theorem kd_get {Q : Value → Shared → Prop} (hu : A.units + 64 < cLine) (I : Inv X pins σ H s) (g : KdAt X.prog X.w X.K H a kvs) (hk : NkV X.K H (.ref b) k) (hd : k.depth ≤ 8) (hv : valV kvs k = some v) (h : ∀ w' s', Inv X pins σ H s' → RelV v w' → Q w' s') :
    wpAny (model X.prog X.w) A (getItem (.ref a) (.ref b)) Q E s := by
  obtain ⟨kes, h1, rfl, h3, h4, h5⟩ := g
  obtain ⟨xs, rel, dd⟩ := kd_dict I h1 h3
  obtain ⟨w', hw, rw'⟩ := RelO.some_of (v := v) (o := (atKey xs k).map (·.2)) (by rw [← hv]; exact kr_val rel k)
  obtain ⟨p, hp, hp2⟩ := Option.map_eq_some_iff.mp hw
  refine wpAny_getItem_heap (nk_room hu) ⟨NkV.is I _ _ _ hk rfl, hd⟩ dd hp ?_
  rw [hp2]
  exact h w' _ (I.tok _) rw'
theorem kd_new {P : Program} {w : World} {H' : Hp} {h' : Heap} {kes : List KRow} {xs : List (NestedKey × Addr × Value)} (rel : KRel kes xs) (dd : h'.DictOfH (nestedKind P w) a xs) : ObjOk P w H' h' a (KdO P w a kes) := by
  obtain ⟨o, es, ep, g1, g2, g3, g4, _, g5⟩ := dd
  exact ⟨⟨xs, rel, o, es, ep, g1, g2, g3, g4, g5⟩, ⟨o, g1⟩, fun h1 h2 ⟨ys, r, o, es, ep, k1, k2⟩ k => ⟨ys, r, o, es, ep, k o k1, k2⟩⟩
theorem kd_set {Q : Unit → Shared → Prop} (hu : A.units + 64 < cLine) (I : Inv X pins σ H s) (g : KdAt X.prog X.w X.K H a kvs) (hk : NkV X.K H (.ref b) k) (hd : k.depth ≤ 8) (rv : RelV v r) (hl : kvs.length < 16000000)
    (h : ∀ o s', Inv X pins σ (upd H a o) s' → KdAt X.prog X.w X.K (upd H a o) a (putK kvs k v) → Q () s') : wpAny (model X.prog X.w) A (setItem (.ref a) (.ref b) r) Q E s := by
  obtain ⟨kes, h1, rfl, h3, h4, h5⟩ := g
  obtain ⟨xs, rel, dd⟩ := kd_dict I h1 h3
  have hz : xs.length ≤ sizeLine := by rw [← Paired.length rel]; exact h4
  refine wpAny_setItem_heap (hsz := hz) (nk_room hu) ⟨NkV.is I _ _ _ hk rfl, hd⟩ dd fun h' dd' hs => ?_
  have he : ∃ q, h'.get? a = some q := let ⟨q, _, _, hq, _⟩ := dd'; ⟨q, hq⟩
  have rel' := kr_put rel k b rv
  have tp : TpS X.K H (upd H a (KdO X.prog X.w a (kPut kes k b v))) := TpS.ext h1
  refine h (KdO X.prog X.w a (kPut kes k b v)) _ (d_write I (by rw [h1]; exact True.intro) hs he (kd_new rel' dd')) ⟨_, upd_same, (kPut_pr kes k b v).symm, fun e he => ?_, ?_, h5⟩
  · rcases kPut_mem he with ⟨e0, h0, e1, e2⟩ | ⟨e1, e2⟩
    · rw [e1, e2]
      exact ⟨NkV.tps tp _ _ (h3 e0 h0).1, (h3 e0 h0).2⟩
    · rw [e1, e2]
      exact ⟨NkV.tps tp _ _ hk, hd⟩
  · have h6 := kPut_len kes k b v
    have h7 := sizeLine_eq
    have h8 : kes.length < 16000000 := by unfold prK at hl; rw [List.length_map] at hl; exact hl
    omega
end
/-- k in d, k not in d, d[k], d[k] = v -/
def tKin (P : Program) (w : World) (K : PySem.W.Frag) (ty td : TE) : TE := fun σ H Q => ty σ H fun y H1 => td σ H1 fun x H2 => ∃ a b kvs k, x = .ref a ∧ y = .ref b ∧ KdAt P w K H2 a kvs ∧ NkV K H2 (.ref b) k ∧ k.depth ≤ 8 ∧ Q (.bl (valV kvs k).isSome) H2
def tKnotin (P : Program) (w : World) (K : PySem.W.Frag) (ty td : TE) : TE := fun σ H Q => ty σ H fun y H1 => td σ H1 fun x H2 => ∃ a b kvs k, x = .ref a ∧ y = .ref b ∧ KdAt P w K H2 a kvs ∧ NkV K H2 (.ref b) k ∧ k.depth ≤ 8 ∧ Q (.bl (!(valV kvs k).isSome)) H2
def tKget (P : Program) (w : World) (K : PySem.W.Frag) (td ty : TE) : TE := fun σ H Q => td σ H fun x H1 => ty σ H1 fun y H2 => ∃ a b kvs k v, x = .ref a ∧ y = .ref b ∧ KdAt P w K H2 a kvs ∧ NkV K H2 (.ref b) k ∧ k.depth ≤ 8 ∧ valV kvs k = some v ∧ Q v H2
def rSetKd (P : Program) (w : World) (K : PySem.W.Frag) : TSet := fun o i v H Q => ∃ a b kvs k, o = .ref a ∧ i = .ref b ∧ KdAt P w K H a kvs ∧ NkV K H (.ref b) k ∧ k.depth ≤ 8 ∧ kvs.length < 16000000 ∧ ∀ ob, KdAt P w K (upd H a ob) a (putK kvs k v) → Q (upd H a ob)
/-- {k: v} -/
def tKone (P : Program) (w : World) (K : PySem.W.Frag) (tk tv : TE) : TE := fun σ H Q => ∀ p o0, H p = none → KdAt P w K (upd H p o0) p [] → tk σ (upd H p o0) fun y H1 => tv σ H1 fun v H2 => ∃ b k, y = .ref b ∧ KdAt P w K H2 p [] ∧ NkV K H2 (.ref b) k ∧ k.depth ≤ 8 ∧ ∀ ob, KdAt P w K (upd H2 p ob) p [(k, v)] → Q (.ref p) (upd H2 p ob)
/-- {} -/
def tKnew (P : Program) (w : World) (K : PySem.W.Frag) : TE := fun _ H Q => ∀ p ob, H p = none → KdAt P w K (upd H p ob) p [] → Q (.ref p) (upd H p ob)
section
variable {X : Cx} {o i e value : Expr} {pos pos' tpos : Pos} {td ty tv : TE}
theorem pc_kin (hu : X.A.units + 64 < cLine) (hi : PE X i ty) (ho : PE X o td) : PC X .In i o (tKin X.prog X.w X.K ty td) := by
  refine ⟨fun pins s σ H Q I h => ?_⟩
  refine thn (hi.run pins s σ H _ I h) fun iv s1 ⟨y, H1, I1, ry, q1⟩ => thn (ho.run pins s1 σ H1 _ I1 q1) fun u s2 ⟨x, H2, I2, rx, a, b, kvs, k, ex, ey, g, hk, hd, q2⟩ => ?_
  subst ex ey
  cases (show u = Value.ref a from rx)
  cases (show iv = Value.ref b from ry)
  exact kd_in hu I2 g hk hd fun s3 I3 => ⟨.bl (valV kvs k).isSome, H2, I3, rfl, q2⟩
theorem pc_knotin (hu : X.A.units + 64 < cLine) (hi : PE X i ty) (ho : PE X o td) : PC X .NotIn i o (tKnotin X.prog X.w X.K ty td) := by
  refine ⟨fun pins s σ H Q I h => ?_⟩
  refine thn (hi.run pins s σ H _ I h) fun iv s1 ⟨y, H1, I1, ry, q1⟩ => thn (ho.run pins s1 σ H1 _ I1 q1) fun u s2 ⟨x, H2, I2, rx, a, b, kvs, k, ex, ey, g, hk, hd, q2⟩ => ?_
  subst ex ey
  cases (show u = Value.ref a from rx)
  cases (show iv = Value.ref b from ry)
  exact kd_notIn hu I2 g hk hd fun s3 I3 => ⟨.bl (!(valV kvs k).isSome), H2, I3, rfl, q2⟩
theorem kd_typeIs {pins : List (Addr × Obj)} {σ : L2.St} {H : Hp} {s : Shared} {a : Addr} {kvs : List (NestedKey × V)} (I : Inv X pins σ H s) (g : KdAt X.prog X.w X.K H a kvs) : s.TypeIs (.ref a) "dict" := by
  obtain ⟨kes, h1, rfl, h3, h4, h5⟩ := g
  obtain ⟨xs, rel, dd⟩ := kd_dict I h1 h3
  exact dd.typeIs
theorem pe_kget (hu : X.A.units + 64 < cLine) (ho : PE X o td) (hi : PE X i ty) (hs : NoSl i) : PE X (.Subscript o i pos) (tKget X.prog X.w X.K td ty) := by
  refine ⟨fun pins s σ H Q I h => ?_⟩
  refine subD_of PySem.F.slot_dict_getitem.lookup hs (thn (ho.run pins s σ H _ I h) fun u s1 ⟨x, H1, I1, rx, q1⟩ => thn (hi.run pins s1 σ H1 _ I1 q1) fun iv s2 ⟨y, H2, I2, ry, a, b, kvs, k, v, ex, ey, g, hk, hd, hv, q2⟩ => ?_)
  subst ex ey
  cases (show u = Value.ref a from rx)
  cases (show iv = Value.ref b from ry)
  exact ⟨kd_typeIs I2 g, kd_get hu I2 g hk hd hv fun w' s3 I3 rw' => ⟨v, H2, I3, rw', q2⟩⟩
theorem set_kd (hu : X.A.units + 64 < cLine) : PSet X (rSetKd X.prog X.w X.K) := by
  intro pins s σ H o i v ov iv u Q I ro ri rv h
  obtain ⟨a, b, kvs, k, eo, ei, g, hk, hd, hl, q⟩ := h
  subst eo ei
  cases (show ov = Value.ref a from ro)
  cases (show iv = Value.ref b from ri)
  exact kd_set hu I g hk hd rv hl fun ob s' I' g' => ⟨_, I', q ob g'⟩
theorem kd_empty {P : Program} {w : World} {K : PySem.W.Frag} {H : Hp} (h : Heap) (hb : sysModules < h.objs.size) : ObjOk P w (upd H h.objs.size (KdO P w h.objs.size [])) (h.push { cls := .type "dict", data := .dict #[] }) h.objs.size (KdO P w h.objs.size []) :=
  kd_new .nil (Heap.DictOfH.new h)
theorem kd_at0 {P : Program} {w : World} {K : PySem.W.Frag} {H : Hp} (h : Heap) (hb : sysModules < h.objs.size) : KdAt P w K (upd H h.objs.size (KdO P w h.objs.size [])) h.objs.size [] :=
  ⟨[], upd_same, rfl, (fun _ h => nomatch h), Nat.zero_le _, beq_eq_false_iff_ne.mpr (Ne.symm (Nat.ne_of_lt hb))⟩
theorem pe_knew : PE X (.Dict [] [] pos) (tKnew X.prog X.w X.K) := ⟨fun pins s σ H Q I h =>
  wpAny_Dict_empty ⟨.ref s.heap.objs.size, _, I.laid (a := s.heap.objs.size) (o := KdO X.prog X.w s.heap.objs.size []) (t' := s.toks) (fun _ _ q => Heap.get?_push_of_some _ q) (Nat.le_refl _) (kd_empty (K := X.K) s.heap I.big), rfl, h _ _ (I.hok.fresh (Nat.le_refl _)) (kd_at0 s.heap I.big)⟩⟩
theorem pe_kone {kx vx : Expr} (hu : X.A.units + 64 < cLine) (hk : PE X kx ty) (hv : PE X vx tv) : PE X (.Dict [some kx] [vx] pos) (tKone X.prog X.w X.K ty tv) := by
  refine ⟨fun pins s σ H Q I q => ?_⟩
  have hn := I.hok.fresh (Nat.le_refl s.heap.objs.size)
  have I1 := I.laid (a := s.heap.objs.size) (o := KdO X.prog X.w s.heap.objs.size []) (h' := s.heap.push { cls := .type "dict", data := .dict #[] }) (t' := s.toks) (fun _ _ q => Heap.get?_push_of_some _ q) (Nat.le_refl _) (kd_empty (K := X.K) s.heap I.big)
  have q1 := q _ _ hn (kd_at0 s.heap I.big)
  have hr : (nestedKind X.prog X.w).room X.A := by
    show X.A.units + 8 < cLine
    omega
  rw [arm_eval_Dict, zip_pairTrees [some kx] [vx] X.env pos rfl rfl, dictDisplay_pairs (pairTrees [some kx] [vx] X.env pos) (fun e => nomatch e) (by show 1 < 17; decide)]
  refine wpAny_bind (wpAny_standAt (wpAny_bind (wpAny_subDictH (knd := nestedKind X.prog X.w) hr (by show 1 ≤ 15; decide) ?_)))
  refine pairTrees_cons_walk (thn (hk.run pins _ σ _ _ I1 q1) fun kv s1 ⟨y, H1, I2, ry, q2⟩ => thn (hv.run pins s1 σ H1 _ I2 q2) fun vv s2 ⟨v, H2, I3, rv, b, k, ey, g, hkk, hkd, q3⟩ => ?_)
  refine pairTrees_nil_walk ?_
  subst ey
  cases (show kv = Value.ref b from ry)
  obtain ⟨kes, h1, h2, h3, h4, h5⟩ := g
  have h20 : kes = [] := by
    cases kes with
    | nil => rfl
    | cons x xs => exact absurd h2 (fun e => nomatch e)
  subst h20
  obtain ⟨xs, rel, dd⟩ := kd_dict I3 h1 h3
  cases rel
  refine ⟨[(k, b, vv)], ⟨rfl, rfl, ⟨NkV.is I3 _ _ _ hkk rfl, hkd⟩, True.intro⟩, dd, fun h' tk dd' hs => wpAny_pure ?_⟩
  have he : ∃ q, h'.get? s.heap.objs.size = some q := let ⟨q, _, _, hq, _⟩ := dd'; ⟨q, hq⟩
  have tp : TpS X.K H2 (upd H2 s.heap.objs.size (KdO X.prog X.w s.heap.objs.size [(k, b, v)])) := TpS.ext h1
  refine ⟨.ref s.heap.objs.size, _, d_write I3 (by rw [h1]; exact True.intro) hs he (kd_new (kes := [(k, b, v)]) (.cons ⟨rfl, rfl, rv⟩ .nil) dd'), rfl, q3 _ ⟨[(k, b, v)], upd_same, rfl, fun e he => ?_, ?_, h5⟩⟩
  · rw [List.mem_singleton.mp he]
    exact ⟨NkV.tps tp _ _ hkk, hkd⟩
  · have := sizeLine_eq
    show 1 ≤ sizeLine
    omega
end
end Js

set_option Elab.async false
set_option linter.all false
set_option maxRecDepth 100000
set_option maxHeartbeats 2000000
namespace Js
open PySem L2
open PySem.Spec PyProof.Rows
/-! things by numbers: things that may have a mark in them, and the shelf's table -/
inductive Mt where
  | nil
  | mark
  | pr (l r : Mt)
  deriving DecidableEq
def Mt.size : Mt → Nat
  | .nil => 0
  | .mark => 0
  | .pr l r => 1 + l.size + r.size
def Mt.mkd : Mt → Bool
  | .nil => false
  | .mark => true
  | .pr l r => l.mkd || r.mkd
def Mt.head : Mt → Mt
  | .pr l _ => l
  | t => t
def Mt.tail : Mt → Mt
  | .pr _ r => r
  | t => t
def Tr.m : Tr → Mt
  | .nil => .nil
  | .pr l r => .pr l.m r.m
theorem Tr.m_size : ∀ t : Tr, t.m.size = t.size
  | .nil => rfl
  | .pr l r => by rw [Tr.m, Mt.size, Tr.m_size l, Tr.m_size r, Tr.size]
theorem Tr.m_mkd : ∀ t : Tr, t.m.mkd = false
  | .nil => rfl
  | .pr l r => by rw [Tr.m, Mt.mkd, Tr.m_mkd l, Tr.m_mkd r]; rfl
theorem Tr.m_inj : ∀ t u : Tr, t.m = u.m → t = u
  | .nil, .nil, _ => rfl
  | .nil, .pr _ _, h => nomatch h
  | .pr _ _, .nil, h => nomatch h
  | .pr l r, .pr l' r', h => by
    rw [Tr.m, Tr.m, Mt.pr.injEq] at h
    rw [Tr.m_inj l l' h.1, Tr.m_inj r r' h.2]
theorem Tr.m_head (t : Tr) : t.m.head = t.head.m := by cases t <;> rfl
theorem Tr.m_tail (t : Tr) : t.m.tail = t.tail.m := by cases t <;> rfl
/-- the table: the pairs that were put on the shelf, the last one first; what each number stands for -/
abbrev Nps := List (Nat × Nat)
def tsA : Nps → List Mt
  | [] => [.nil, .mark]
  | p :: qs => tsA qs ++ [.pr ((tsA qs).getD p.1 .nil) ((tsA qs).getD p.2 .nil)]
def tsn (qs : Nps) (n : Nat) : Mt := (tsA qs).getD n .nil
def hsA : Nps → List Nat
  | [] => [0, 1]
  | p :: qs => hsA qs ++ [p.1]
def tlA : Nps → List Nat
  | [] => [0, 1]
  | p :: qs => tlA qs ++ [p.2]
def pkN (p : Nat × Nat) : NestedKey := .tup [.num p.1, .num p.2]
def kvA : Nps → List (NestedKey × V)
  | [] => []
  | p :: qs => kvA qs ++ [(pkN p, .int ((qs.length + 2 : Nat) : Int))]
def idxN : Nps → Nat × Nat → Option Nat
  | [], _ => none
  | q :: qs, p => match idxN qs p with
    | some n => some n
    | none => if q = p then some (qs.length + 2) else none
def WFn : Nps → Prop
  | [] => True
  | p :: qs => WFn qs ∧ p.1 < qs.length + 2 ∧ p.2 < qs.length + 2 ∧ p ∉ qs ∧ 1 + (tsn qs p.1).size + (tsn qs p.2).size ≤ 4000
theorem tsA_len : ∀ qs : Nps, (tsA qs).length = qs.length + 2
  | [] => rfl
  | p :: qs => by rw [tsA, List.length_append, tsA_len qs]; rfl
theorem hsA_len : ∀ qs : Nps, (hsA qs).length = qs.length + 2
  | [] => rfl
  | p :: qs => by rw [hsA, List.length_append, hsA_len qs]; rfl
theorem tlA_len : ∀ qs : Nps, (tlA qs).length = qs.length + 2
  | [] => rfl
  | p :: qs => by rw [tlA, List.length_append, tlA_len qs]; rfl
theorem kvA_len : ∀ qs : Nps, (kvA qs).length = qs.length
  | [] => rfl
  | p :: qs => by rw [kvA, List.length_append, kvA_len qs]; rfl
theorem tsn_old {p : Nat × Nat} {qs : Nps} {n : Nat} (h : n < qs.length + 2) : tsn (p :: qs) n = tsn qs n := by
  unfold tsn
  rw [List.getD_eq_getElem?_getD, List.getD_eq_getElem?_getD, tsA, List.getElem?_append_left (by rw [tsA_len]; exact h)]
theorem tsn_new {p : Nat × Nat} {qs : Nps} : tsn (p :: qs) (qs.length + 2) = .pr (tsn qs p.1) (tsn qs p.2) := by
  unfold tsn
  rw [List.getD_eq_getElem?_getD, tsA, List.getElem?_append_right (by rw [tsA_len]; exact Nat.le_refl _), tsA_len, Nat.sub_self]
  rfl
theorem tsA_at (qs : Nps) {n : Nat} (h : n < qs.length + 2) : (tsA qs)[n]? = some (tsn qs n) := by
  unfold tsn
  rw [List.getD_eq_getElem?_getD, List.getElem?_eq_getElem (by rw [tsA_len]; exact h)]
  rfl
theorem tsn0 : ∀ qs : Nps, tsn qs 0 = .nil
  | [] => rfl
  | p :: qs => by rw [tsn_old (by omega), tsn0 qs]
theorem tsn1 : ∀ qs : Nps, tsn qs 1 = .mark
  | [] => rfl
  | p :: qs => by rw [tsn_old (by omega), tsn1 qs]
theorem tsn_size : ∀ {qs : Nps}, WFn qs → ∀ n, (tsn qs n).size ≤ 4000
  | [], _, n => by
    match n with
    | 0 => exact Nat.zero_le _
    | 1 => exact Nat.zero_le _
    | n + 2 => exact Nat.zero_le _
  | p :: qs, h, n => by
    obtain ⟨h1, h2, h3, h4, h5⟩ := h
    rcases Nat.lt_trichotomy n (qs.length + 2) with hn | hn | hn
    · rw [tsn_old hn]
      exact tsn_size h1 n
    · rw [hn, tsn_new, Mt.size]
      exact h5
    · unfold tsn
      rw [List.getD_eq_getElem?_getD, List.getElem?_eq_none_iff.mpr (by rw [tsA_len]; show qs.length + 1 + 2 ≤ n; omega)]
      exact Nat.zero_le _
/-- heads and tails, by numbers -/
theorem hs_at : ∀ {qs : Nps}, WFn qs → ∀ {n : Nat}, n < qs.length + 2 → ∃ k, (hsA qs)[n]? = some k ∧ k < qs.length + 2 ∧ tsn qs k = (tsn qs n).head
  | [], _, n, h => by
    match n, h with
    | 0, _ => exact ⟨0, rfl, by decide, rfl⟩
    | 1, _ => exact ⟨1, rfl, by decide, rfl⟩
    | n + 2, h => exact absurd h (by simp only [List.length_nil]; omega)
  | p :: qs, w, n, h => by
    obtain ⟨h1, h2, h3, h4, h5⟩ := w
    by_cases hn : n < qs.length + 2
    · obtain ⟨k, e1, e2, e3⟩ := hs_at h1 hn
      exact ⟨k, by rw [hsA, List.getElem?_append_left (by rw [hsA_len]; exact hn)]; exact e1, by rw [List.length_cons]; omega, by rw [tsn_old e2, tsn_old hn]; exact e3⟩
    · have hn' : n = qs.length + 2 := by rw [List.length_cons] at h; omega
      subst hn'
      refine ⟨p.1, by rw [hsA, List.getElem?_append_right (by rw [hsA_len]; exact Nat.le_refl _), hsA_len, Nat.sub_self]; rfl, by rw [List.length_cons]; omega, ?_⟩
      rw [tsn_old h2, tsn_new]
      rfl
theorem tl_at : ∀ {qs : Nps}, WFn qs → ∀ {n : Nat}, n < qs.length + 2 → ∃ k, (tlA qs)[n]? = some k ∧ k < qs.length + 2 ∧ tsn qs k = (tsn qs n).tail
  | [], _, n, h => by
    match n, h with
    | 0, _ => exact ⟨0, rfl, by decide, rfl⟩
    | 1, _ => exact ⟨1, rfl, by decide, rfl⟩
    | n + 2, h => exact absurd h (by simp only [List.length_nil]; omega)
  | p :: qs, w, n, h => by
    obtain ⟨h1, h2, h3, h4, h5⟩ := w
    by_cases hn : n < qs.length + 2
    · obtain ⟨k, e1, e2, e3⟩ := tl_at h1 hn
      exact ⟨k, by rw [tlA, List.getElem?_append_left (by rw [tlA_len]; exact hn)]; exact e1, by rw [List.length_cons]; omega, by rw [tsn_old e2, tsn_old hn]; exact e3⟩
    · have hn' : n = qs.length + 2 := by rw [List.length_cons] at h; omega
      subst hn'
      refine ⟨p.2, by rw [tlA, List.getElem?_append_right (by rw [tlA_len]; exact Nat.le_refl _), tlA_len, Nat.sub_self]; rfl, by rw [List.length_cons]; omega, ?_⟩
      rw [tsn_old h3, tsn_new]
      rfl
theorem pkN_inj {p q : Nat × Nat} (h : pkN p = pkN q) : p = q := by
  obtain ⟨a, b⟩ := p
  obtain ⟨c, d⟩ := q
  simp only [pkN, NestedKey.tup.injEq, List.cons.injEq, NestedKey.num.injEq, and_true] at h
  rw [show a = c by omega, show b = d by omega]
theorem valV_append {κ : Type} [DecidableEq κ] (k : κ) : ∀ (xs ys : List (κ × V)), valV (xs ++ ys) k = match valV xs k with
    | some v => some v
    | none => valV ys k
  | [], ys => rfl
  | x :: xs, ys => by
    rw [List.cons_append]
    by_cases e : x.1 = k
    · rw [valV_pos e, valV_pos e]
    · rw [valV_neg e, valV_neg e]
      exact valV_append k xs ys
theorem kv_idx : ∀ (qs : Nps) (p : Nat × Nat), valV (kvA qs) (pkN p) = (idxN qs p).map fun n => V.int ((n : Nat) : Int)
  | [], p => rfl
  | q :: qs, p => by
    rw [kvA, valV_append, kv_idx qs p, idxN]
    cases h : idxN qs p with
    | some n => rfl
    | none =>
      dsimp only [Option.map]
      by_cases e : q = p
      · rw [if_pos e, valV_pos (p := (pkN q, V.int ((qs.length + 2 : Nat) : Int))) (congrArg pkN e)]
      · rw [if_neg e, valV_neg (p := (pkN q, V.int ((qs.length + 2 : Nat) : Int))) (fun z => e (pkN_inj z)), valV_nil]
theorem idx_none : ∀ {qs : Nps} {p : Nat × Nat}, idxN qs p = none → p ∉ qs
  | [], _, _ => fun h => nomatch h
  | q :: qs, p, h => by
    rw [idxN] at h
    cases e : idxN qs p with
    | some n => rw [e] at h; cases h
    | none =>
      rw [e] at h
      dsimp only at h
      split at h
      · cases h
      · rename_i hn
        intro hm
        rcases List.mem_cons.mp hm with hm | hm
        · exact hn hm.symm
        · exact idx_none e hm
theorem idx_some : ∀ {qs : Nps}, WFn qs → ∀ {p : Nat × Nat} {n : Nat}, idxN qs p = some n → 2 ≤ n ∧ n < qs.length + 2 ∧ p.1 < qs.length + 2 ∧ p.2 < qs.length + 2 ∧ tsn qs n = .pr (tsn qs p.1) (tsn qs p.2)
  | [], _, _, _, h => nomatch h
  | q :: qs, w, p, n, h => by
    obtain ⟨h1, h2, h3, h4, h5⟩ := w
    rw [idxN] at h
    cases e : idxN qs p with
    | some m =>
      rw [e] at h
      cases Option.some.inj h
      obtain ⟨g1, g2, g3, g4, g5⟩ := idx_some h1 e
      refine ⟨g1, by rw [List.length_cons]; omega, by rw [List.length_cons]; omega, by rw [List.length_cons]; omega, ?_⟩
      rw [tsn_old g2, tsn_old g3, tsn_old g4]
      exact g5
    | none =>
      rw [e] at h
      dsimp only at h
      split at h
      · rename_i hq
        subst hq
        cases Option.some.inj h
        refine ⟨by omega, by rw [List.length_cons]; omega, by rw [List.length_cons]; omega, by rw [List.length_cons]; omega, ?_⟩
        rw [tsn_new, tsn_old h2, tsn_old h3]
      · cases h
/-- what is a pair stands in the table -/
theorem tsn_pair : ∀ {qs : Nps}, WFn qs → ∀ {n : Nat} {l r : Mt}, n < qs.length + 2 → tsn qs n = .pr l r → ∃ p ∈ qs, p.1 < qs.length + 2 ∧ p.2 < qs.length + 2 ∧ l = tsn qs p.1 ∧ r = tsn qs p.2
  | [], _, n, l, r, h, e => by
    match n, h with
    | 0, _ => exact absurd e (fun z => nomatch z)
    | 1, _ => exact absurd e (fun z => nomatch z)
    | n + 2, h => exact absurd h (by simp only [List.length_nil]; omega)
  | q :: qs, w, n, l, r, h, e => by
    obtain ⟨h1, h2, h3, h4, h5⟩ := w
    by_cases hn : n < qs.length + 2
    · rw [tsn_old hn] at e
      obtain ⟨p, hp, g1, g2, g3, g4⟩ := tsn_pair h1 hn e
      exact ⟨p, List.mem_cons_of_mem _ hp, by rw [List.length_cons]; omega, by rw [List.length_cons]; omega, by rw [tsn_old g1]; exact g3, by rw [tsn_old g2]; exact g4⟩
    · have hn' : n = qs.length + 2 := by rw [List.length_cons] at h; omega
      subst hn'
      rw [tsn_new, Mt.pr.injEq] at e
      exact ⟨q, List.mem_cons_self, by rw [List.length_cons]; omega, by rw [List.length_cons]; omega, by rw [tsn_old h2]; exact e.1.symm, by rw [tsn_old h3]; exact e.2.symm⟩
theorem tsn_inj : ∀ {qs : Nps}, WFn qs → ∀ {i j : Nat}, i < qs.length + 2 → j < qs.length + 2 → tsn qs i = tsn qs j → i = j
  | [], _, i, j, hi, hj, e => by
    match i, j, hi, hj with
    | 0, 0, _, _ => rfl
    | 0, 1, _, _ => exact absurd e (fun z => nomatch z)
    | 1, 0, _, _ => exact absurd e (fun z => nomatch z)
    | 1, 1, _, _ => rfl
    | i + 2, _, h, _ => exact absurd h (by simp only [List.length_nil]; omega)
    | _, j + 2, _, h => exact absurd h (by simp only [List.length_nil]; omega)
  | q :: qs, w, i, j, hi, hj, e => by
    obtain ⟨h1, h2, h3, h4, h5⟩ := id w
    have key : ∀ {k : Nat}, k < qs.length + 2 → tsn qs k = .pr (tsn qs q.1) (tsn qs q.2) → False := by
      intro k hk ek
      obtain ⟨p, hp, g1, g2, g3, g4⟩ := tsn_pair h1 hk ek
      have e1 := tsn_inj h1 h2 g1 g3
      have e2 := tsn_inj h1 h3 g2 g4
      refine h4 ?_
      have : q = p := by
        obtain ⟨a, b⟩ := q
        obtain ⟨c, d⟩ := p
        exact Prod.ext e1 e2
      rw [this]
      exact hp
    by_cases hi' : i < qs.length + 2
    · rw [tsn_old hi'] at e
      by_cases hj' : j < qs.length + 2
      · rw [tsn_old hj'] at e
        exact tsn_inj h1 hi' hj' e
      · have : j = qs.length + 2 := by rw [List.length_cons] at hj; omega
        subst this
        rw [tsn_new] at e
        exact (key hi' e).elim
    · have : i = qs.length + 2 := by rw [List.length_cons] at hi; omega
      subst this
      rw [tsn_new] at e
      by_cases hj' : j < qs.length + 2
      · rw [tsn_old hj'] at e
        exact (key hj' e.symm).elim
      · rw [List.length_cons] at hj
        omega
/-- the number n stands for t -/
def NmOk (qs : Nps) (n : Nat) (t : Mt) : Prop := n < qs.length + 2 ∧ tsn qs n = t
/-- a shelf on which more stands -/
def NExt (qs qs' : Nps) : Prop := ∃ l, qs' = l ++ qs
theorem NExt.refl (qs : Nps) : NExt qs qs := ⟨[], rfl⟩
theorem NExt.cons (p : Nat × Nat) (qs : Nps) : NExt qs (p :: qs) := ⟨[p], rfl⟩
theorem NExt.trans {a b c : Nps} (h : NExt a b) (g : NExt b c) : NExt a c := by
  obtain ⟨l, rfl⟩ := h
  obtain ⟨l', rfl⟩ := g
  exact ⟨l' ++ l, by rw [List.append_assoc]⟩
theorem NmOk.ext {qs qs' : Nps} {n : Nat} {t : Mt} (h : NmOk qs n t) (e : NExt qs qs') : NmOk qs' n t := by
  obtain ⟨l, rfl⟩ := e
  induction l with
  | nil => exact h
  | cons p l ih =>
    obtain ⟨h1, h2⟩ := ih
    refine ⟨by rw [List.cons_append, List.length_cons]; omega, ?_⟩
    rw [List.cons_append, tsn_old h1]
    exact h2
theorem NmOk.inj {qs : Nps} (w : WFn qs) {n m : Nat} {t : Mt} (h : NmOk qs n t) (g : NmOk qs m t) : n = m := tsn_inj w h.1 g.1 (h.2.trans g.2.symm)
theorem NmOk.size {qs : Nps} (w : WFn qs) {n : Nat} {t : Mt} (h : NmOk qs n t) : t.size ≤ 4000 := by
  have := tsn_size w n
  rw [h.2] at this
  exact this
theorem nm_nil (qs : Nps) : NmOk qs 0 .nil := ⟨by omega, tsn0 qs⟩
theorem nm_mark (qs : Nps) : NmOk qs 1 .mark := ⟨by omega, tsn1 qs⟩
abbrev NsNm (qs : Nps) : List Nat → List Mt → Prop := Paired (NmOk qs)
theorem NsNm.ext {qs qs' : Nps} (e : NExt qs qs') : ∀ {ns : List Nat} {ts : List Mt}, NsNm qs ns ts → NsNm qs' ns ts
  | _, _, .nil => .nil
  | _, _, .cons h t => .cons (h.ext e) (NsNm.ext e t)
theorem NsNm.inj {qs : Nps} (w : WFn qs) : ∀ {ns ms : List Nat} {ts : List Mt}, NsNm qs ns ts → NsNm qs ms ts → ns = ms
  | _, _, _, .nil, h => by cases h; rfl
  | _, _, _, .cons h t, g => by
    cases g with
    | cons g1 g2 => rw [h.inj w g1, NsNm.inj w t g2]
theorem NsNm.fun_ {qs : Nps} : ∀ {ns : List Nat} {ts us : List Mt}, NsNm qs ns ts → NsNm qs ns us → ts = us
  | _, _, _, .nil, h => by cases h; rfl
  | _, _, _, .cons h t, g => by
    cases g with
    | cons g1 g2 => rw [← h.2, ← g1.2, NsNm.fun_ t g2]
/-! the machine over these -/
def nmM (ns : List Mt) (a : Nat) : Mt := ns.getD a .nil
def Dd.madeM (ns : List Mt) : Dd → Mt
  | .told _ t => t.m
  | .take false _ b => (nmM ns b).head
  | .take true _ b => (nmM ns b).tail
  | .two false _ b c => .pr (nmM ns b) (nmM ns c)
  | .two true _ b c => if nmM ns b = nmM ns c then .pr .nil .nil else .nil
  | _ => .nil
def Dd.grtM (ns : List Mt) : Dd → Bool
  | .two false _ b c => decide (4000 < 1 + (nmM ns b).size + (nmM ns c).size)
  | _ => false
def stepPM (x : Pt) (ns : List Mt) : Nat := if x.1.look then (if 0 < (nmM ns x.1.nm1).size then x.2.getD 0 0 else x.2.getD 1 0) else x.2.getD 0 0
def stepNM (x : Pt) (ns : List Mt) : List Mt := if x.1.look then ns else ns.set x.1.nm1 (x.1.madeM ns)
theorem nmM_m (ns : List Tr) (a : Nat) : nmM (ns.map Tr.m) a = (nmA ns a).m := by
  unfold nmM nmA
  rw [List.getD_eq_getElem?_getD, List.getD_eq_getElem?_getD, List.getElem?_map]
  cases ns[a]? <;> rfl
theorem madeM_m (ns : List Tr) (d : Dd) : d.madeM (ns.map Tr.m) = (d.made ns).m := by
  cases d with
  | told a t => rfl
  | take s a b =>
    cases s
    · show (nmM (ns.map Tr.m) b).head = (nmA ns b).head.m
      rw [nmM_m, Tr.m_head]
    · show (nmM (ns.map Tr.m) b).tail = (nmA ns b).tail.m
      rw [nmM_m, Tr.m_tail]
  | two s a b c =>
    cases s
    · show Mt.pr (nmM (ns.map Tr.m) b) (nmM (ns.map Tr.m) c) = (Tr.pr (nmA ns b) (nmA ns c)).m
      rw [nmM_m, nmM_m]
      rfl
    · show (if nmM (ns.map Tr.m) b = nmM (ns.map Tr.m) c then Mt.pr .nil .nil else .nil) = (if nmA ns b = nmA ns c then yesT else .nil).m
      rw [nmM_m, nmM_m]
      by_cases e : nmA ns b = nmA ns c
      · rw [if_pos e, if_pos (congrArg Tr.m e)]
        rfl
      · rw [if_neg e, if_neg (fun z => e (Tr.m_inj _ _ z))]
        rfl
  | wh a r => rfl
  | iff a r o => rfl
theorem grtM_m (ns : List Tr) (d : Dd) : d.grtM (ns.map Tr.m) = d.grt ns := by
  cases d with
  | two s a b c =>
    cases s
    · show decide (4000 < 1 + (nmM (ns.map Tr.m) b).size + (nmM (ns.map Tr.m) c).size) = decide (4000 < 1 + (nmA ns b).size + (nmA ns c).size)
      rw [nmM_m, nmM_m, Tr.m_size, Tr.m_size]
    · rfl
  | _ => rfl
theorem stepPM_m (x : Pt) (ns : List Tr) : stepPM x (ns.map Tr.m) = stepP x ns := by
  unfold stepPM stepP
  rw [nmM_m, Tr.m_size]
theorem stepNM_m (x : Pt) (ns : List Tr) : stepNM x (ns.map Tr.m) = (stepN x ns).map Tr.m := by
  unfold stepNM stepN
  cases x.1.look with
  | true => rfl
  | false =>
    rw [if_neg Bool.false_ne_true, if_neg Bool.false_ne_true, madeM_m, List.map_set]
theorem maps_inj : ∀ {ns ms : List Tr}, ns.map Tr.m = ms.map Tr.m → ns = ms
  | [], [], _ => rfl
  | [], _ :: _, h => nomatch h
  | _ :: _, [], h => nomatch h
  | a :: ns, b :: ms, h => by
    rw [List.map_cons, List.map_cons, List.cons.injEq] at h
    rw [Tr.m_inj a b h.1, maps_inj h.2]
end Js

set_option Elab.async false
set_option linter.all false
set_option maxRecDepth 100000
set_option maxHeartbeats 2000000
namespace Js
open PySem L2
/-! ### objects that hold what is handed in -/
def spObj (C : Addr) (fs : List V → List (Str × V)) (n : Nat) : Sp := fun vs H Q _ => ∃ p dx xs, vs = .ref p :: xs ∧ xs.length = n ∧ H p = some (.ins C dx []) ∧ Q .non (upd H p (.ins C dx (fs xs)))
def tObj (C : Addr) (fs : List V → List (Str × V)) (n : Nat) (dvs : List V) (t : TA) : TE := fun σ H Q => t σ H fun vs H1 => (vs ++ dvs).length = n ∧ ∀ z dx H', Same H1 H' → H1 z = none → H' z = some (.ins C dx (fs (vs ++ dvs))) → Q (.ref z) H'
theorem mk_obj {C : Addr} {fs : List V → List (Str × V)} {n : Nat} {vs : List V} {H : Hp} {Q : VK} {E : XK} (hn : vs.length = n) (k : ∀ z dx H', Same H H' → H z = none → H' z = some (.ins C dx (fs vs)) → Q (.ref z) H') :
    ∀ x dx, H x = none → H dx = none → dx ≠ x → spObj C fs n (.ref x :: vs) (upd (upd H dx (.own x)) x (.ins C dx [])) (fun v H2 => v = .non ∧ Q (.ref x) H2) E := by
  intro x dx nx ndx ne
  refine ⟨x, dx, vs, rfl, hn, upd_same, rfl, ?_⟩
  rw [upd_upd]
  refine k x dx _ (fun b o e => ?_) nx upd_same
  rw [upd_ne (ne_of_none e nx), upd_ne (ne_of_none e ndx)]
  exact e
section
open PyProof.Rows
variable {X : Cx} {C f : Addr} {k n : Nat} {fd : FuncData} {ps : List Str} {fs : List V → List (Str × V)} {ds : List Value} {dvs : List V} {p pos : Pos} {x : Str} {e : Expr} {es : List Expr} {t : TA}
theorem pe_obj (M : Mk X.K C f) (G : FnOk X.prog X.w X.K X.mg X.base CX0 k f fd ps (spObj C fs n)) (hr : Room (k + 1) X.A) (hg : Gl X x) (hm : X.mg x = some (.ref C)) (hb : Binds X.K fd ps ds) (hd : Vals dvs ds) (ha : PA X (e :: es) t)
    (hdb : (x == ("__debug__" : Str)) = false := by decide) (he : starEach (e :: es) X.env = (false, eval e X.env) :: starEach es X.env := by rfl) (hpl : (backTo pos (starEach es X.env)).any (·.1) = false := by rfl) : PE X (.Call (.Name x p) (e :: es) [] pos) (tObj C fs n dvs t) := by
  refine ⟨fun pins s σ H Q I h => ?_⟩
  refine wpAny_Call_Name_kw (ld_glob I hg hm ?_ hdb)
  refine PySem.W.callWith_K (h₀ := X.base) I.ok.mod.kin M.kp (thn (ha.run pos pins s σ H _ I h) fun us s1 ⟨vs, H1, I1, r, q⟩ => ⟨I1.kIn, ?_⟩) he hpl
  exact run_make M G hr hb hd pass0 I1 r (mk_obj q.1 q.2)
end
/-- how objects of a class are made -/
structure MkO (P : Program) (w : World) (K : PySem.W.Frag) (mg : Str → Option Value) (base : Heap) (x : Str) (CS f : Addr) (fd : FuncData) (ps : List Str) (fs : List V → List (Str × V)) (n : Nat) : Prop where
  M : Mk K CS f
  G : FnOk P w K mg base CX0 1 f fd ps (spObj CS fs n)
  mgc : mg x = some (.ref CS)
  b : Binds K fd ps []
end Js

set_option Elab.async false
set_option linter.all false
set_option maxRecDepth 100000
set_option maxHeartbeats 2000000
namespace Js
open PySem L2
theorem nat_log (n : Nat) (h : n ≤ 1000000) : ((n : Nat) : Int).natAbs.log2 < 1920 := by
  rw [Int.natAbs_natCast]
  by_cases h0 : n = 0
  · subst h0; decide
  · exact Nat.lt_of_lt_of_le ((Nat.log2_lt h0).mpr (show n < 2 ^ 20 by omega)) (by decide)
/-! ### isinstance of a caught one -/
section
variable {X : Cx} {a D : Addr} {oe : Obj} {pn : List (Addr × Obj)} {d : Option Addr} {cls : Value}
def rIsX (K : PySem.W.Frag) (D a : Addr) (cls : Value) (d : Option Addr) : List V → Hp → VK → Prop := fun xs H Q => ∃ (c : V) (cv : Value) (b : Bool) (dd : Addr) (fs : List (Str × V)), xs = [.ref a, c] ∧ ClsV c cv ∧ cls = .ref D ∧ d = some dd ∧ H dd = some (.xd fs) ∧ PySem.W.kitOne K (.ref D) cv = some b ∧ Q (.bl b) H
theorem inst_x {s : Shared} {H : Hp} {dd : Addr} {fs : List (Str × V)} {pins : List (Addr × Obj)} {σ : St} (I : Inv (X.suite a ((a, oe) :: pn)) pins σ H s) (hz : Zc (.ref D) d oe) (hf : ∃ vs, oe.data = .fields vs) (e1 : d = some dd) (e2 : H dd = some (.xd fs)) : ∃ od, PySem.W.InstAt s.heap a oe D (some od) := by
  subst e1
  obtain ⟨hget, _⟩ := I.pin (a, oe) (List.mem_append_left _ List.mem_cons_self)
  obtain ⟨vs, hd⟩ := hf
  have hx : ObjOk X.prog X.w H s.heap dd (.xd fs) := I.hok dd _ e2
  obtain ⟨mA, hns, hr⟩ := hx
  obtain ⟨od, ho, hl⟩ := lookIn_ns hns
  exact ⟨od, hget, hz.1, by unfold PySem.W.notCls; rw [hd] <;> rfl, by rw [hz.2]; exact ho⟩
/-- what the class says, so that isinstance asks its instances rightly -/
structure XcC (K : PySem.W.Frag) (D : Addr) : Prop where
  hc : (PySem.W.clsIn K D).isSome = true
  hg : PySem.W.findIn K (.ref D) "__getattribute__" = some (some (.builtin "BaseException.__getattribute__"))
  hk : PySem.W.findIn K (.ref D) "__getattr__" = some none
  hs : PySem.W.subIn K (.ref D) (.type "BaseException") = some true
  ha : PySem.W.findIn K (.ref D) "__class__" = some (some (.builtin "object.__class__"))
  hn : PySem.W.specialIn K (.builtin "object.__class__") "__get__" = some (some (.builtin "getset_descriptor.__get__"))
  ht : PySem.W.takesIn K (.builtin "object.__class__") = some true
  hm : PySem.W.mroIn K D (.type "object") = some true
theorem call_isX (C : XcC X.K D) (hz : Zc cls d oe) (hf : ∃ vs, oe.data = .fields vs) : CallR (X.suite a ((a, oe) :: pn)) (.builtin "isinstance") (rIsX X.K D a cls d) := by
  intro pins s σ H xs us Q I r h
  obtain ⟨c, cv, b, dd, fs, rfl, hcv, rfl, e1, e2, e, q⟩ := h
  obtain ⟨od, J⟩ := inst_x I hz hf e1 e2
  cases r with
  | cons rx rr =>
    cases rr with
    | cons rt rr =>
      cases rr
      cases rx
      have ec := hcv.eq rt
      subst ec
      exact PySem.W.kia_one (PySem.W.kitx_exc C.hc C.hg C.hk C.hs C.ha C.hn C.ht C.hm) I.kIn J e (fun z => nomatch z) fun tk => ⟨.bl b, H, I.kept (t' := tk) fun _ _ z => z, rfl, q⟩
/-- isinstance(e, (C1, ..)) -/
def rIsXt (K : PySem.W.Frag) (D a : Addr) (cls : Value) (d : Option Addr) : List V → Hp → VK → Prop := fun xs H Q => ∃ (tp : Addr) (cs : List V) (cvs : List Value) (b : Bool) (dd : Addr) (fs : List (Str × V)), xs = [.ref a, .ref tp] ∧ H tp = some (.tup cs) ∧ Paired ClsV cs cvs ∧ cls = .ref D ∧ d = some dd ∧ H dd = some (.xd fs) ∧ PySem.W.kitAny K (.ref D) cvs = some b ∧ Q (.bl b) H
theorem call_isXt (C : XcC X.K D) (hz : Zc cls d oe) (hf : ∃ vs, oe.data = .fields vs) : CallR (X.suite a ((a, oe) :: pn)) (.builtin "isinstance") (rIsXt X.K D a cls d) := by
  intro pins s σ H xs us Q I r h
  obtain ⟨tp, cs, cvs, b, dd, fs, rfl, ht, hcv, rfl, e1, e2, e, q⟩ := h
  obtain ⟨od, J⟩ := inst_x I hz hf e1 e2
  cases r with
  | cons rx rr =>
    cases rr with
    | cons rt rr =>
      cases rr
      cases rx
      cases rt
      obtain ⟨its, rv, ⟨o, ho, hcl, n, hdt⟩, _⟩ := I.tuple (SqT.of ht)
      have ev := ClsV.all hcv rv
      subst ev
      obtain ⟨oc, od', oda, osl⟩ := o
      dsimp only at hcl hdt
      subst hcl hdt
      exact PySem.W.kia_tup (PySem.W.kitx_exc C.hc C.hg C.hk C.hs C.ha C.hn C.ht C.hm) I.kIn J ho e (fun z => nomatch z) fun tk => ⟨.bl b, H, I.kept (t' := tk) fun _ _ z => z, rfl, q⟩
end
end Js

set_option Elab.async false
set_option linter.all false
set_option maxRecDepth 100000
set_option maxHeartbeats 4000000
/-! own exception classes over any built-in one -/
namespace JsGx
open PySem PySem.W PyProof.Rows PySem.HandSPX Builtin Builtin.ObjectAttr
section
variable {prog : Program} {w : World} {A : Around} {E : Value → Shared → Prop}
variable {h0 : Heap} {gs : Array GenState} {dr : Drawn} {tt : Nat} {os : OsState} {K : W.Frag}
/-- the first field of an exception without a dict -/
theorem own_first {nm : Str} {tk : Tok} {v : Value} {x C : Addr} {fv : Array Value} {cd : ClassData} {b : Bool} {Q : Fin → Shared → Prop}
    (kin : K.In h0) (at_ : h0.get? x = some { cls := .ref C, data := .fields fv }) (hcd : W.clsIn K C = some cd) (hh : cd.hasDict = true)
    (q : ∀ h1 tk1 dx, (∀ c o, c ≠ x → h0.get? c = some o → h1.get? c = some o) → h0.objs.size ≤ dx → dx ≠ x →
      h1.get? x = some { cls := .ref C, dict := some dx, data := .fields fv } → h1.Ns1 dx (fun y => if y = nm then some v else none) → Q (.done (.ret .none)) ⟨h1, gs, dr, tk1, os⟩) :
    wpAny (model prog w) A (storeInOwnDict (.ref x) (.ref C) (.str nm tk) nm v b) Q E ⟨h0, gs, dr, tt, os⟩ := by
  have lc : W.Looks (model prog w) h0 (classData C) cd := W.looks_clsIn kin hcd
  have nx : x ≠ h0.objs.size := Nat.ne_of_lt (Heap.lt_size at_)
  obtain ⟨n1, bs, mro, ns, qn, hd, sn, sb, ab, col, del⟩ := cd
  cases (show hd = true from hh)
  unfold storeInOwnDict ownDictForStores
  repeat first
    | with_reducible refine store_in_new ?_ ?_
    | with_reducible refine wpAny_loadPart_at at_ ?_
    | with_reducible refine lc.at ?_
    | wp_step
  · exact ⟨_, #[], _, (Heap.get?_update_ne _ _ _ _ nx.symm).trans (Heap.get?_push_at rfl rfl), rfl, fun e he => absurd he (by simp), fun _ => rfl⟩
  · intro h1 tk1 hn1 hs1
    have there := Heap.get?_push_of_some { cls := .type "dict", data := .dict #[] } at_
    have kept : ∀ c o, c ≠ x → h0.get? c = some o → h1.get? c = some o := fun c o nc hc =>
      (hs1.2 c (Nat.ne_of_lt (Heap.lt_size hc))).trans ((Heap.get?_update_ne _ _ _ _ nc).trans (Heap.get?_push_of_some _ hc))
    exact q h1 tk1 h0.objs.size kept (Nat.le_refl _) nx.symm ((hs1.2 x nx).trans (Heap.get?_update_self _ there rfl)) hn1
end
end JsGx
namespace Js
open PySem L2 PySem.Spec PyProof.Rows
/-- an own class at C over the built-in exception B -/
structure GexC (K : PySem.W.Frag) (C : Addr) (B nw ini : String) (tl : List Value) : Prop where
  F : ExcBaseFacts B nw ini tl
  SF : StoreFacts B tl "object.__setattr__" "object"
  cls : ∃ nm q N bs bm sn sub ab col dd k0 k1 k2 k3 k5, K.lookup C = some (excClassObj nm q C N bs bm true sn sub ab col dd k0 k1 k2 k3 k5 nw) ∧ ∀ Y : String, bm.contains (.type Y) = tl.contains (.type Y)
  ov : PySem.W.excOver K C tl = true
  st : PySem.W.findIn K (.ref C) "__setattr__" = some (some (.builtin "object.__setattr__"))
  be : PySem.W.subIn K (.ref C) (.type "BaseException") = some true
  ty : PySem.W.typeIn K (.ref C) = some (.type "type")
  kp : PySem.W.keepIn K (.ref C) = true
section
variable {X : Cx} {pins : List (Addr × Obj)} {σ : L2.St} {H : Hp} {s : Shared} {a C : Addr} {f : Str} {y : V} {u : Value} {B nw ini : String} {tl : List Value}
theorem g_first {A : Around} {Q : Unit → Shared → Prop} {E : Value → Shared → Prop} (T : GexC X.K C B nw ini tl) (I : Inv X pins σ H s) (e : H a = some (exo a C none)) (hno : PySem.W.findIn X.K (.ref C) f = some none) (ry : RelV y u)
    (k : ∀ dx s', H dx = none → dx ≠ a → Inv X pins σ (upd (upd H dx (exd dx [(f, y)])) a (exo a C (some dx))) s' → Q () s') : wpAny (model X.prog X.w) A (setAttr (.ref a) f u) Q E s := by
  obtain ⟨nm, q, N, bs, bm, sn, sub, ab, col, dd, k0, k1, k2, k3, k5, hC, _⟩ := T.cls
  obtain ⟨t1, ho⟩ := exo_at I.hok e
  obtain ⟨hp, g, d, t, os⟩ := s
  have IA : PySem.W.InstAt hp a _ C none := ⟨ho, rfl, rfl, trivial⟩
  refine PySem.W.set_plain I.kIn IA T.st ?_
  refine PySem.W.osa_openX (r := none) T.SF I.kIn IA T.ov (by unfold PySem.W.takerIn; rw [hno]; rfl) fun b => ?_
  refine JsGx.own_first I.kIn ho (by unfold PySem.W.clsIn; rw [hC] <;> rfl) rfl fun h1 tk1 dx kept dn dne hx hn => ?_
  have hnd : H dx = none := I.hok.fresh dn
  have off : ∀ {c : Addr}, H c = none → c ≠ a := fun {c} n z => nomatch (z ▸ n).symm.trans e
  have old : ∀ {c : Addr} {o : Obj}, hp.get? c = some o → c ≠ dx := fun {c o} z => Nat.ne_of_lt (Nat.lt_of_lt_of_le (Heap.lt_size z) dn)
  have U : Un X.fs [] H (upd (upd H dx (exd dx [(f, y)])) a (exo a C (some dx))) hp h1 := by
    refine { keep := ?_, slot := ?_, free := ?_, there := ?_, tups := ?_, frzs := ?_, tbls := ?_ }
    · intro c o z n _ _
      exact kept c o (off n) z
    · intro c o z n _ _
      exact ⟨o.slots, kept c o (off n) z⟩
    · intro c o z n _
      rw [upd_ne (off n), upd_ne (old z)]
      exact n
    · intro c o z _
      by_cases hc : c = a
      · exact ⟨_, hc ▸ hx⟩
      · exact ⟨o, kept c o hc z⟩
    · intro c xs z
      rw [upd_ne (at_ne e z exo_tup), upd_ne (ne_of_none z hnd)]
      exact z
    · intro c o v z
      rw [upd_ne (at_ne e z exo_frz), upd_ne (ne_of_none z hnd)]
      exact z
    · intro c ps z
      refine ⟨#[], ?_⟩
      rw [upd_ne (at_ne e z exo_tbl), upd_ne (ne_of_none z hnd), z]
      simp
  refine k dx _ hnd dne (I.un (t' := tk1) U fun c o z => ?_)
  by_cases hc : c = a
  · subst hc
    cases upd_same.symm.trans z
    exact exo_ok hx
  · rw [upd_ne hc] at z
    by_cases hd : c = dx
    · subst hd
      cases upd_same.symm.trans z
      exact exd_ok hn (relO_put (fs := []) ry fun _ => True.intro)
    · rw [upd_ne hd] at z
      refine (I.hok c o z).stay (fun m v hm zz => kept m v ?_ zz) (fun m hm => ?_) (fun m xs hm => ?_)
      · rcases hm with hm | hm
        · exact hm ▸ hc
        · exact at_ne e hm exo_own
      · rw [upd_ne (at_ne e hm exo_own), upd_ne (ne_of_none hm hnd)]
        exact hm
      · rw [upd_ne (at_ne e hm exo_tup), upd_ne (ne_of_none hm hnd)]
        exact hm
/-- B.__init__(self, ..) -/
theorem g_init {A : Around} {E : Value → Shared → Prop} {us : List Value} {Q : Value → Shared → Prop} (T : GexC X.K C B nw ini tl) (I : Inv X pins σ H s) (e : H a = some (exo a C none)) (hl : us.length ≤ sizeLine) (k : ∀ s', Inv X pins σ H s' → Q .none s') :
    wpAny (model X.prog X.w) A (call (.builtin ini) (.ref a :: us)) Q E s := by
  obtain ⟨nm, q, N, bs, bm, sn, sub, ab, col, dd, k0, k1, k2, k3, k5, hC, hT⟩ := T.cls
  obtain ⟨t1, ho⟩ := exo_at I.hok e
  obtain ⟨hp, g, d, t, os⟩ := s
  refine wpAny_call (PySem.HandSPX.init_base T.F hT (I.kIn _ _ hC) ho hl fun h1 t2 kept hx => k _ ?_)
  have eu : upd H a (exo a C none) = H := funext fun c => by
    by_cases hc : c = a
    · rw [hc, upd_same, e]
    · exact upd_ne hc
  exact eu ▸ I.write (t' := t) (x := a) (e := a) (o := exo a C none) (by rw [e]; exact True.intro) (.inl rfl) kept ⟨_, hx⟩ (exo_ok hx)
end
/-! the rules -/
/-- B.__init__(self, ..), by its signs -/
def tGi (K : PySem.W.Frag) (B nw ini : String) (tl : List Value) (ta : TA) : TE := fun σ H Q => ta σ H fun vs H1 => ∃ (a C : Addr) (r : List V), vs = .ref a :: r ∧ r.length ≤ 1000 ∧ GexC K C B nw ini tl ∧ H1 a = some (exo a C none) ∧ Q .non H1
/-- self.f = e, nothing stored as yet -/
def tGs (K : PySem.W.Frag) (B nw ini : String) (tl : List Value) (f : Str) (to te : TE) : TS := fun D σ H => te σ H fun y H1 => to σ H1 fun x H2 => ∃ a C : Addr, x = .ref a ∧ GexC K C B nw ini tl ∧ PySem.W.findIn K (.ref C) f = some none ∧ H2 a = some (exo a C none) ∧
  ∀ dx, H2 dx = none → dx ≠ a → D.nx σ (upd (upd H2 dx (exd dx [(f, y)])) a (exo a C (some dx)))
section
variable {X : Cx} {o e : Expr} {es : List Expr} {to te : TE} {ta : TA} {f : Str} {p p' p1 p2 pos : Pos} {B nw ini : String} {tl : List Value}
theorem ps_gst (ho : PE X o to) (he : PE X e te) (hs : swapsWith e (some (.Attribute o f p')) pos.line X.env = pure false := by rfl) : PS X (.Assign [.Attribute o f p'] e pos) (tGs X.K B nw ini tl f to te) := by
  constructor
  intro pins s σ H D I h
  refine plainObj_wpAny_Assign_Attribute (thn (he.run pins s σ H _ I h) ?_) hs
  rintro v s1 ⟨y, H1, I1, r1, q1⟩
  refine thn (ho.run pins s1 σ H1 _ I1 q1) ?_
  rintro u s2 ⟨x, H2, I2, r2, a, C, rfl, T, hno, ea, q⟩
  cases (show u = Value.ref a from r2)
  exact g_first T I2 ea hno r1 fun dx s' n ne J => ⟨σ, _, J, q dx n ne⟩
theorem typ_OE : typeOf (.type "OverflowError") = pure (.type "type") := by kernel_rfl
theorem pe_oeinit {pl : Sem Bool} (hg : Gl X "OverflowError") (hm : X.mg "OverflowError" = none) (vV : PySem.W.findCls X.K (.type "OverflowError") (.type "type") "__init__" = some (.val (.builtin "OverflowError.__init__"))) (ha : PA X (e :: es) ta)
    (hc : eval (.Call (.Attribute (.Name "OverflowError" p1) "__init__" p2) (e :: es) [] pos) X.env = (do
      let ov ← eval (.Name "OverflowError" p1) X.env; standAt p2.atName
      let (f, first) ← holding [ov] (getMethod ov "__init__" pl); callWith pos f first (backTo pos (starEach (e :: es) X.env)) (backToKw pos (keywordEach [] X.env))) := by rfl)
    (he : starEach (e :: es) X.env = (false, eval e X.env) :: starEach es X.env := by rfl) (hpl : (backTo pos (starEach es X.env)).any (·.1) = false := by rfl) :
    PE X (.Call (.Attribute (.Name "OverflowError" p1) "__init__" p2) (e :: es) [] pos) (tGi X.K "OverflowError" nw "OverflowError.__init__" tl ta) := by
  constructor
  intro pins s σ H Q I h
  refine PySem.W.methodCall_KW (ld_blt I hg hm PyProof.Rows.Boot.«OverflowError» ?_ (by decide) (by decide)) hc
  obtain ⟨m, fr⟩ := I.fr
  refine PySem.W.method_type fr I.ok.mod.kin typ_OE (by decide +kernel) vV (by decide +kernel) ?_
  show wpAny _ _ (callWith pos (Value.builtin "OverflowError.__init__") [] (backTo pos (starEach (e :: es) X.env)) []) _ _ _
  refine PyProof.Rows.callWith_method1 (thn (ha.run pos pins _ σ H _ (I.tok _) h) ?_) he hpl
  rintro us s1 ⟨vs, H1, I1, r1, a, C, r, rfl, hl, T, ea, q⟩
  cases r1 with
  | @cons _ u0 _ ur ra rr =>
    cases (show u0 = Value.ref a from ra)
    refine g_init T I1 ea ?_ fun s' J => ⟨.non, H1, J, rfl, q⟩
    have e1 := Paired.length rr
    have e2 := sizeLine_eq
    omega
/-- C(e, ..) is made, to be raised -/
theorem pmk_gex {CX : CXT} {x : Str} {C fI : Addr} {k : Nat} {fd : FuncData} {ps : List Str} {sp : Sp} {ds : List Value} {dvs : List V} (T : GexC X.K C B nw ini tl) (iC : PySem.W.findIn X.K (.ref C) "__init__" = some (some (.ref fI))) (tI : PySem.W.typeIn X.K (.ref fI) = some (.type "function"))
    (G : FnOk X.prog X.w X.K X.mg X.base CX k fI fd ps sp) (hr : Room (k + 1) X.A) (hb : Binds X.K fd ps ds) (hd : Vals dvs ds) (hx : Passes CX X (fun _ _ _ => False)) (hg : Gl X x) (hm : X.mg x = some (.ref C)) (ha : PA X (e :: es) ta)
    (hdb : (x == ("__debug__" : Str)) = false := by decide) (he : starEach (e :: es) X.env = (false, eval e X.env) :: starEach es X.env := by rfl) (hpl : (backTo pos (starEach es X.env)).any (·.1) = false := by rfl) :
    PMk X (.Call (.Name x p) (e :: es) [] pos) (tMkO C sp dvs ta) := by
  obtain ⟨nm, q, N, bs, bm, sn, sub, ab, col, dd, k0, k1, k2, k3, k5, hC, hT⟩ := T.cls
  intro pins s σ H Q I h
  refine wpAny_Call_Name_kw (ld_glob I hg hm ?_ hdb)
  refine PySem.W.callWith_K (h₀ := X.base) I.ok.mod.kin T.kp (thn (ha.run pos pins s σ H _ I h) ?_) he hpl
  rintro us ⟨hp, g, dr, tk, os⟩ ⟨vs, H1, I1, r1, hz, q1⟩
  refine ⟨I1.kIn, ?_⟩
  show wpAny _ _ (call (.ref C) us) _ _ _
  have up := Nat.le_succ hp.objs.size
  have hq := q1 (hp.objs.size + 1) (I1.hok.fresh up)
  have kk : ∀ c z, hp.get? c = some z → ((hp.push (PySem.W.kdv_tup us)).push (PySem.HandSPX.excO C hp.objs.size)).get? c = some z := fun c z h => Heap.get?_push_of_some _ (Heap.get?_push_of_some _ h)
  have at1 : ((hp.push (PySem.W.kdv_tup us)).push (PySem.HandSPX.excO C hp.objs.size)).get? (hp.objs.size + 1) = some (PySem.HandSPX.excO C hp.objs.size) := by heap_get
  have I2 : Inv X pins σ (upd H1 (hp.objs.size + 1) (exo (hp.objs.size + 1) C none)) ⟨(hp.push (PySem.W.kdv_tup us)).push (PySem.HandSPX.excO C hp.objs.size), g, dr, tk, os⟩ :=
    I1.laid (t' := tk) kk up (exo_ok at1)
  have r2 : Vals (V.ref (hp.objs.size + 1) :: (vs ++ dvs)) (Value.ref (hp.objs.size + 1) :: (us ++ ds)) := .cons rfl (r1.append hd)
  have hl : (Value.ref (hp.objs.size + 1) :: us ++ ds).length = ps.length := (r2.length.symm.trans (G.len _ _ _ _ hq))
  have hus : us.length ≤ sizeLine := by
    have e1 := Paired.length r1
    have e2 := sizeLine_eq
    omega
  refine wpAny_call (PySem.HandSPX.call_own T.F hT (I1.kIn _ _ hC) (PySem.W.looks_findIn I1.kIn iC) (fun self => PySem.W.bind_fn I1.kIn self tI) hus ?_)
  refine codeAny_mono (G.run _ X.stack _ _ ⟨Value.ref (hp.objs.size + 1) :: us, []⟩ (Value.ref (hp.objs.size + 1) :: (us ++ ds)) _ _ (fun _ _ _ => False) (hr.make C us []) (I2.env0.make C us []) (hb _ (Value.ref (hp.objs.size + 1) :: us) I2.kIn hl) r2 hq) ?_
  rintro (er | fl) s' hq'
  · exact hx pins σ _ _ er s' I2 hq'
  · cases fl with
    | ret u =>
      obtain ⟨v, H2, os2, bare2, un2, hok2, rv, rfl, d, fs, ea, ed, hd1, q2⟩ := hq'
      obtain ⟨h2, g2, d2, t2, os'⟩ := s'
      exact ⟨rv, mk_end (raises_own T.be T.ty) I1 up kk un2 hok2 os2 bare2 ea ed hd1 q2⟩
    | next => exact hq'.elim
    | brk => exact hq'.elim
    | cont => exact hq'.elim
end
end Js

set_option Elab.async false
set_option linter.all false
set_option maxRecDepth 100000
set_option maxHeartbeats 2000000
namespace Js
open PySem L2
/-! ### TooGreat -/
abbrev sTg : Stmt := inClass (top 3) 0
abbrev tlO : List Value := [.type "OverflowError", .type "ArithmeticError", .type "Exception", .type "BaseException", .type "object"]
abbrev GexO (K : PySem.W.Frag) (N : Addr) : Prop := GexC K N "OverflowError" "OverflowError.__new__" "OverflowError.__init__" tlO
structure TgC (K : PySem.W.Frag) (mg : Str → Option Value) (N : Addr) : Prop where
  mgN : mg "TooGreat" = some (.ref N)
  O : GexO K N
  bd : PySem.W.findIn K (.ref N) "bound" = some none
  mOE : mg "OverflowError" = none
  vV : PySem.W.findCls K (.type "OverflowError") (.type "type") "__init__" = some (.val (.builtin "OverflowError.__init__"))
def spTg (K : PySem.W.Frag) : Sp := fun vs H Q _ => ∃ (a N : Addr) (n : Nat), vs = [.ref a, .int (n : Nat)] ∧ n ≤ 1000000 ∧ GexO K N ∧ PySem.W.findIn K (.ref N) "bound" = some none ∧ H a = some (exo a N none) ∧
  ∀ dx, H dx = none → dx ≠ a → Q .non (upd (upd H dx (exd dx [("bound", .int (n : Nat))])) a (exo a N (some dx)))
section
variable {P : Program} {w : World} {K : PySem.W.Frag} {mg : Str → Option Value} {base : Heap} {N C : Addr}
theorem scTg : FnScope ["self", "bound"] ["self", "bound"] (defScope sTg) := ⟨rfl, rfl, rfl, by decide +kernel, rfl, by decide +kernel, by decide +kernel⟩
theorem ok_tg {f : Addr} {fd : FuncData} (F : Fun K "__init__" "TooGreat.__init__" sTg f fd) (T : TgC K mg N) : FnOk P w K mg base CX0 1 f fd ["self", "bound"] (spTg K) := by
  refine F.ok scTg (fun vs H Q E h => ?_) (fun cdv A outer s H vs Q E hr h => ?_)
  · obtain ⟨a, N, n, rfl, _⟩ := h
    rfl
  · obtain ⟨a, N, n, rfl, hn, hO, hno, ha, k⟩ := h
    refine ⟨_, pss_cons (ps_expr (pe_oeinit (nw := "OverflowError.__new__") (tl := tlO) rfl T.mOE T.vV (pa_cons (pv 0) (pa_cons (pe_joined (.cons pe_str (.cons (pe_fmt (pv 1)) .nil))) pa_nil)))) (pss_one (ps_gst (B := "OverflowError") (nw := "OverflowError.__new__") (ini := "OverflowError.__init__") (tl := tlO) (pv 0) (pv 1))), ?_⟩
    have hlg := nat_log n hn
    have hl := PyProof.Rows.int_text_len_1921 hlg
    have hs := sizeLine_eq
    refine ⟨_, rfl, _, rfl, by decide +kernel, _, rfl, .inr ⟨_, rfl, hlg, _, rfl, ?_, ?_⟩⟩
    · rw [PySem.Str.length_append]
      have e : (Str.empty ++ ("greater than " : Str)).length = 13 := by decide +kernel
      omega
    · refine ⟨a, N, _, rfl, by simp, hO, ha, ?_⟩
      exact ⟨_, rfl, _, rfl, a, N, rfl, hO, hno, ha, fun dx h1 h2 => k dx h1 h2⟩
/-- TooGreat(n) is made -/
theorem raise_tg {H1 : Hp} {n : Nat} {Q : XK} (hO : GexO K N) (hno : PySem.W.findIn K (.ref N) "bound" = some none) (hn : n ≤ 1000000)
    (q : ∀ d H', Same H1 H' → H' d = some (.xd [("bound", .int (n : Nat))]) → Q (.ref N) (some d) H') :
    ∀ a, H1 a = none → spTg K [.ref a, .int (n : Nat)] (upd H1 a (exo a N none)) (fun v H2 => v = .non ∧ ∃ (d : Addr) (fs : List (Str × V)), H2 a = some (exo a N (some d)) ∧ H2 d = some (exd d fs) ∧ H1 d = none ∧ Q (.ref N) (some d) (upd (del H2 a) d (.xd fs))) (fun _ _ _ => False) := by
  intro a ha
  refine ⟨a, N, n, rfl, hn, hO, hno, upd_same, fun dx hd ne => ⟨rfl, dx, _, upd_same, (upd_ne ne).trans upd_same, ?_, q dx _ ?_ upd_same⟩⟩
  · rw [upd_ne ne] at hd
    exact hd
  · rw [upd_ne ne] at hd
    intro b o h
    have e1 := ne_of_none h hd
    have e2 := ne_of_none h ha
    rw [upd_ne e1, del_ne e2, upd_ne e2, upd_ne e1, upd_ne e2]
    exact h
/-- the class TooGreat and its __init__ -/
structure TgM (P : Program) (w : World) (K : PySem.W.Frag) (mg : Str → Option Value) (base : Heap) (N fN : Addr) (fdN : FuncData) : Prop where
  T : TgC K mg N
  iN : PySem.W.findIn K (.ref N) "__init__" = some (some (.ref fN))
  tN : PySem.W.typeIn K (.ref fN) = some (.type "function")
  ok : FnOk P w K mg base CX0 1 fN fdN ["self", "bound"] (spTg K)
  bN : Binds K fdN ["self", "bound"] []
/-- Thing.__init__, whatever the size -/
def spInitX (C N : Addr) : Sp := fun vs H Q E => ∃ (p dx : Addr) (x y : V) (n : Nat), vs = [.ref p, x, y] ∧ H p = some (.ins C dx []) ∧ PairsOf C H x y n ∧ n ≤ 100000 ∧ (n ≤ 4000 → Q .non (upd H p (.ins C dx (tf x y (n : Nat))))) ∧
  (4000 < n → ∀ d H', Same H H' → H' d = some (.xd [("bound", .int ((4000 : Nat) : Int))]) → E (.ref N) (some d) H')
theorem ok_initX {f fP fN : Addr} {fd fdP fdN : FuncData} (F : FunD K "__init__" "Thing.__init__" (defArgs sInit) (defBody sInit) (defScope sInit) [.non, .non] [] f fd) (T : Txt K mg C) (AP : At K mg "pairs_in" sPairs ["first", "second"] fP fdP) (M : TgM P w K mg base N fN fdN) :
    FnOk P w K mg base (L2.CX P w) 3 f fd ["self", "first", "second"] (spInitX C N) := by
  have GP : FnOk P w K mg base CX0 1 fP fdP ["first", "second"] (spPairs C) := ok_pairs AP.F T
  obtain ⟨tm, mgM⟩ := T.mgM
  refine F.ok scI (fun vs H Q E h => ?_) (fun cdv A outer s H vs Q E hr h => ?_)
  · obtain ⟨p, dx, x, y, n, rfl, _⟩ := h
    rfl
  · obtain ⟨p, dx, x, y, n, rfl, hp, hxy, hn, k, ke⟩ := h
    have hr1 : Room 1 _ := hr.mono (by decide)
    refine ⟨_, pss_cons (ps_set (i := 3) scI.nd rfl (Or.inl rfl) (pe_call GP hr1 rfl AP.mgf AP.F.kp AP.b .nil pass0 (pa_cons (pv 1) (pa_cons (pv 2) pa_nil))))
      (pss_cons (ps_if (pt_cmpR op_gt (pv 3) (pe_glob (v := .int 4000) rfl mgM ⟨_, rfl⟩) (nomark _)) (pss_one (ps_raise rfl (takes_of rfl rfl rfl rfl) (pmk_gex M.T.O M.iN M.tN M.ok hr M.bN .nil pass0 rfl M.T.mgN (pa_cons (pe_glob (v := .int ((4000 : Nat) : Int)) rfl mgM ⟨_, rfl⟩) pa_nil)))) pss_nil)
      (pss_cons (ps_fld (pv 0) (pv 1) rfl) (pss_cons (ps_fld (pv 0) (pv 2) rfl) (pss_one (ps_fld (pv 0) (pv 3) rfl))))), ?_⟩
    refine ⟨_, rfl, _, rfl, x, y, n, rfl, hxy, ?_⟩
    refine ⟨_, rfl, _, _, rfl, rfl, _, rfl, ?_⟩
    by_cases h4 : n ≤ 4000
    · have ed : decide ((4000 : Int) < (n : Nat)) = false := decide_eq_false (by omega)
      rw [ed]
      refine iteF ?_
      refine ⟨_, rfl, _, rfl, p, C, dx, [], rfl, hp, T.cl, T.nF, (by show 0 < 1000; decide), ?_⟩
      refine ⟨_, rfl, _, rfl, p, C, dx, _, rfl, upd_same, T.cl, T.nS, Nat.lt_of_le_of_lt (length_putF _ _ _) (by show 0 + 1 < 1000; decide), ?_⟩
      refine ⟨_, rfl, _, rfl, p, C, dx, _, rfl, upd_same, T.cl, T.nZ, ?_, ?_⟩
      · have h1 := length_putF "first" x []
        have h2 := length_putF "second" y (putF "first" x [])
        simp only [List.length_nil] at h1
        omega
      · show Q .non (upd (upd (upd H p _) p _) p (.ins C dx (tf x y (n : Nat))))
        rw [upd_upd, upd_upd]
        exact k h4
    · have ed : decide ((4000 : Int) < (n : Nat)) = true := decide_eq_true (by omega)
      rw [ed]
      refine iteT ?_
      exact ⟨by simp, raise_tg M.T.O M.T.bd (by decide) fun d H' sH hd => ke (by omega) d H' sH hd⟩
end
/-! ### made, at given slots -/
section
open PyProof.Rows
variable {X : Cx} {CX : CXT} {C f : Addr} {k : Nat} {fd : FuncData} {ps : List Str} {sp : Sp} {ds us : List Value} {dvs vs : List V} {E : XK} {pins : List (Addr × Obj)} {σ : L2.St} {H : Hp} {s : Shared} {Q : VK}
/-- as run_make, what may be let out told at these slots alone -/
theorem make_at (M : Mk X.K C f) (G : FnOk X.prog X.w X.K X.mg X.base CX k f fd ps sp) (hr : Room (k + 1) X.A) (hb : Binds X.K fd ps ds) (hd : Vals dvs ds) (out : PassesAt CX X σ E) (I : Inv X pins σ H s) (r : Vals vs us)
    (h : ∀ x dx, H x = none → H dx = none → dx ≠ x → sp (.ref x :: (vs ++ dvs)) (upd (upd H dx (.own x)) x (.ins C dx [])) (fun v H2 => v = .non ∧ Q (.ref x) H2) E) : wpAny (model X.prog X.w) X.A (call (.ref C) us) (EP X pins σ Q) X.xe s := by
  have I2 := Inv.made (C := C) I
  have hq := h _ _ (I.hok.fresh (Nat.le_succ _)) (I.hok.fresh (Nat.le_refl _)) (Nat.ne_of_lt (Nat.lt_succ_self s.heap.objs.size))
  have r2 : Vals (V.ref (s.heap.objs.size + 1) :: (vs ++ dvs)) (Value.ref (s.heap.objs.size + 1) :: (us ++ ds)) := .cons rfl (r.append hd)
  have hl : (Value.ref (s.heap.objs.size + 1) :: us ++ ds).length = ps.length := r2.length.symm.trans (G.len _ _ _ _ hq)
  have ran := G.run _ X.stack _ _ ⟨Value.ref (s.heap.objs.size + 1) :: us, []⟩ (Value.ref (s.heap.objs.size + 1) :: (us ++ ds)) _ _ E (hr.make C us []) (I2.env0.make C us []) (hb _ (Value.ref (s.heap.objs.size + 1) :: us) I2.kIn hl) r2 hq
  refine wpAny_call (make_map (f := f) I.kIn M.makes M.init (beq_iff_eq.mp M.fn) (codeAny_mono ran ?_))
  rintro (er | fl) s' z
  · exact out pins _ _ er s' I2 z
  · cases fl with
    | ret u =>
      obtain ⟨v, H3, I3, rv, rfl, q3⟩ := I2.after z
      exact ⟨rv, ⟨V.ref (s.heap.objs.size + 1), H3, I3, rfl, q3⟩⟩
    | next => exact z.elim
    | brk => exact z.elim
    | cont => exact z.elim
end
end Js

set_option Elab.async false
set_option linter.all false
set_option maxRecDepth 100000
set_option maxHeartbeats 2000000
namespace Js
open PySem L2
/-- a Thing of any size made, or refused -/
structure MakerX (P : Program) (w : World) (K : PySem.W.Frag) (mg : Str → Option Value) (base : Heap) (C fI N : Addr) (fdI : FuncData) : Prop where
  M : Mk K C fI
  G : FnOk P w K mg base (L2.CX P w) 3 fI fdI ["self", "first", "second"] (spInitX C N)
  mgC : mg "Thing" = some (.ref C)
  b2 : Binds K fdI ["self", "first", "second"] []
def tTX (C N : Addr) (E : L2.St → XK) (t : TA) : TE := fun σ H Q => t σ H fun vs H1 => ∃ a b t u, vs = [.ref a, .ref b] ∧ Th C H1 a t ∧ Th C H1 b u ∧ 1 + t.size + u.size ≤ 100000 ∧
  (1 + t.size + u.size ≤ 4000 → ∀ z H', Same H1 H' → H1 z = none → Th C H' z (.pr t u) → Q (.ref z) H') ∧
  (4000 < 1 + t.size + u.size → ∀ d H', Same H1 H' → H' d = some (.xd [("bound", .int ((4000 : Nat) : Int))]) → E σ (.ref N) (some d) H')
theorem mk_prX {C N a b : Addr} {H : Hp} {t u : Tr} {Q : VK} {E : XK} (ha : Th C H a t) (hb : Th C H b u) (hz : 1 + t.size + u.size ≤ 100000)
    (k : 1 + t.size + u.size ≤ 4000 → ∀ x H', Same H H' → H x = none → Th C H' x (.pr t u) → Q (.ref x) H')
    (ke : 4000 < 1 + t.size + u.size → ∀ d H', Same H H' → H' d = some (.xd [("bound", .int ((4000 : Nat) : Int))]) → E (.ref N) (some d) H') :
    ∀ x dx, H x = none → H dx = none → dx ≠ x → spInitX C N (.ref x :: ([.ref a, .ref b] ++ [])) (upd (upd H dx (.own x)) x (.ins C dx [])) (fun v H3 => v = .non ∧ Q (.ref x) H3) E := by
  intro x dx nx ndx ne
  have s0 : Same H (upd (upd H dx (.own x)) x (.ins C dx [])) := (Same.new ndx).trans (Same.new (by rw [upd_ne (Ne.symm ne)]; exact nx))
  refine ⟨x, dx, _, _, 1 + t.size + u.size, rfl, upd_same, .inr ⟨a, b, t, u, rfl, rfl, ha.same s0, hb.same s0, rfl⟩, hz, fun h4 => ⟨rfl, ?_⟩, fun h4 d H' sH hd => ke h4 d H' (s0.trans sH) hd⟩
  rw [upd_upd]
  have s1 : Same H (upd (upd H dx (.own x)) x (.ins C dx (tf (.ref a) (.ref b) ((1 + t.size + u.size : Nat) : Int)))) := (Same.new ndx).trans (Same.new (by rw [upd_ne (Ne.symm ne)]; exact nx))
  exact k h4 x _ s1 nx (.pr upd_same (ha.same s1) (hb.same s1))
section
open PyProof.Rows
variable {X : Cx} {C N fI : Addr} {fdI : FuncData} {p pos : Pos} {e : Expr} {es : List Expr} {t : TA} {E : L2.St → XK}
theorem pe_T2X (mk : MakerX X.prog X.w X.K X.mg X.base C fI N fdI) (hr : Room 4 X.A) (hg : Gl X "Thing") (out : ∀ σ, PassesAt (L2.CX X.prog X.w) X σ (E σ)) (ha : PA X (e :: es) t)
    (he : starEach (e :: es) X.env = (false, eval e X.env) :: starEach es X.env := by rfl) (hpl : (backTo pos (starEach es X.env)).any (·.1) = false := by rfl) : PE X (.Call (.Name "Thing" p) (e :: es) [] pos) (tTX C N E t) := by
  refine ⟨fun pins s σ H Q I h => ?_⟩
  refine wpAny_Call_Name_kw (ld_glob I hg mk.mgC ?_ (by decide))
  refine PySem.W.callWith_K (h₀ := X.base) I.ok.mod.kin mk.M.kp (thn (ha.run pos pins s σ H _ I h) fun us s1 ⟨vs, H1, I1, r, q⟩ => ⟨I1.kIn, ?_⟩) he hpl
  obtain ⟨a, b, t, u, rfl, h1, h2, hz, k, ke⟩ := q
  exact make_at mk.M mk.G hr mk.b2 .nil (out σ) I1 r (mk_prX h1 h2 hz k ke)
end
/-- what the top says of TooGreat and the other refusals -/
structure RfC (K : PySem.W.Frag) (mg : Str → Option Value) (N : Addr) : Prop where
  tg : TgC K mg N
  xf : XfC K N
  xc : XcC K N
  ex : PySem.W.exmOne K (.ref N) (.ref N) = some true
  oe : PySem.W.kitOne K (.ref N) (.type "OverflowError") = some true
  oth : ∃ n1 n2 n3 n4 n5 n6 : Addr, mg "NoName" = some (.ref n1) ∧ mg "NoProgram" = some (.ref n2) ∧ mg "NoRoom" = some (.ref n3) ∧ mg "NoSaying" = some (.ref n4) ∧ mg "NoStep" = some (.ref n5) ∧ mg "NoText" = some (.ref n6) ∧
    PySem.W.kitAny K (.ref N) [.ref n1, .ref n2, .ref n3, .ref n4, .ref n5, .ref n6] = some false
end Js

set_option Elab.async false
set_option linter.all false
set_option maxRecDepth 100000
set_option maxHeartbeats 4000000
/-! refusals whose context is None; objects made while one is handled -/
namespace Js
open PySem L2 PySem.Spec PyProof.Rows
/-- a def, whatever it may let out -/
theorem okC {CX : CXT} {P : Program} {w : World} {K : PySem.W.Frag} {mg : Str → Option Value} {base : Heap} {x ql : Str} {st : Stmt} {f : Addr} {fd : FuncData} {N ps : List Str} {k : Nat} {sp : Sp} (F : Fun K x ql st f fd) (S : FnScope N ps (defScope st)) (hl : ∀ vs H Q E, sp vs H Q E → vs.length = ps.length)
    (hb : ∀ (cdv : Value) (A : Around) (outer : List Env) (s : Shared) (H : Hp) (vs : List V) (Q : VK) (E : XK), Room k (A.deeper (envOfC ql (defScope st) s.heap.objs.size f cdv)) → sp vs H Q E →
      ∃ t, PSs (cxOf CX P w K mg base N ql (defScope st) f cdv A outer s H E) (defBody st) t ∧ t { nx := fun _ H' => Q .non H', rt := Q } (start N vs) H) :
    FnOk P w K mg base CX (k + 1) f fd ps sp := by
  obtain ⟨o1, o2, o3, o4, o5, o6, o7, o8, o9, e, look, code⟩ := F.ex
  subst e
  exact fn_of look code S hl (fun A outer s H vs Q E room h => hb _ A outer s H vs Q E room h)
section
variable {X : Cx} {e : Expr} {es : List Expr} {ta : TA} {p pos : Pos} {B nw ini : String} {tl : List Value}
/-- an own exception over B, its context None -/
theorem pmk_gexN {CX : CXT} {x : Str} {C fI : Addr} {k : Nat} {fd : FuncData} {ps : List Str} {sp : Sp} {ds : List Value} {dvs : List V} (T : GexC X.K C B nw ini tl) (iC : PySem.W.findIn X.K (.ref C) "__init__" = some (some (.ref fI))) (tI : PySem.W.typeIn X.K (.ref fI) = some (.type "function"))
    (G : FnOk X.prog X.w X.K X.mg X.base CX k fI fd ps sp) (hr : Room (k + 1) X.A) (hb : Binds X.K fd ps ds) (hd : Vals dvs ds) (hx : Passes CX X (fun _ _ _ => False)) (hg : Gl X x) (hm : X.mg x = some (.ref C)) (ha : PA X (e :: es) ta)
    (hdb : (x == ("__debug__" : Str)) = false := by decide) (he : starEach (e :: es) X.env = (false, eval e X.env) :: starEach es X.env := by rfl) (hpl : (backTo pos (starEach es X.env)).any (·.1) = false := by rfl) :
    L2N.PMk X (.Call (.Name x p) (e :: es) [] pos) (tMkO C sp dvs ta) := by
  obtain ⟨nm, q, N, bs, bm, sn, sub, ab, col, dd, k0, k1, k2, k3, k5, hC, hT⟩ := T.cls
  intro pins s σ H Q I h
  refine wpAny_Call_Name_kw (ld_glob I hg hm ?_ hdb)
  refine PySem.W.callWith_K (h₀ := X.base) I.ok.mod.kin T.kp (thn (ha.run pos pins s σ H _ I h) ?_) he hpl
  rintro us ⟨hp, g, dr, tk, os⟩ ⟨vs, H1, I1, r1, hz, q1⟩
  refine ⟨I1.kIn, ?_⟩
  show wpAny _ _ (call (.ref C) us) _ _ _
  have up := Nat.le_succ hp.objs.size
  have hq := q1 (hp.objs.size + 1) (I1.hok.fresh up)
  have kk : ∀ c z, hp.get? c = some z → ((hp.push (PySem.W.kdv_tup us)).push (PySem.HandSPX.excO C hp.objs.size)).get? c = some z := fun c z h => Heap.get?_push_of_some _ (Heap.get?_push_of_some _ h)
  have at1 : ((hp.push (PySem.W.kdv_tup us)).push (PySem.HandSPX.excO C hp.objs.size)).get? (hp.objs.size + 1) = some (PySem.HandSPX.excO C hp.objs.size) := by heap_get
  have I2 : Inv X pins σ (upd H1 (hp.objs.size + 1) (exo (hp.objs.size + 1) C none)) ⟨(hp.push (PySem.W.kdv_tup us)).push (PySem.HandSPX.excO C hp.objs.size), g, dr, tk, os⟩ :=
    I1.laid (t' := tk) kk up (exo_ok at1)
  have r2 : Vals (V.ref (hp.objs.size + 1) :: (vs ++ dvs)) (Value.ref (hp.objs.size + 1) :: (us ++ ds)) := .cons rfl (r1.append hd)
  have hl : (Value.ref (hp.objs.size + 1) :: us ++ ds).length = ps.length := (r2.length.symm.trans (G.len _ _ _ _ hq))
  have hus : us.length ≤ sizeLine := by
    have e1 := Paired.length r1
    have e2 := sizeLine_eq
    omega
  refine wpAny_call (PySem.HandSPX.call_own T.F hT (I1.kIn _ _ hC) (PySem.W.looks_findIn I1.kIn iC) (fun self => PySem.W.bind_fn I1.kIn self tI) hus ?_)
  refine codeAny_mono (G.run _ X.stack _ _ ⟨Value.ref (hp.objs.size + 1) :: us, []⟩ (Value.ref (hp.objs.size + 1) :: (us ++ ds)) _ _ (fun _ _ _ => False) (hr.make C us []) (I2.env0.make C us []) (hb _ (Value.ref (hp.objs.size + 1) :: us) I2.kIn hl) r2 hq) ?_
  rintro (er | fl) s' hq'
  · exact hx pins σ _ _ er s' I2 hq'
  · cases fl with
    | ret u =>
      obtain ⟨v, H2, os2, bare2, un2, hok2, rv, rfl, d, fs, ea, ed, hd1, q2⟩ := hq'
      obtain ⟨h2, g2, d2, t2, os'⟩ := s'
      obtain ⟨t0, G2, J, kG, ge, hoe, na⟩ := mk_end0 (d2 := d2) (t2 := t2) I1 up kk un2 hok2 os2 bare2 ea ed hd1
      exact ⟨rv, ⟨_, _, _, ⟨G2, g2, d2, t2, os'⟩, _, .ref C, some d, rfl, J, kG, ge, hoe, ⟨rfl, rfl, fun vs e => by cases e; rfl⟩, rfl, rfl, na, rfl, bare2, raises_own T.be T.ty, q2⟩⟩
    | next => exact hq'.elim
    | brk => exact hq'.elim
    | cont => exact hq'.elim
end
section
variable {P : Program} {w : World} {K : PySem.W.Frag} {mg : Str → Option Value} {base : Heap} {N C : Addr}
theorem ok_initN {f fP fN : Addr} {fd fdP fdN : FuncData} (F : FunD K "__init__" "Thing.__init__" (defArgs sInit) (defBody sInit) (defScope sInit) [.non, .non] [] f fd) (T : Txt K mg C) (AP : At K mg "pairs_in" sPairs ["first", "second"] fP fdP) (M : TgM P w K mg base N fN fdN) :
    FnOk P w K mg base (L2N.CX P w) 3 f fd ["self", "first", "second"] (spInitX C N) := by
  have GP : FnOk P w K mg base CX0 1 fP fdP ["first", "second"] (spPairs C) := ok_pairs AP.F T
  obtain ⟨tm, mgM⟩ := T.mgM
  refine F.ok scI (fun vs H Q E h => ?_) (fun cdv A outer s H vs Q E hr h => ?_)
  · obtain ⟨p, dx, x, y, n, rfl, _⟩ := h
    rfl
  · obtain ⟨p, dx, x, y, n, rfl, hp, hxy, hn, k, ke⟩ := h
    have hr1 : Room 1 _ := hr.mono (by decide)
    refine ⟨_, pss_cons (ps_set (i := 3) scI.nd rfl (Or.inl rfl) (pe_call GP hr1 rfl AP.mgf AP.F.kp AP.b .nil pass0 (pa_cons (pv 1) (pa_cons (pv 2) pa_nil))))
      (pss_cons (ps_if (pt_cmpR op_gt (pv 3) (pe_glob (v := .int 4000) rfl mgM ⟨_, rfl⟩) (nomark _)) (pss_one (L2N.ps_raise rfl (L2N.takes_of rfl rfl rfl rfl) (pmk_gexN M.T.O M.iN M.tN M.ok hr M.bN .nil pass0 rfl M.T.mgN (pa_cons (pe_glob (v := .int ((4000 : Nat) : Int)) rfl mgM ⟨_, rfl⟩) pa_nil)))) pss_nil)
      (pss_cons (ps_fld (pv 0) (pv 1) rfl) (pss_cons (ps_fld (pv 0) (pv 2) rfl) (pss_one (ps_fld (pv 0) (pv 3) rfl))))), ?_⟩
    refine ⟨_, rfl, _, rfl, x, y, n, rfl, hxy, ?_⟩
    refine ⟨_, rfl, _, _, rfl, rfl, _, rfl, ?_⟩
    by_cases h4 : n ≤ 4000
    · have ed : decide ((4000 : Int) < (n : Nat)) = false := decide_eq_false (by omega)
      rw [ed]
      refine iteF ?_
      refine ⟨_, rfl, _, rfl, p, C, dx, [], rfl, hp, T.cl, T.nF, (by show 0 < 1000; decide), ?_⟩
      refine ⟨_, rfl, _, rfl, p, C, dx, _, rfl, upd_same, T.cl, T.nS, Nat.lt_of_le_of_lt (length_putF _ _ _) (by show 0 + 1 < 1000; decide), ?_⟩
      refine ⟨_, rfl, _, rfl, p, C, dx, _, rfl, upd_same, T.cl, T.nZ, ?_, ?_⟩
      · have h1 := length_putF "first" x []
        have h2 := length_putF "second" y (putF "first" x [])
        simp only [List.length_nil] at h1
        omega
      · show Q .non (upd (upd (upd H p _) p _) p (.ins C dx (tf x y (n : Nat))))
        rw [upd_upd, upd_upd]
        exact k h4
    · have ed : decide ((4000 : Int) < (n : Nat)) = true := decide_eq_true (by omega)
      rw [ed]
      refine iteT ?_
      exact ⟨by simp, raise_tg M.T.O M.T.bd (by decide) fun d H' sH hd => ke (by omega) d H' sH hd⟩
end
/-- a Thing of any size made, or refused; the refusal's context is None -/
structure MakerN (P : Program) (w : World) (K : PySem.W.Frag) (mg : Str → Option Value) (base : Heap) (C fI N : Addr) (fdI : FuncData) : Prop where
  M : Mk K C fI
  G : FnOk P w K mg base (L2N.CX P w) 3 fI fdI ["self", "first", "second"] (spInitX C N)
  mgC : mg "Thing" = some (.ref C)
  b2 : Binds K fdI ["self", "first", "second"] []
section
variable {X : Cx} {C N fI : Addr} {fdI : FuncData} {p pos : Pos} {e : Expr} {es : List Expr} {t : TA} {E : L2.St → XK}
theorem pe_T2N (mk : MakerN X.prog X.w X.K X.mg X.base C fI N fdI) (hr : Room 4 X.A) (hg : Gl X "Thing") (out : ∀ σ, PassesAt (L2N.CX X.prog X.w) X σ (E σ)) (ha : PA X (e :: es) t)
    (he : starEach (e :: es) X.env = (false, eval e X.env) :: starEach es X.env := by rfl) (hpl : (backTo pos (starEach es X.env)).any (·.1) = false := by rfl) : PE X (.Call (.Name "Thing" p) (e :: es) [] pos) (tTX C N E t) := by
  refine ⟨fun pins s σ H Q I h => ?_⟩
  refine wpAny_Call_Name_kw (ld_glob I hg mk.mgC ?_ (by decide))
  refine PySem.W.callWith_K (h₀ := X.base) I.ok.mod.kin mk.M.kp (thn (ha.run pos pins s σ H _ I h) fun us s1 ⟨vs, H1, I1, r, q⟩ => ⟨I1.kIn, ?_⟩) he hpl
  obtain ⟨a, b, t, u, rfl, h1, h2, hz, k, ke⟩ := q
  exact make_at mk.M mk.G hr mk.b2 .nil (out σ) I1 r (mk_prX h1 h2 hz k ke)
end
/-! ### made while a refusal is handled -/
open L2H in
section
variable {X : Cx} {C f : Addr} {k : Nat} {fd : FuncData} {ps : List Str} {sp : Sp} {ds : List Value} {dvs : List V} {p pos : Pos} {x : Str} {e : Expr} {es : List Expr} {t : TA}
theorem hot_suite {a : Addr} {oe : Obj} {cls : Value} {d : Option Addr} {pn : List (Addr × Obj)} (hz : L2N.Zn cls d oe) (hf : ∃ vs, oe.data = .fields vs) : HotC (X.suite a ((a, oe) :: pn)) := by
  obtain ⟨vs, hv⟩ := hf
  exact ⟨(a, oe), ⟨rfl, vs, hv, hz.2.2 vs hv⟩, List.mem_cons_self⟩
theorem make_hot {us : List Value} {vs : List V} {pins : List (Addr × Obj)} {σ : L2.St} {H : Hp} {s : Shared} {Q : VK} (M : Mk X.K C f) (G : FnH X.prog X.w X.K X.mg X.base CX0 k f fd ps sp) (hr : RoomH (k + 1) X.A) (hc : HotC X) (hb : Binds X.K fd ps ds) (hd : Vals dvs ds) (I : Inv X pins σ H s) (r : Vals vs us)
    (h : ∀ x dx, H x = none → H dx = none → dx ≠ x → sp (.ref x :: (vs ++ dvs)) (upd (upd H dx (.own x)) x (.ins C dx [])) (fun v H2 => v = .non ∧ Q (.ref x) H2) E0) : wpAny (model X.prog X.w) X.A (call (.ref C) us) (EP X pins σ Q) X.xe s := by
  obtain ⟨pp, hot, hin⟩ := hc
  have I2 := Inv.made (C := C) I
  have hq := h _ _ (I.hok.fresh (Nat.le_succ _)) (I.hok.fresh (Nat.le_refl _)) (Nat.ne_of_lt (Nat.lt_succ_self s.heap.objs.size))
  have r2 : Vals (V.ref (s.heap.objs.size + 1) :: (vs ++ dvs)) (Value.ref (s.heap.objs.size + 1) :: (us ++ ds)) := .cons rfl (r.append hd)
  have hl : (Value.ref (s.heap.objs.size + 1) :: us ++ ds).length = ps.length := r2.length.symm.trans (G.len _ _ _ _ hq)
  obtain ⟨g1, g2, g3, g4, g5⟩ := I2.pin pp (List.mem_append_left _ hin)
  have pinned : PinOk X.stack _ _ pp := ⟨g1, g2, fun hm => Or.elim (List.mem_cons.mp (I2.stkSub pp.1 hm)) g3 g4, g5⟩
  have ran := G.run (X.A.under (.builtin "type.__call__" ⟨.ref C :: us, []⟩)) X.stack _ _ ⟨Value.ref (s.heap.objs.size + 1) :: us, []⟩ (Value.ref (s.heap.objs.size + 1) :: (us ++ ds)) _ _ E0 pp (hr.make C us []) hot pinned (I2.env0.make C us []) (hb _ (Value.ref (s.heap.objs.size + 1) :: us) I2.kIn hl) r2 hq
  refine wpAny_call (make_map (f := f) I.kIn M.makes M.init (beq_iff_eq.mp M.fn) (codeAny_mono ran ?_))
  rintro (er | fl) s' z
  · exact pass0 _ _ _ _ er s' I2 z
  · cases fl with
    | ret u =>
      obtain ⟨v, H3, I3, rv, rfl, q3⟩ := I2.after z
      exact ⟨rv, ⟨V.ref (s.heap.objs.size + 1), H3, I3, rfl, q3⟩⟩
    | next => exact z.elim
    | brk => exact z.elim
    | cont => exact z.elim
/-- C(x, ..) in the suite of an except -/
theorem pe_makeH (M : Mk X.K C f) (G : FnH X.prog X.w X.K X.mg X.base CX0 k f fd ps sp) (hr : RoomH (k + 1) X.A) (hc : HotC X) (hg : Gl X x) (hm : X.mg x = some (.ref C)) (hb : Binds X.K fd ps ds) (hd : Vals dvs ds) (ha : PA X (e :: es) t)
    (hdb : (x == ("__debug__" : Str)) = false := by decide) (he : starEach (e :: es) X.env = (false, eval e X.env) :: starEach es X.env := by rfl) (hpl : (backTo pos (starEach es X.env)).any (·.1) = false := by rfl) : PE X (.Call (.Name x p) (e :: es) [] pos) (tMake C sp dvs E0 t) := by
  refine ⟨fun pins s σ H Q I h => ?_⟩
  refine wpAny_Call_Name_kw (ld_glob I hg hm ?_ hdb)
  refine PySem.W.callWith_K (h₀ := X.base) I.ok.mod.kin M.kp (thn (ha.run pos pins s σ H _ I h) fun us s1 ⟨vs, H1, I1, r, q⟩ => ⟨I1.kIn, ?_⟩) he hpl
  exact make_hot M G hr hc hb hd I1 r q
end
end Js

set_option Elab.async false
set_option linter.all false
set_option maxRecDepth 100000
set_option maxHeartbeats 2000000
namespace Js
open PySem L2
abbrev sYes : Stmt := top 10
abbrev sMade : Stmt := top 33
abbrev sDo : Stmt := top 32
def bndX : List (Str × V) := [("bound", .int ((4000 : Nat) : Int))]
def spYes (C : Addr) : Sp := fun vs H Q _ => vs = [] ∧ ∀ a H', Same H H' → Th C H' a yesT → Q (.ref a) H'
def spMade (K : PySem.W.Frag) (C N : Addr) : Sp := fun vs H Q E => ∃ (v : V) (d : Dd) (l : Addr) (us : List V) (ns : List Tr), vs = [v, .ref l] ∧ DAt K C H v d ∧ d.look = false ∧ H l = some (.lst us) ∧ Paired (ThV C H) us ns ∧ NsOk ns ∧
  (d.grt ns = false → ∀ a H', Same H H' → Th C H' a (d.made ns) → Q (.ref a) H') ∧ (d.grt ns = true → ∀ dd H', Same H H' → H' dd = some (.xd bndX) → E (.ref N) (some dd) H')
def spDo (K : PySem.W.Frag) (C CP N : Addr) : Sp := fun vs H Q E => ∃ (a l : Addr) (r : List Dd) (us : List V) (ns : List Tr) (pt : Nat) (x : Pt), vs = [.ref a, .int (pt : Nat), .ref l] ∧ PgAt K C CP H a r ∧ H l = some (.lst us) ∧ Paired (ThV C H) us ns ∧ NsOk ns ∧ (planR r)[pt]? = some x ∧
  (x.1.grt ns = false → NsOk (stepN x ns) → ∀ us' H', KB l H H' → H' l = some (.lst us') → Paired (ThV C H') us' (stepN x ns) → Q (.int ((stepP x ns : Nat) : Int)) H') ∧ (x.1.grt ns = true → ∀ dd H', Same H H' → H' dd = some (.xd bndX) → E (.ref N) (some dd) H')
theorem nms_get {C : Addr} {H : Hp} {us : List V} {ns : List Tr} (h : Paired (ThV C H) us ns) (ok : NsOk ns) {a : Nat} (ha : a < 10) : ∃ b, us[a]? = some (.ref b) ∧ Th C H b (nmA ns a) := by
  have hl := Paired.length h
  have h1 : a < us.length := by rw [hl, ok.1]; exact ha
  obtain ⟨t, e, b, eb, hb⟩ := paired_get h (List.getElem?_eq_getElem h1)
  have e2 := nmA_at ok ha
  rw [e] at e2
  cases Option.some.inj e2
  exact ⟨b, by rw [List.getElem?_eq_getElem h1, eb], hb⟩
theorem paired_set {α β : Type} {R : α → β → Prop} : ∀ {xs : List α} {ys : List β} (i : Nat) {x : α} {y : β}, Paired R xs ys → R x y → Paired R (xs.set i x) (ys.set i y)
  | _, _, _, _, _, .nil, _ => .nil
  | _, _, 0, _, _, .cons _ t, h => .cons h t
  | _, _, i + 1, _, _, .cons h0 t, h => .cons h0 (paired_set i t h)
theorem k_ft : ¬ (("first" : Str) = "told") := by decide +kernel
theorem k_st : ¬ (("second" : Str) = "told") := by decide +kernel
theorem k_pt : ¬ (("pair" : Str) = "told") := by decide +kernel
theorem k_mt : ¬ (("same" : Str) = "told") := by decide +kernel
theorem k_sf : ¬ (("second" : Str) = "first") := by decide +kernel
theorem k_pf : ¬ (("pair" : Str) = "first") := by decide +kernel
theorem k_mf : ¬ (("same" : Str) = "first") := by decide +kernel
theorem k_ps : ¬ (("pair" : Str) = "second") := by decide +kernel
theorem k_ms : ¬ (("same" : Str) = "second") := by decide +kernel
theorem k_mp : ¬ (("same" : Str) = "pair") := by decide +kernel
theorem dS (x y : Str) (h : ¬ x = y) : decide (V.str x = V.str y) = false := decide_eq_false fun z => h (V.str.inj z)
theorem dS1 (x : Str) : decide (V.str x = V.str x) = true := decide_eq_true rfl
theorem atI1 (x y : V) (xs : List V) : atI (x :: y :: xs) 1 = some y := by
  have h : atI (x :: y :: xs) ((1 : Nat) : Int) = some y := atI_nat rfl
  exact h
theorem at2 (x y z : V) (xs : List V) : atI (x :: y :: z :: xs) 2 = some z := by
  have h : atI (x :: y :: z :: xs) ((2 : Nat) : Int) = some z := atI_nat rfl
  exact h
theorem at3 (x y z u : V) (xs : List V) : atI (x :: y :: z :: u :: xs) 3 = some u := by
  have h : atI (x :: y :: z :: u :: xs) ((3 : Nat) : Int) = some u := atI_nat rfl
  exact h
section
variable {P : Program} {w : World} {K : PySem.W.Frag} {mg : Str → Option Value} {base : Heap} {C CP N fI : Addr} {fdI : FuncData}
theorem scYe : FnScope [] [] (defScope sYes) := ⟨rfl, rfl, rfl, by decide +kernel, rfl, by decide +kernel, by decide +kernel⟩
theorem ok_yes {f : Addr} {fd : FuncData} (F : Fun K "yes" "yes" sYes f fd) (mk : Maker P w K mg base C fI fdI) : FnOk P w K mg base CX0 4 f fd [] (spYes C) := by
  refine F.ok scYe (fun vs H Q E h => ?_) (fun cdv A outer s H vs Q E hr h => ?_)
  · obtain ⟨rfl, _⟩ := h
    rfl
  · obtain ⟨rfl, k⟩ := h
    have hr3 : Room 3 _ := hr
    refine ⟨_, pss_one (ps_ret (pe_T2 mk hr3 rfl (pa_cons (pe_T0 mk hr3 rfl) (pa_cons (pe_T0 mk hr3 rfl) pa_nil)))), ?_⟩
    refine fun z1 H1 s1 _ h1 => fun z2 H2 s2 _ h2 => ?_
    refine ⟨z1, z2, .nil, .nil, rfl, h1.same s2, h2, by decide, fun z H' s' _ h' => ?_⟩
    exact k z H' ((s1.trans s2).trans s') h'
theorem scMd : FnScope ["deed", "names", "kind", "one", "other"] ["deed", "names"] (defScope sMade) := ⟨rfl, rfl, rfl, by decide +kernel, rfl, by decide +kernel, by decide +kernel⟩
theorem ok_made {f fY : Addr} {fd fdY : FuncData} (F : Fun K "thing_made" "thing_made" sMade f fd) (T : Txt K mg C) (mk : Maker P w K mg base C fI fdI) (mx : MakerN P w K mg base C fI N fdI) (SE : Spc P w K mg base C "__eq__" 2 ["self", "other"] (spEqT C))
    (MH : Mth P w K mg base C "head" 1 ["self"] (spHead C)) (MT : Mth P w K mg base C "tail" 1 ["self"] (spTail C)) (GY : FnOk P w K mg base CX0 4 fY fdY [] (spYes C)) (mgY : mg "yes" = some (.ref fY)) (kY : PySem.W.keepIn K (.ref fY) = true) (bY : Binds K fdY [] []) :
    FnOk P w K mg base (L2N.CX P w) 5 f fd ["deed", "names"] (spMade K C N) := by
  refine okC F scMd (fun vs H Q E h => ?_) (fun cdv A outer s H vs Q E hr h => ?_)
  · obtain ⟨v, d, l, us, ns, rfl, _⟩ := h
    rfl
  · obtain ⟨v, d, l, us, ns, rfl, hd, hlk, hl, hps, hok, k, ke⟩ := h
    have hr1 : Room 1 _ := hr.mono (by decide)
    have hr2 : Room 2 _ := hr.mono (by decide)
    have hr3 : Room 3 _ := hr.mono (by decide)
    have hr4 : Room 4 _ := hr
    refine ⟨_, pss_cons (ps_set (i := 2) scMd.nd rfl (Or.inl rfl) (pe_ix (r := rIxT K) ix_tup (pv 0) pe_int (fun _ _ => rfl))) (pss_cons (ps_if (pt_cmpR op_eq (pv 2) pe_str (nomark _)) (pss_one (ps_ret (pe_ix (r := rIxT K) ix_tup (pv 0) pe_int (fun _ _ => rfl)))) pss_nil) (pss_cons (ps_set (i := 3) scMd.nd rfl (Or.inl rfl) (pe_ix (r := rIxL K) ix_list (pv 1) (pe_ix (r := rIxT K) ix_tup (pv 0) pe_int (fun _ _ => rfl)) (fun _ _ => rfl))) (pss_cons (ps_if (pt_cmpR op_eq (pv 2) pe_str (nomark _)) (pss_one (ps_ret (pe_mth MH T hr1 (pv 3)))) pss_nil) (pss_cons (ps_if (pt_cmpR op_eq (pv 2) pe_str (nomark _)) (pss_one (ps_ret (pe_mth MT T hr1 (pv 3)))) pss_nil) (pss_cons (ps_set (i := 4) scMd.nd rfl (Or.inl rfl) (pe_ix (r := rIxL K) ix_list (pv 1) (pe_ix (r := rIxT K) ix_tup (pv 0) pe_int (fun _ _ => rfl)) (fun _ _ => rfl))) (pss_cons (ps_if (pt_cmpR op_eq (pv 2) pe_str (nomark _)) (pss_one (ps_ret (pe_T2N mx hr4 rfl (fun σ => L2N.passAt (L2N.takes_of rfl rfl rfl rfl) σ) (pa_cons (pv 3) (pa_cons (pv 4) pa_nil))))) pss_nil) (pss_one (ps_ret (pe_ifExp (pt_cmpR (op_eqT SE hr2) (pv 3) (pv 4) (nomark _)) (pe_call0 GY hr4 rfl mgY kY bY .nil pass0) (pe_T0 mk hr3 rfl)))))))))), ?_⟩
    cases d with
    | wh a r => cases hlk
    | iff a r o => cases hlk
    | told a t =>
      obtain ⟨p, x, rfl, hp, ha, hx, hz⟩ := hd
      refine ⟨_, rfl, p, _, 0, _, rfl, rfl, hp, at0 _ _, ?_⟩
      refine ⟨_, rfl, rfl, _, rfl, ?_⟩
      rw [dS1]
      refine iteT ?_
      exact ⟨_, rfl, p, _, 2, _, rfl, rfl, hp, at2 _ _ _ _, k rfl x H (Same.refl H) hx⟩
    | take s0 a b =>
      obtain ⟨p, rfl, hp, ha, hb⟩ := hd
      obtain ⟨c, hc, hcT⟩ := nms_get hps hok hb
      obtain ⟨dx, f1, g1, h1⟩ := hcT.obj
      refine ⟨_, rfl, p, _, 0, _, rfl, rfl, hp, at0 _ _, ?_⟩
      refine ⟨_, rfl, rfl, _, rfl, ?_⟩
      cases s0 with
      | false =>
        rw [show decide (V.str (takeS false) = V.str "told") = false from dS _ _ k_ft]
        refine iteF ?_
        refine ⟨_, rfl, _, rfl, p, _, 2, _, rfl, rfl, hp, at2 _ _ _ _, l, _, _, _, rfl, rfl, SqL.of hl, atI_nat hc, ?_⟩
        refine ⟨_, rfl, rfl, _, rfl, ?_⟩
        rw [show decide (V.str (takeS false) = V.str "first") = true from dS1 _]
        refine iteT ?_
        exact ⟨_, rfl, c, dx, _, rfl, h1, tf_head _ _ _, c, _, rfl, hcT, fun x hx => k rfl x H (Same.refl H) hx⟩
      | true =>
        rw [show decide (V.str (takeS true) = V.str "told") = false from dS _ _ k_st]
        refine iteF ?_
        refine ⟨_, rfl, _, rfl, p, _, 2, _, rfl, rfl, hp, at2 _ _ _ _, l, _, _, _, rfl, rfl, SqL.of hl, atI_nat hc, ?_⟩
        refine ⟨_, rfl, rfl, _, rfl, ?_⟩
        rw [show decide (V.str (takeS true) = V.str "first") = false from dS _ _ k_sf]
        refine iteF ?_
        refine ⟨_, rfl, rfl, _, rfl, ?_⟩
        rw [show decide (V.str (takeS true) = V.str "second") = true from dS1 _]
        refine iteT ?_
        exact ⟨_, rfl, c, dx, _, rfl, h1, tf_tail _ _ _, c, _, rfl, hcT, fun x hx => k rfl x H (Same.refl H) hx⟩
    | two s0 a b e =>
      obtain ⟨p, rfl, hp, ha, hb, he⟩ := hd
      obtain ⟨c, hc, hcT⟩ := nms_get hps hok hb
      obtain ⟨c2, hc2, hcT2⟩ := nms_get hps hok he
      have z1 := nmA_le hok b
      have z2 := nmA_le hok e
      refine ⟨_, rfl, p, _, 0, _, rfl, rfl, hp, at0 _ _, ?_⟩
      refine ⟨_, rfl, rfl, _, rfl, ?_⟩
      cases s0 with
      | false =>
        rw [show decide (V.str (twoS false) = V.str "told") = false from dS _ _ k_pt]
        refine iteF ?_
        refine ⟨_, rfl, _, rfl, p, _, 2, _, rfl, rfl, hp, at2 _ _ _ _, l, _, _, _, rfl, rfl, SqL.of hl, atI_nat hc, ?_⟩
        refine ⟨_, rfl, rfl, _, rfl, ?_⟩
        rw [show decide (V.str (twoS false) = V.str "first") = false from dS _ _ k_pf]
        refine iteF ?_
        refine ⟨_, rfl, rfl, _, rfl, ?_⟩
        rw [show decide (V.str (twoS false) = V.str "second") = false from dS _ _ k_ps]
        refine iteF ?_
        refine ⟨_, rfl, _, rfl, p, _, 3, _, rfl, rfl, hp, at3 _ _ _ _ _, l, _, _, _, rfl, rfl, SqL.of hl, atI_nat hc2, ?_⟩
        refine ⟨_, rfl, rfl, _, rfl, ?_⟩
        rw [show decide (V.str (twoS false) = V.str "pair") = true from dS1 _]
        refine iteT ?_
        refine ⟨_, rfl, _, rfl, c, c2, _, _, rfl, hcT, hcT2, by omega, fun h4 z H' s' _ hz => ?_, fun h4 dd H' s' hdd => ?_⟩
        · exact k (decide_eq_false (by omega)) z H' s' hz
        · exact ke (decide_eq_true h4) dd H' s' hdd
      | true =>
        rw [show decide (V.str (twoS true) = V.str "told") = false from dS _ _ k_mt]
        refine iteF ?_
        refine ⟨_, rfl, _, rfl, p, _, 2, _, rfl, rfl, hp, at2 _ _ _ _, l, _, _, _, rfl, rfl, SqL.of hl, atI_nat hc, ?_⟩
        refine ⟨_, rfl, rfl, _, rfl, ?_⟩
        rw [show decide (V.str (twoS true) = V.str "first") = false from dS _ _ k_mf]
        refine iteF ?_
        refine ⟨_, rfl, rfl, _, rfl, ?_⟩
        rw [show decide (V.str (twoS true) = V.str "second") = false from dS _ _ k_ms]
        refine iteF ?_
        refine ⟨_, rfl, _, rfl, p, _, 3, _, rfl, rfl, hp, at3 _ _ _ _ _, l, _, _, _, rfl, rfl, SqL.of hl, atI_nat hc2, ?_⟩
        refine ⟨_, rfl, rfl, _, rfl, ?_⟩
        rw [show decide (V.str (twoS true) = V.str "pair") = false from dS _ _ k_mp]
        refine iteF ?_
        refine ⟨_, rfl, _, rfl, c, c2, _, _, rfl, rfl, hcT, hcT2, z1, fun H1 s1 => ?_⟩
        refine ⟨_, rfl, ?_⟩
        by_cases hbe : nmA ns b = nmA ns e
        · rw [decide_eq_true hbe]
          refine iteT ?_
          refine ⟨rfl, fun x H2 s2 hx => k rfl x H2 (s1.trans s2) ?_⟩
          show Th C H2 x (if nmA ns b = nmA ns e then yesT else .nil)
          rw [if_pos hbe]
          exact hx
        · rw [decide_eq_false hbe]
          refine iteF ?_
          intro x H2 s2 _ hx
          refine k rfl x H2 (s1.trans s2) ?_
          show Th C H2 x (if nmA ns b = nmA ns e then yesT else .nil)
          rw [if_neg hbe]
          exact hx
theorem scDo : FnScope ["program", "point", "names", "deed", "ways"] ["program", "point", "names"] (defScope sDo) := ⟨rfl, rfl, rfl, by decide +kernel, rfl, by decide +kernel, by decide +kernel⟩
theorem ok_do {f fM : Addr} {fd fdM : FuncData} (F : Fun K "do_deed" "do_deed" sDo f fd) (B : Blt mg) (T : Txt K mg C) (TP : TxtP K mg CP) (GM : FnOk P w K mg base (L2N.CX P w) 5 fM fdM ["deed", "names"] (spMade K C N)) (mgM : mg "thing_made" = some (.ref fM)) (kM : PySem.W.keepIn K (.ref fM) = true) (bM : Binds K fdM ["deed", "names"] []) :
    FnOk P w K mg base (L2N.CX P w) 6 f fd ["program", "point", "names"] (spDo K C CP N) := by
  refine okC F scDo (fun vs H Q E h => ?_) (fun cdv A outer s H vs Q E hr h => ?_)
  · obtain ⟨a, l, r, us, ns, pt, x, rfl, _⟩ := h
    rfl
  · obtain ⟨a, l, r, us, ns, pt, x, rfl, ha, hl, hps, hok, hx, k, ke⟩ := h
    refine ⟨_, pss_cons (ps_asg (pe_ix (r := rIxT K) ix_tup (pe_fld (pv 0) rfl) (pv 1) (fun _ _ => rfl)) (pg_tup rfl (pgs_cons (pg_name (i := 3) scDo.nd rfl (Or.inl rfl)) (pgs_cons (pg_name (i := 4) scDo.nd rfl (Or.inl rfl)) pgs_nil)))) (pss_cons (ps_if (pt_cmpR op_eq (pe_callB call_len_seq (by rfl) B.len PySem.boot_len (pa_cons (pv 4) pa_nil)) pe_int (nomark _)) (pss_one (ps_ret (pe_ifExp (pt_truth (pe_fld (pe_ix (r := rIxL K) ix_list (pv 2) (pe_ix (r := rIxT K) ix_tup (pv 3) pe_int (fun _ _ => rfl)) (fun _ _ => rfl)) rfl) (by intro _; rfl)) (pe_ix (r := rIxT K) ix_tup (pv 4) pe_int (fun _ _ => rfl)) (pe_ix (r := rIxT K) ix_tup (pv 4) pe_int (fun _ _ => rfl))))) pss_nil) (pss_cons (ps_asg (pe_callS GM hr rfl mgM kM bM (fun σ => L2N.passAt (L2N.takes_of rfl rfl rfl rfl) σ) (pa_cons (pv 3) (pa_cons (pv 2) pa_nil))) (pg_sub (pv 2) (pe_ix (r := rIxT K) ix_tup (pv 3) pe_int (fun _ _ => rfl)) set_list)) (pss_one (ps_ret (pe_ix (r := rIxT K) ix_tup (pv 4) pe_int (fun _ _ => rfl)))))), ?_⟩
    obtain ⟨dx, q, pl, ys, h1, h2, h3, h4⟩ := ha.ex
    have hlen := Paired.length h4
    have hpt : pt < ys.length := by
      rw [hlen]
      exact (List.getElem?_eq_some_iff.mp hx).1
    obtain ⟨x', hx', t, wv, dv, hyt, ht, hw, hdv⟩ := paired_get h4 (List.getElem?_eq_getElem hpt)
    have hxx : x' = x := Option.some.inj (hx'.symm.trans hx)
    subst hxx
    obtain ⟨hwl, hwm⟩ := plan_ways hx
    obtain ⟨dp, its, rfl, hdp, hn1, _, _⟩ := DAt_split x'.1 hdv
    obtain ⟨c, hc, hcT⟩ := nms_get hps hok hn1
    obtain ⟨dc, f1, g1, hc1⟩ := hcT.obj
    refine ⟨_, rfl, _, _, _, _, _, rfl, h1, TP.cl, TP.nP, pf_plan _ _, _, rfl, pl, _, _, _, rfl, rfl, SqT.of h3, atI_nat (by rw [List.getElem?_eq_getElem hpt, hyt]), ?_⟩
    refine ⟨t, _, rfl, SqT.of ht, rfl, _, _, rfl, _, _, rfl, rfl, ?_⟩
    refine ⟨_, rfl, wv, _, rfl, .inr (SqT.of hw), rfl, _, rfl, ?_⟩
    rw [numsV_len, hwl]
    have wat : ∀ i, i < x'.2.length → atI (numsV x'.2) ((i : Nat) : Int) = some (.int ((x'.2.getD i 0 : Nat) : Int)) := by
      intro i hi
      refine atI_nat ?_
      rw [numsV, List.getElem?_map, List.getElem?_eq_getElem hi, List.getD_eq_getElem?_getD, List.getElem?_eq_getElem hi]
      rfl
    cases hlk : x'.1.look with
    | true =>
      rw [hlk] at hwl
      have hwl2 : x'.2.length = 2 := hwl
      have hg : x'.1.grt ns = false := look_grt x'.1 ns hlk
      have hsN : stepN x' ns = ns := by unfold stepN; rw [hlk]; rfl
      refine iteT ?_
      refine ⟨_, rfl, _, rfl, dp, _, 1, _, rfl, rfl, hdp, atI1 _ _ _, l, _, _, _, rfl, rfl, SqL.of hl, atI_nat hc, _, _, _, _, _, rfl, hc1, T.cl, T.nZ, tf_size _ _ _, _, rfl, ?_⟩
      have fin : ∀ i, i < x'.2.length → stepP x' ns = x'.2.getD i 0 → Q (.int ((x'.2.getD i 0 : Nat) : Int)) H := by
        intro i hi e
        have := k hg (by rw [hsN]; exact hok) us H (KB.refl l H) hl (by rw [hsN]; exact hps)
        rw [e] at this
        exact this
      by_cases hz : 0 < (nmA ns x'.1.nm1).size
      · have e1 : (((((nmA ns x'.1.nm1).size : Nat) : Int)) != 0) = true := bne_iff_ne.mpr (by omega)
        rw [e1]
        refine iteT ?_
        refine ⟨_, rfl, wv, _, _, _, rfl, rfl, SqT.of hw, wat 0 (by omega), fin 0 (by omega) ?_⟩
        unfold stepP
        rw [hlk, if_pos rfl, if_pos hz]
      · have e1 : (((((nmA ns x'.1.nm1).size : Nat) : Int)) != 0) = false := by
          have : (nmA ns x'.1.nm1).size = 0 := by omega
          rw [this]
          rfl
        rw [e1]
        refine iteF ?_
        refine ⟨_, rfl, wv, _, _, _, rfl, rfl, SqT.of hw, wat 1 (by omega), fin 1 (by omega) ?_⟩
        unfold stepP
        rw [hlk, if_pos rfl, if_neg hz]
    | false =>
      rw [hlk] at hwl
      have hwl2 : x'.2.length = 1 := hwl
      have hsN : stepN x' ns = ns.set x'.1.nm1 (x'.1.made ns) := by unfold stepN; rw [hlk]; rfl
      have hsP : stepP x' ns = x'.2.getD 0 0 := by unfold stepP; rw [hlk]; rfl
      have ht4 : ∀ b t, x'.1 = .told b t → t.size ≤ 4000 := by
        intro b t0 e
        rw [e] at hdv
        obtain ⟨_, _, _, _, _, _, z⟩ := hdv
        exact z
      refine iteF ?_
      refine ⟨_, rfl, _, rfl, _, x'.1, l, us, ns, rfl, hdv, hlk, hl, hps, hok, fun hg b H1 s1 hb => ?_, fun hg dd H1 s1 hdd => ke hg dd H1 s1 hdd⟩
      have hl1 := s1 _ _ hl
      refine ⟨_, rfl, _, rfl, dp, _, 1, _, rfl, rfl, sqt_kt (KT.of s1) hdp, atI1 _ _ _, l, us, _, x'.1.nm1, rfl, rfl, hl1, ?_, ?_⟩
      · exact ixN_at _ _ (by rw [Paired.length hps, hok.1]; exact hn1)
      have kt := KT.lst hl1 (o := .lst (us.set x'.1.nm1 (.ref b)))
      have hwl3 : l ≠ wv := fun z => by rw [← z, hl] at hw; cases hw
      refine ⟨_, rfl, wv, _, _, _, rfl, rfl, SqT.of (by rw [upd_ne (Ne.symm hwl3)]; exact s1 _ _ hw), wat 0 (by omega), ?_⟩
      rw [← hsP]
      refine k hg (stepN_ok hok ht4 hg) (us.set x'.1.nm1 (.ref b)) _ ((KB.of s1).trans KB.set) upd_same ?_
      rw [hsN]
      exact paired_set _ (ths_kt ((KT.of s1).trans kt) hps) ⟨b, rfl, hb.kt kt⟩
end
end Js

set_option Elab.async false
set_option linter.all false
set_option maxRecDepth 100000
set_option maxHeartbeats 2000000
namespace Js
open PySem L2
section
open PyProof.Rows
variable {X : Cx} {C f : Addr} {k n : Nat} {fd : FuncData} {ps : List Str} {fs : List V → List (Str × V)} {ds : List Value} {dvs : List V} {p pos : Pos} {x : Str} {e : Expr} {es : List Expr} {t : TA}
theorem pe_objH (M : Mk X.K C f) (G : L2H.FnH X.prog X.w X.K X.mg X.base CX0 k f fd ps (spObj C fs n)) (hr : L2H.RoomH (k + 1) X.A) (hc : L2H.HotC X) (hg : Gl X x) (hm : X.mg x = some (.ref C)) (hb : Binds X.K fd ps ds) (hd : Vals dvs ds) (ha : PA X (e :: es) t)
    (hdb : (x == ("__debug__" : Str)) = false := by decide) (he : starEach (e :: es) X.env = (false, eval e X.env) :: starEach es X.env := by rfl) (hpl : (backTo pos (starEach es X.env)).any (·.1) = false := by rfl) : PE X (.Call (.Name x p) (e :: es) [] pos) (tObj C fs n dvs t) := by
  refine ⟨fun pins s σ H Q I h => ?_⟩
  refine wpAny_Call_Name_kw (ld_glob I hg hm ?_ hdb)
  refine PySem.W.callWith_K (h₀ := X.base) I.ok.mod.kin M.kp (thn (ha.run pos pins s σ H _ I h) fun us s1 ⟨vs, H1, I1, r, q⟩ => ⟨I1.kIn, ?_⟩) he hpl
  exact make_hot M G hr hc hb hd I1 r (mk_obj q.1 q.2)
end
/-! ### runs -/
theorem takesN {X : Cx} : L2N.Takes X (fun _ _ _ _ => False) := fun u s' x => by
  obtain ⟨_, _, _, _, _, _, _, _, _, _, _, _, _, _, _, _, h⟩ := x
  exact h.elim
section
variable {X : Cx} {C : Addr}
theorem mon_tg : MonT (DTh C) := fun x y r H H' s d => by
  obtain ⟨a, b, t, u, e1, e2, ha, hb, hz, e3⟩ := d
  exact ⟨a, b, t, u, e1, e2, ha.same s, hb.same s, hz, e3⟩
theorem eqT_tg (S : Spc X.prog X.w X.K X.mg X.base C "__eq__" 2 ["self", "other"] (spEqT C)) : EqT X 2 (DTh C) := by
  obtain ⟨f, fd, ow, F, hb⟩ := S
  refine eqT_own ow F hb (pass0) fun x y r H d => ?_
  obtain ⟨a, b, t, u, rfl, rfl, ha, hb', hz, rfl⟩ := d
  obtain ⟨dx, f1, g1, h1⟩ := ha.obj
  obtain ⟨dy, f2, g2, h2⟩ := hb'.obj
  refine ⟨a, b, dx, dy, _, _, rfl, rfl, h1, h2, fun e => ?_, a, b, t, u, rfl, ha, hb', hz, fun H' s => ⟨_, rfl, rfl, s⟩⟩
  subst e
  exact decide_eq_true (ha.inj hb')
/-- things, or nothing on both sides -/
theorem op_eqOT (S : Spc X.prog X.w X.K X.mg X.base C "__eq__" 2 ["self", "other"] (spEqT C)) (hr : Room 2 X.A) : OpR X (compareOp .Eq) (fun x y H Q => (x = .non ∧ y = .non ∧ Q (.bl true) H) ∨ rEqT C x y H Q) := by
  intro pins s σ H x y v u Q I rx ry h
  rcases h with ⟨rfl, rfl, q⟩ | h
  · exact op_eq pins s σ H _ _ v u Q I rx ry ⟨rfl, q⟩
  · exact op_eqT S hr pins s σ H x y v u Q I rx ry h
/-- two rows of things -/
def eqB (ts us : List Tr) : List Bool := (ts.zip us).map fun p => decide (p.1 = p.2)
theorem eqB_all : ∀ (ts us : List Tr), ts.length = us.length → (eqB ts us).all id = decide (ts = us)
  | [], [], _ => rfl
  | [], b :: us, h => by cases h
  | a :: ts, [], h => by cases h
  | a :: ts, b :: us, h => by
    have ih := eqB_all ts us (by simpa using h)
    have e : eqB (a :: ts) (b :: us) = decide (a = b) :: eqB ts us := rfl
    rw [e, List.all_cons, ih]
    by_cases h1 : a = b
    · by_cases h2 : ts = us <;> simp [h1, h2]
    · simp [h1]
theorem prs_tg {H : Hp} {xs ys : List V} {ts us : List Tr} (h1 : Paired (ThV C H) xs ts) (h2 : Paired (ThV C H) ys us) (hz : ∀ t ∈ ts, t.size ≤ 4000) : PrsT (DTh C) xs ys (eqB ts us) H := by
  have l1 := Paired.length h1
  have l2 := Paired.length h2
  refine ⟨by rw [eqB, List.length_map, List.length_zip, l1, l2], fun i x y b hx hy hb _ => ?_⟩
  obtain ⟨t, ht, a, rfl, hta⟩ := paired_get h1 hx
  obtain ⟨u, hu, c, rfl, huc⟩ := paired_get h2 hy
  have e : (eqB ts us)[i]? = some (decide (t = u)) := by
    rw [eqB, List.getElem?_map]
    have : (ts.zip us)[i]? = some (t, u) := by
      rw [List.getElem?_zip_eq_some]
      exact ⟨ht, hu⟩
    rw [this]
    rfl
  rw [e] at hb
  exact ⟨a, c, t, u, rfl, rfl, hta, huc, hz t (List.mem_of_getElem? ht), (Option.some.inj hb).symm⟩
theorem ttup_tg {H : Hp} {q q2 : Addr} {xs ys : List V} {ts us : List Tr} (hq : SqT X.K H q xs) (hq2 : SqT X.K H q2 ys) (h1 : Paired (ThV C H) xs ts) (h2 : Paired (ThV C H) ys us) (hl : ts.length = us.length) (hz : ∀ t ∈ ts, t.size ≤ 4000) : TTup X.K (DTh C) (.ref q) (.ref q2) (decide (ts = us)) H := by
  refine ⟨q, q2, xs, ys, eqB ts us, rfl, rfl, hq, hq2, prs_tg h1 h2 hz, ?_⟩
  unfold tells
  rw [eqB_all ts us hl, decide_eq_true (show xs.length = ys.length by rw [Paired.length h1, Paired.length h2, hl]), Bool.true_and]
end
def firstN (t : Tr) : List Tr := t :: List.replicate 9 .nil
theorem firstN_ok (t : Tr) (h : t.size ≤ 4000) : NsOk (firstN t) := by
  refine ⟨by simp [firstN], fun u hu => ?_⟩
  rcases List.mem_cons.mp hu with rfl | hu
  · exact h
  · rw [(List.mem_replicate.mp hu).2]
    exact Nat.zero_le _
end Js

set_option Elab.async false
set_option linter.all false
set_option maxRecDepth 100000
set_option maxHeartbeats 2000000
namespace Js
open PySem L2
open PySem.Spec PyProof.Rows
abbrev sShI : Stmt := inClass (top 48) 0
abbrev sPairN : Stmt := top 50
abbrev sThingN : Stmt := top 51
structure Sh5 where
  lh : Addr
  lt : Addr
  ls : Addr
  lm : Addr
  dp : Addr
def A5 (s : Sh5) : List Addr := [s.lh, s.lt, s.ls, s.lm, s.dp]
/-- all but what stands at these addresses stays -/
def KL (As : List Addr) (H H' : Hp) : Prop := ∀ x o, x ∉ As → H x = some o → H' x = some o
theorem KL.refl (As : List Addr) (H : Hp) : KL As H H := fun _ _ _ h => h
theorem KL.trans {As : List Addr} {H H1 H2 : Hp} (a : KL As H H1) (b : KL As H1 H2) : KL As H H2 := fun x o n h => b x o n (a x o n h)
theorem KL.of {As : List Addr} {H H' : Hp} (s : Same H H') : KL As H H' := fun x o _ h => s x o h
theorem KL.mono {As Bs : List Addr} {H H' : Hp} (k : KL As H H') (h : ∀ x ∈ As, x ∈ Bs) : KL Bs H H' := fun x o n e => k x o (fun z => n (h x z)) e
theorem KL.set {As : List Addr} {H : Hp} {a : Addr} {o : HO} (h : a ∈ As) : KL As H (upd H a o) := fun x u n e => by
  rw [upd_ne (fun z => n (by rw [z]; exact h))]
  exact e
theorem KL.free {As : List Addr} {H H' : Hp} (k : KL As H H') {x : Addr} (n : x ∉ As) (h : H' x = none) : H x = none := by
  cases e : H x with
  | none => rfl
  | some o => rw [k x o n e] at h; cases h
/-- what was made stays: things, tuples -/
def Stb : HO → Prop
  | .lst _ => False
  | .ext _ => False
  | .dK _ => False
  | _ => True
def KS (H H' : Hp) : Prop := ∀ x o, Stb o → H x = some o → H' x = some o
theorem KS.of {H H' : Hp} (s : Same H H') : KS H H' := fun x o _ h => s x o h
theorem KS.refl (H : Hp) : KS H H := fun _ _ _ h => h
theorem KS.trans {H H1 H2 : Hp} (a : KS H H1) (b : KS H1 H2) : KS H H2 := fun x o n h => b x o n (a x o n h)
theorem Th.ks {C : Addr} {H H' : Hp} (k : KS H H') {a : Addr} {t : Tr} (h : Th C H a t) : Th C H' a t := by
  induction h with
  | nil h => exact .nil (k _ _ trivial h)
  | pr h _ _ ih1 ih2 => exact .pr (k _ _ trivial h) ih1 ih2
theorem sqt_ks {K : PySem.W.Frag} {H H' : Hp} (k : KS H H') {a : Addr} {xs : List V} (h : SqT K H a xs) : SqT K H' a xs := by
  rcases h with (h | ⟨o, h⟩) | h
  · exact .inl (.inl (k _ _ trivial h))
  · exact .inl (.inr ⟨o, k _ _ trivial h⟩)
  · exact .inr h
def nV (n : Nat) : V := .int ((n : Nat) : Int)
def szV (t : Mt) : V := .int ((t.size : Nat) : Int)
def mkV (t : Mt) : V := .bl t.mkd
def shF (s : Sh5) : List (Str × V) := putF "paired" (.ref s.dp) (putF "marked" (.ref s.lm) (putF "sizes" (.ref s.ls) (putF "tails" (.ref s.lt) (putF "heads" (.ref s.lh) []))))
theorem shf_heads (s : Sh5) : (shF s).lookup ("heads" : Str) = some (.ref s.lh) := by
  unfold shF
  rw [lookup_putF, if_neg (by decide +kernel), lookup_putF, if_neg (by decide +kernel), lookup_putF, if_neg (by decide +kernel), lookup_putF, if_neg (by decide +kernel), lookup_putF, if_pos rfl]
theorem shf_tails (s : Sh5) : (shF s).lookup ("tails" : Str) = some (.ref s.lt) := by
  unfold shF
  rw [lookup_putF, if_neg (by decide +kernel), lookup_putF, if_neg (by decide +kernel), lookup_putF, if_neg (by decide +kernel), lookup_putF, if_pos rfl]
theorem shf_sizes (s : Sh5) : (shF s).lookup ("sizes" : Str) = some (.ref s.ls) := by
  unfold shF
  rw [lookup_putF, if_neg (by decide +kernel), lookup_putF, if_neg (by decide +kernel), lookup_putF, if_pos rfl]
theorem shf_marked (s : Sh5) : (shF s).lookup ("marked" : Str) = some (.ref s.lm) := by
  unfold shF
  rw [lookup_putF, if_neg (by decide +kernel), lookup_putF, if_pos rfl]
theorem shf_paired (s : Sh5) : (shF s).lookup ("paired" : Str) = some (.ref s.dp) := by
  unfold shF
  rw [lookup_putF, if_pos rfl]
structure TxtSh (K : PySem.W.Frag) (mg : Str → Option Value) (S : Addr) : Prop where
  cl : Cls K S
  nH : NoAttr K S "heads"
  nT : NoAttr K S "tails"
  nZ : NoAttr K S "sizes"
  nM : NoAttr K S "marked"
  nP : NoAttr K S "paired"
  mgS : mg "Shelf" = some (.ref S)
/-- a shelf -/
structure ShAt (P : Program) (w : World) (K : PySem.W.Frag) (S : Addr) (H : Hp) (sh : Addr) (s : Sh5) (qs : Nps) : Prop where
  ob : ∃ dx, H sh = some (.ins S dx (shF s))
  hs : H s.lh = some (.lst ((hsA qs).map nV))
  tl : H s.lt = some (.lst ((tlA qs).map nV))
  sz : H s.ls = some (.lst ((tsA qs).map szV))
  mr : H s.lm = some (.lst ((tsA qs).map mkV))
  pd : KdAt P w K H s.dp (kvA qs)
  wf : WFn qs
  n1 : s.lh ≠ s.lt
  n2 : s.lh ≠ s.ls
  n3 : s.lh ≠ s.lm
  n4 : s.lt ≠ s.ls
  n5 : s.lt ≠ s.lm
  n6 : s.ls ≠ s.lm
theorem ShAt.out {P : Program} {w : World} {K : PySem.W.Frag} {S : Addr} {H : Hp} {sh : Addr} {s : Sh5} {qs : Nps} (h : ShAt P w K S H sh s qs) {x : Addr} {o : HO} (hx : H x = some o) (hl : ∀ xs, o ≠ .lst xs) (he : ∀ φ, o ≠ .ext φ) : x ∉ A5 s := by
  obtain ⟨φ, hφ⟩ := h.pd.ext
  intro hm
  simp only [A5, List.mem_cons, List.not_mem_nil, or_false] at hm
  rcases hm with rfl | rfl | rfl | rfl | rfl
  · rw [h.hs] at hx; exact hl _ (Option.some.inj hx).symm
  · rw [h.tl] at hx; exact hl _ (Option.some.inj hx).symm
  · rw [h.sz] at hx; exact hl _ (Option.some.inj hx).symm
  · rw [h.mr] at hx; exact hl _ (Option.some.inj hx).symm
  · rw [hφ] at hx; exact he _ (Option.some.inj hx).symm
theorem ShAt.ks {P : Program} {w : World} {K : PySem.W.Frag} {S : Addr} {H H' : Hp} {sh : Addr} {s : Sh5} {qs : Nps} (h : ShAt P w K S H sh s qs) (k : KL (A5 s) H H') : KS H H' := fun x o st e => k x o (h.out e (fun xs z => by subst z; exact st) (fun φ z => by subst z; exact st)) e
theorem ShAt.same {P : Program} {w : World} {K : PySem.W.Frag} {S : Addr} {H H' : Hp} {sh : Addr} {s : Sh5} {qs : Nps} (h : ShAt P w K S H sh s qs) (k : Same H H') : ShAt P w K S H' sh s qs :=
  ⟨let ⟨dx, e⟩ := h.ob; ⟨dx, k _ _ e⟩, k _ _ h.hs, k _ _ h.tl, k _ _ h.sz, k _ _ h.mr, h.pd.same k, h.wf, h.n1, h.n2, h.n3, h.n4, h.n5, h.n6⟩
/-- it stays where other addresses change -/
theorem ShAt.kl {P : Program} {w : World} {K : PySem.W.Frag} {S : Addr} {H H' : Hp} {sh : Addr} {s : Sh5} {qs : Nps} (h : ShAt P w K S H sh s qs) {As : List Addr} (k : KL As H H') (n0 : sh ∉ As) (n : ∀ x ∈ A5 s, x ∉ As) (ht : TpS K H H') : ShAt P w K S H' sh s qs :=
  ⟨let ⟨dx, e⟩ := h.ob; ⟨dx, k _ _ n0 e⟩, k _ _ (n _ (by simp [A5])) h.hs, k _ _ (n _ (by simp [A5])) h.tl, k _ _ (n _ (by simp [A5])) h.sz, k _ _ (n _ (by simp [A5])) h.mr, h.pd.fr (fun o e => k _ _ (n _ (by simp [A5])) e) ht, h.wf, h.n1, h.n2, h.n3, h.n4, h.n5, h.n6⟩
theorem TpS.ks {K : PySem.W.Frag} {H H' : Hp} (k : KS H H') : TpS K H H' := fun _ _ h => sqt_ks k h
/-- what the two lists of thing_number come to -/
def semN : List (Option Tr) → List Mt → Option (List Mt)
  | [], ts => some ts
  | some t :: ps, ts => semN ps (t.m :: ts)
  | none :: ps, b :: a :: ts => semN ps (.pr a b :: ts)
  | none :: _, _ => none
def prN : List (Option Tr) → Nat
  | [] => 0
  | some t :: ps => t.size + prN ps
  | none :: ps => 1 + prN ps
theorem semN_size : ∀ (ps : List (Option Tr)) (ts : List Mt) (x : Mt), semN ps ts = some [x] → ∀ m ∈ ts, m.size ≤ x.size
  | [], ts, x, h, m, hm => by
    cases Option.some.inj h
    rw [List.mem_singleton.mp hm]
    exact Nat.le_refl _
  | some t :: ps, ts, x, h, m, hm => semN_size ps _ x h m (List.mem_cons_of_mem _ hm)
  | none :: ps, [], x, h, m, hm => nomatch hm
  | none :: ps, [b], x, h, m, hm => nomatch h
  | none :: ps, b :: a :: ts, x, h, m, hm => by
    have h1 := semN_size ps _ x h (.pr a b) List.mem_cons_self
    rw [Mt.size] at h1
    rcases List.mem_cons.mp hm with rfl | hm
    · omega
    · rcases List.mem_cons.mp hm with rfl | hm
      · omega
      · exact semN_size ps _ x h m (List.mem_cons_of_mem _ hm)
theorem WtAt.ks {C : Addr} {H H' : Hp} (k : KS H H') {v : V} {p : Option Tr} (h : WtAt C H v p) : WtAt C H' v p := by
  rcases h with h | ⟨x, t, e1, e2, hx⟩
  · exact .inl h
  · exact .inr ⟨x, t, e1, e2, hx.ks k⟩
theorem wts_ks {C : Addr} {H H' : Hp} (k : KS H H') : ∀ {vs : List V} {ps : List (Option Tr)}, Paired (WtAt C H) vs ps → Paired (WtAt C H') vs ps
  | _, _, .nil => .nil
  | _, _, .cons h t => .cons (h.ks k) (wts_ks k t)
def spPairN (P : Program) (w : World) (K : PySem.W.Frag) (S N : Addr) : Sp := fun vs H Q E => ∃ (sh : Addr) (s : Sh5) (qs : Nps) (a b : Nat) (ta tb : Mt), vs = [.ref sh, .int (a : Nat), .int (b : Nat)] ∧ ShAt P w K S H sh s qs ∧ NmOk qs a ta ∧ NmOk qs b tb ∧ qs.length < 15000000 ∧
  (1 + ta.size + tb.size ≤ 4000 → ∀ qs' (n : Nat) H', NExt qs qs' → qs'.length ≤ qs.length + 1 → NmOk qs' n (.pr ta tb) → KL (A5 s) H H' → ShAt P w K S H' sh s qs' → Q (.int (n : Nat)) H') ∧
  (4000 < 1 + ta.size + tb.size → ∀ dd H', Same H H' → H' dd = some (.xd bndX) → E (.ref N) (some dd) H')
def spThingN (P : Program) (w : World) (K : PySem.W.Frag) (C S : Addr) : Sp := fun vs H Q _ => ∃ (sh x : Addr) (s : Sh5) (qs : Nps) (t : Tr), vs = [.ref sh, .ref x] ∧ ShAt P w K S H sh s qs ∧ Th C H x t ∧ t.size ≤ 4000 ∧ qs.length + t.size < 15000000 ∧
  ∀ qs' (n : Nat) H', NExt qs qs' → qs'.length ≤ qs.length + t.size → NmOk qs' n t.m → KL (A5 s) H H' → ShAt P w K S H' sh s qs' → Q (.int (n : Nat)) H'
def spShI (P : Program) (w : World) (K : PySem.W.Frag) (S : Addr) : Sp := fun vs H Q _ => ∃ (p dx : Addr), vs = [.ref p] ∧ H p = some (.ins S dx []) ∧ ∀ s H', KB p H H' → ShAt P w K S H' p s [] → (∀ x ∈ A5 s, H x = none) → Q .non H'
section
variable {P : Program} {w : World} {K : PySem.W.Frag} {mg : Str → Option Value} {base : Heap} {C S N fN fP : Addr} {fdN fdP : FuncData}
theorem scShI : FnScope ["self"] ["self"] (defScope sShI) := ⟨rfl, rfl, rfl, by decide +kernel, rfl, by decide +kernel, by decide +kernel⟩
theorem scPn : FnScope ["shelf", "one", "other", "key", "size"] ["shelf", "one", "other"] (defScope sPairN) := ⟨rfl, rfl, rfl, by decide +kernel, rfl, by decide +kernel, by decide +kernel⟩
theorem scTn : FnScope ["shelf", "thing", "made", "waiting", "part", "second"] ["shelf", "thing"] (defScope sThingN) := ⟨rfl, rfl, rfl, by decide +kernel, rfl, by decide +kernel, by decide +kernel⟩
theorem ok_pairN {tM : Tok} {f : Addr} {fd : FuncData} (F : Fun K "pair_number" "pair_number" sPairN f fd) (B : Blt mg) (TH : TxtSh K mg S) (mgM : mg "MOST_PAIRS" = some (.int 4000 tM)) (M : TgM P w K mg base N fN fdN) : FnOk P w K mg base (L2N.CX P w) 3 f fd ["shelf", "one", "other"] (spPairN P w K S N) := by
  refine okC F scPn (fun vs H Q E h => ?_) (fun cdv A outer s H vs Q E hr h => ?_)
  · obtain ⟨sh, s, qs, a, b, ta, tb, rfl, _⟩ := h
    rfl
  · obtain ⟨sh, s, qs, a, b, ta, tb, rfl, hsh, ha, hb, hql, k, ke⟩ := h
    have hr2 : Room 2 _ := hr
    refine ⟨_, pss_cons (ps_set (i := 3) scPn.nd rfl (Or.inl rfl) (pe_tup (pa_cons (pv 1) (pa_cons (pv 2) pa_nil)))) (pss_cons (ps_if (pt_cmp (pc_knotin hr.units (pv 3) (pe_fld (pv 0) rfl))) (pss_cons (ps_set (i := 4) scPn.nd rfl (Or.inl rfl) (pe_op op_add (pe_op op_add pe_int (pe_ix (r := rIxL K) ix_list (pe_fld (pv 0) rfl) (pv 1) (fun _ _ => rfl))) (pe_ix (r := rIxL K) ix_list (pe_fld (pv 0) rfl) (pv 2) (fun _ _ => rfl)))) (pss_cons (ps_if (pt_cmpR op_gt (pv 4) (pe_glob (v := .int 4000) rfl mgM ⟨_, rfl⟩) (nomark _)) (pss_one (L2N.ps_raise rfl (L2N.takes_of rfl rfl rfl rfl) (pmk_gexN M.T.O M.iN M.tN M.ok hr2 M.bN .nil pass0 rfl M.T.mgN (pa_cons (pe_glob (v := .int ((4000 : Nat) : Int)) rfl mgM ⟨_, rfl⟩) pa_nil)))) pss_nil) (pss_cons (ps_asg (pe_callB call_len_seq (by rfl) B.len PySem.boot_len (pa_cons (pe_fld (pv 0) rfl) pa_nil)) (pg_sub (pe_fld (pv 0) rfl) (pv 3) (set_kd hr.units))) (pss_cons (ps_expr (pe_bm PySem.F.plainAttrs_list PySem.F.slot_list_append PySem.F.type_list_append mt_append (pe_fld (pv 0) rfl) (pa_cons (pv 1) pa_nil))) (pss_cons (ps_expr (pe_bm PySem.F.plainAttrs_list PySem.F.slot_list_append PySem.F.type_list_append mt_append (pe_fld (pv 0) rfl) (pa_cons (pv 2) pa_nil))) (pss_cons (ps_expr (pe_bm PySem.F.plainAttrs_list PySem.F.slot_list_append PySem.F.type_list_append mt_append (pe_fld (pv 0) rfl) (pa_cons (pv 4) pa_nil))) (pss_one (ps_expr (pe_bm PySem.F.plainAttrs_list PySem.F.slot_list_append PySem.F.type_list_append mt_append (pe_fld (pv 0) rfl) (pa_cons (pe_or (pe_ix (r := rIxL K) ix_list (pe_fld (pv 0) rfl) (pv 1) (fun _ _ => rfl)) (pe_one (pe_ix (r := rIxL K) ix_list (pe_fld (pv 0) rfl) (pv 2) (fun _ _ => rfl)))) pa_nil)))))))))) pss_nil) (pss_one (ps_ret (pe_kget hr.units (pe_fld (pv 0) rfl) (pv 3) (fun _ _ => rfl))))), ?_⟩
    have hsl := line4
    have hsl2 := sizeLine_eq
    obtain ⟨dx, hob⟩ := hsh.ob
    refine ⟨_, rfl, _, rfl, ?_⟩
    refine ⟨by show 2 ≤ sizeLine; decide, fun T nT => ?_⟩
    have s1 := Same.new nT (o := .tup [V.int ((a : Nat) : Int), .int ((b : Nat) : Int)])
    have e1 : (upd H T (.tup [V.int ((a : Nat) : Int), .int ((b : Nat) : Int)])) T = some (.tup [V.int ((a : Nat) : Int), .int ((b : Nat) : Int)]) := upd_same
    revert s1 e1
    generalize upd H T (.tup [V.int ((a : Nat) : Int), .int ((b : Nat) : Int)]) = H1
    intro s1 e1
    have hs1 := hsh.same s1
    have hk : NkV K H1 (.ref T) (pkN (a, b)) := .tup (SqT.of e1) (.cons (.int _) (.cons (.int _) .nil))
    have hkd : (pkN (a, b)).depth ≤ 8 := by simp [pkN, NestedKey.depth, NestedKey.depthAll]
    have hob1 := s1 _ _ hob
    refine ⟨_, rfl, _, rfl, _, _, _, _, _, rfl, hob1, TH.cl, TH.nP, shf_paired s, s.dp, T, kvA qs, pkN (a, b), rfl, rfl, hs1.pd, hk, hkd, ?_⟩
    rw [kv_idx, Option.isSome_map]
    cases hix : idxN qs (a, b) with
    | some n =>
      refine ⟨_, rfl, iteF ?_⟩
      obtain ⟨_, g2, g3, g4, g5⟩ := idx_some hsh.wf hix
      have hn : NmOk qs n (.pr ta tb) := ⟨g2, by rw [g5, ha.2, hb.2]⟩
      have hsz := hn.size hsh.wf
      rw [Mt.size] at hsz
      refine ⟨_, rfl, _, _, _, _, _, rfl, hob1, TH.cl, TH.nP, shf_paired s, _, rfl, s.dp, T, kvA qs, pkN (a, b), V.int ((n : Nat) : Int), rfl, rfl, hs1.pd, hk, hkd, by rw [kv_idx, hix]; rfl, ?_⟩
      exact k hsz qs n H1 (NExt.refl _) (Nat.le_succ _) hn (KL.of s1) hs1
    | none =>
      refine ⟨_, rfl, iteT ?_⟩
      have hza : ((tsA qs).map szV)[a]? = some (szV ta) := by rw [List.getElem?_map, tsA_at qs ha.1, ha.2]; rfl
      have hzb : ((tsA qs).map szV)[b]? = some (szV tb) := by rw [List.getElem?_map, tsA_at qs hb.1, hb.2]; rfl
      refine ⟨_, rfl, _, _, _, _, _, rfl, hob1, TH.cl, TH.nZ, shf_sizes s, _, rfl, s.ls, _, _, _, rfl, rfl, SqL.of hs1.sz, atI_nat hza, _, _, rfl, rfl, ?_⟩
      refine ⟨_, rfl, _, _, _, _, _, rfl, hob1, TH.cl, TH.nZ, shf_sizes s, _, rfl, s.ls, _, _, _, rfl, rfl, SqL.of hs1.sz, atI_nat hzb, _, _, rfl, rfl, ?_⟩
      refine ⟨_, rfl, _, _, rfl, rfl, _, rfl, ?_⟩
      by_cases hz : 1 + ta.size + tb.size ≤ 4000
      rotate_left
      · rw [show decide ((4000 : Int) < 1 + ((ta.size : Nat) : Int) + ((tb.size : Nat) : Int)) = true from decide_eq_true (by omega)]
        refine iteT ?_
        exact ⟨by simp, raise_tg M.T.O M.T.bd (by decide) fun d H' sH hd => ke (by omega) d H' (s1.trans sH) hd⟩
      rw [show decide ((4000 : Int) < 1 + ((ta.size : Nat) : Int) + ((tb.size : Nat) : Int)) = false from decide_eq_false (by omega)]
      refine iteF ?_
      have hlh : ((hsA qs).map nV).length = qs.length + 2 := by rw [List.length_map, hsA_len]
      have hlt : ((tlA qs).map nV).length = qs.length + 2 := by rw [List.length_map, tlA_len]
      have hls : ((tsA qs).map szV).length = qs.length + 2 := by rw [List.length_map, tsA_len]
      have hlm : ((tsA qs).map mkV).length = qs.length + 2 := by rw [List.length_map, tsA_len]
      -- the dict
      refine ⟨_, rfl, _, _, _, _, _, rfl, hob1, TH.cl, TH.nH, shf_heads s, s.lh, _, rfl, .inl (SqL.of hs1.hs), ?_⟩
      rw [hlh]
      refine ⟨_, rfl, _, _, _, _, _, rfl, hob1, TH.cl, TH.nP, shf_paired s, _, rfl, s.dp, T, kvA qs, pkN (a, b), rfl, rfl, hs1.pd, hk, hkd, by rw [kvA_len]; omega, fun ob hd2 => ?_⟩
      have hpk : putK (kvA qs) (pkN (a, b)) (V.int ((qs.length + 2 : Nat) : Int)) = kvA ((a, b) :: qs) := putK_new _ (by rw [kv_idx, hix]; rfl)
      rw [hpk] at hd2
      obtain ⟨φ1, hφ1⟩ := hs1.pd.ext
      have kl2 : KL (A5 s) H1 (upd H1 s.dp ob) := KL.set (by simp [A5])
      have st2 : ∀ (x : Addr) (xs : List V), H1 x = some (.lst xs) → (upd H1 s.dp ob) x = some (.lst xs) := fun x xs h => by rw [upd_ne (ne_of h hφ1 (fun z => nomatch z))]; exact h
      have hob2 : (upd H1 s.dp ob) sh = some (.ins S dx (shF s)) := kl2 _ _ (hs1.out hob1 (fun _ z => nomatch z) (fun _ z => nomatch z)) hob1
      have hh2 := st2 _ _ hs1.hs
      have ht2 := st2 _ _ hs1.tl
      have hz2 := st2 _ _ hs1.sz
      have hm2 := st2 _ _ hs1.mr
      have o2 : sh ∉ A5 s := hs1.out hob1 (fun _ z => nomatch z) (fun _ z => nomatch z)
      have q2 : SqT K (upd H1 s.dp ob) T [V.int ((a : Nat) : Int), .int ((b : Nat) : Int)] := TpS.ext hφ1 _ _ (SqT.of e1)
      revert kl2 hob2 hh2 ht2 hz2 hm2 hd2 q2
      generalize upd H1 s.dp ob = H2
      intro hd2 kl2 hob2 hh2 ht2 hz2 hm2 q2
      have noL : ∀ {G : Hp} {x : Addr} {xs : List V} {o : HO}, G x = some (.lst xs) → x ∈ A5 s → KL (A5 s) G (upd G x o) ∧ KT G (upd G x o) := fun h hm => ⟨KL.set hm, KT.lst h⟩
      have hn : NmOk ((a, b) :: qs) (qs.length + 2) (.pr ta tb) := ⟨by rw [List.length_cons]; omega, by rw [tsn_new, ha.2, hb.2]⟩
      have hw : WFn ((a, b) :: qs) := ⟨hsh.wf, ha.1, hb.1, idx_none hix, by rw [ha.2, hb.2]; exact hz⟩
      -- heads
      refine ⟨_, rfl, _, _, _, _, _, rfl, hob2, TH.cl, TH.nH, shf_heads s, .inl ⟨rfl, _, SqL.of hh2⟩, _, rfl, s.lh, _, _, rfl, rfl, hh2, by rw [hlh]; omega, ?_⟩
      obtain ⟨kl3, kt3⟩ := noL (o := .lst ((hsA qs).map nV ++ [V.int ((a : Nat) : Int)])) hh2 (by simp [A5])
      have hob3 := kl3 _ _ o2 hob2
      have hh3 : (upd H2 s.lh (.lst ((hsA qs).map nV ++ [V.int ((a : Nat) : Int)]))) s.lh = some (.lst ((hsA ((a, b) :: qs)).map nV)) := by rw [upd_same, hsA, List.map_append]; rfl
      have ht3 : (upd H2 s.lh (.lst ((hsA qs).map nV ++ [V.int ((a : Nat) : Int)]))) s.lt = _ := (upd_ne (Ne.symm hsh.n1)).trans ht2
      have hz3 : (upd H2 s.lh (.lst ((hsA qs).map nV ++ [V.int ((a : Nat) : Int)]))) s.ls = _ := (upd_ne (Ne.symm hsh.n2)).trans hz2
      have hm3 : (upd H2 s.lh (.lst ((hsA qs).map nV ++ [V.int ((a : Nat) : Int)]))) s.lm = _ := (upd_ne (Ne.symm hsh.n3)).trans hm2
      have hd3 := hd2.kt kt3
      have q3 := sqt_kt kt3 q2
      revert kl3 kt3 hob3 hh3 ht3 hz3 hm3 hd3 q3
      generalize upd H2 s.lh (.lst ((hsA qs).map nV ++ [V.int ((a : Nat) : Int)])) = H3
      intro kl3 kt3 hob3 hh3 ht3 hz3 hm3 hd3 q3
      -- tails
      refine ⟨_, rfl, _, _, _, _, _, rfl, hob3, TH.cl, TH.nT, shf_tails s, .inl ⟨rfl, _, SqL.of ht3⟩, _, rfl, s.lt, _, _, rfl, rfl, ht3, by rw [hlt]; omega, ?_⟩
      obtain ⟨kl4, kt4⟩ := noL (o := .lst ((tlA qs).map nV ++ [V.int ((b : Nat) : Int)])) ht3 (by simp [A5])
      have hob4 := kl4 _ _ o2 hob3
      have hh4 : (upd H3 s.lt (.lst ((tlA qs).map nV ++ [V.int ((b : Nat) : Int)]))) s.lh = _ := (upd_ne hsh.n1).trans hh3
      have ht4 : (upd H3 s.lt (.lst ((tlA qs).map nV ++ [V.int ((b : Nat) : Int)]))) s.lt = some (.lst ((tlA ((a, b) :: qs)).map nV)) := by rw [upd_same, tlA, List.map_append]; rfl
      have hz4 : (upd H3 s.lt (.lst ((tlA qs).map nV ++ [V.int ((b : Nat) : Int)]))) s.ls = _ := (upd_ne (Ne.symm hsh.n4)).trans hz3
      have hm4 : (upd H3 s.lt (.lst ((tlA qs).map nV ++ [V.int ((b : Nat) : Int)]))) s.lm = _ := (upd_ne (Ne.symm hsh.n5)).trans hm3
      have hd4 := hd3.kt kt4
      have q4 := sqt_kt kt4 q3
      revert kl4 kt4 hob4 hh4 ht4 hz4 hm4 hd4 q4
      generalize upd H3 s.lt (.lst ((tlA qs).map nV ++ [V.int ((b : Nat) : Int)])) = H4
      intro kl4 kt4 hob4 hh4 ht4 hz4 hm4 hd4 q4
      -- sizes
      refine ⟨_, rfl, _, _, _, _, _, rfl, hob4, TH.cl, TH.nZ, shf_sizes s, .inl ⟨rfl, _, SqL.of hz4⟩, _, rfl, s.ls, _, _, rfl, rfl, hz4, by rw [hls]; omega, ?_⟩
      obtain ⟨kl5, kt5⟩ := noL (o := .lst ((tsA qs).map szV ++ [V.int (1 + ((ta.size : Nat) : Int) + ((tb.size : Nat) : Int))])) hz4 (by simp [A5])
      have hob5 := kl5 _ _ o2 hob4
      have enew : tsA ((a, b) :: qs) = tsA qs ++ [.pr ta tb] := by
        rw [tsA]
        show tsA qs ++ [Mt.pr (tsn qs a) (tsn qs b)] = _
        rw [ha.2, hb.2]
      have hh5 : (upd H4 s.ls (.lst ((tsA qs).map szV ++ [V.int (1 + ((ta.size : Nat) : Int) + ((tb.size : Nat) : Int))]))) s.lh = _ := (upd_ne hsh.n2).trans hh4
      have ht5 : (upd H4 s.ls (.lst ((tsA qs).map szV ++ [V.int (1 + ((ta.size : Nat) : Int) + ((tb.size : Nat) : Int))]))) s.lt = _ := (upd_ne hsh.n4).trans ht4
      have hz5 : (upd H4 s.ls (.lst ((tsA qs).map szV ++ [V.int (1 + ((ta.size : Nat) : Int) + ((tb.size : Nat) : Int))]))) s.ls = some (.lst ((tsA ((a, b) :: qs)).map szV)) := by
        rw [upd_same, enew, List.map_append]
        show some (HO.lst (_ ++ [V.int (1 + ((ta.size : Nat) : Int) + ((tb.size : Nat) : Int))])) = some (HO.lst (_ ++ [V.int (((1 + ta.size + tb.size : Nat)) : Int)]))
        rw [Int.natCast_add, Int.natCast_add]
        rfl
      have hm5 : (upd H4 s.ls (.lst ((tsA qs).map szV ++ [V.int (1 + ((ta.size : Nat) : Int) + ((tb.size : Nat) : Int))]))) s.lm = _ := (upd_ne (Ne.symm hsh.n6)).trans hm4
      have hd5 := hd4.kt kt5
      have q5 := sqt_kt kt5 q4
      revert kl5 kt5 hob5 hh5 ht5 hz5 hm5 hd5 q5
      generalize upd H4 s.ls (.lst ((tsA qs).map szV ++ [V.int (1 + ((ta.size : Nat) : Int) + ((tb.size : Nat) : Int))])) = H5
      intro kl5 kt5 hob5 hh5 ht5 hz5 hm5 hd5 q5
      -- marked
      have hma : ((tsA qs).map mkV)[a]? = some (mkV ta) := by rw [List.getElem?_map, tsA_at qs ha.1, ha.2]; rfl
      have hmb : ((tsA qs).map mkV)[b]? = some (mkV tb) := by rw [List.getElem?_map, tsA_at qs hb.1, hb.2]; rfl
      have fin : ∀ bb, bb = (Mt.pr ta tb).mkd → Q (.int ((qs.length + 2 : Nat) : Int)) (upd H5 s.lm (.lst ((tsA qs).map mkV ++ [V.bl bb]))) := by
        intro bb ebb
        obtain ⟨kl6, kt6⟩ := noL (o := .lst ((tsA qs).map mkV ++ [V.bl bb])) hm5 (by simp [A5])
        refine k hz ((a, b) :: qs) (qs.length + 2) _ (NExt.cons _ _) (by rw [List.length_cons]; exact Nat.le_refl _) hn ((((((KL.of s1).trans kl2).trans kl3).trans kl4).trans kl5).trans kl6) ⟨⟨dx, kl6 _ _ o2 hob5⟩, (upd_ne hsh.n3).trans hh5, (upd_ne hsh.n5).trans ht5, (upd_ne hsh.n6).trans hz5, ?_, hd5.kt kt6, hw, hsh.n1, hsh.n2, hsh.n3, hsh.n4, hsh.n5, hsh.n6⟩
        rw [upd_same, enew, List.map_append, ebb]
        rfl
      have last : ∀ bb, bb = (Mt.pr ta tb).mkd → valV (kvA ((a, b) :: qs)) (pkN (a, b)) = some (V.int ((qs.length + 2 : Nat) : Int)) := by
        intro bb _
        rw [← hpk, valV_put, if_pos rfl]
      refine ⟨_, rfl, _, _, _, _, _, rfl, hob5, TH.cl, TH.nM, shf_marked s, .inl ⟨rfl, _, SqL.of hm5⟩, ?_⟩
      refine ⟨_, rfl, _, _, _, _, _, rfl, hob5, TH.cl, TH.nM, shf_marked s, _, rfl, s.lm, _, _, _, rfl, rfl, SqL.of hm5, atI_nat hma, _, rfl, ?_⟩
      have lastv : valV (kvA ((a, b) :: qs)) (pkN (a, b)) = some (V.int ((qs.length + 2 : Nat) : Int)) := by rw [← hpk, valV_put, if_pos rfl]
      cases hmt : ta.mkd with
      | true =>
        refine iteT ⟨s.lm, _, _, rfl, rfl, hm5, by rw [hlm]; omega, ?_⟩
        obtain ⟨kl6, kt6⟩ := noL (o := .lst ((tsA qs).map mkV ++ [V.bl true])) hm5 (by simp [A5])
        exact ⟨_, rfl, _, _, _, _, _, rfl, kl6 _ _ o2 hob5, TH.cl, TH.nP, shf_paired s, _, rfl, s.dp, T, kvA ((a, b) :: qs), pkN (a, b), V.int ((qs.length + 2 : Nat) : Int), rfl, rfl, hd5.kt kt6, .tup (sqt_kt kt6 q5) (.cons (.int _) (.cons (.int _) .nil)), hkd, lastv, fin true (by rw [Mt.mkd, hmt]; rfl)⟩
      | false =>
        refine iteF ⟨_, rfl, _, _, _, _, _, rfl, hob5, TH.cl, TH.nM, shf_marked s, _, rfl, s.lm, _, _, _, rfl, rfl, SqL.of hm5, atI_nat hmb, ?_⟩
        refine ⟨s.lm, _, _, rfl, rfl, hm5, by rw [hlm]; omega, ?_⟩
        obtain ⟨kl6, kt6⟩ := noL (o := .lst ((tsA qs).map mkV ++ [V.bl tb.mkd])) hm5 (by simp [A5])
        exact ⟨_, rfl, _, _, _, _, _, rfl, kl6 _ _ o2 hob5, TH.cl, TH.nP, shf_paired s, _, rfl, s.dp, T, kvA ((a, b) :: qs), pkN (a, b), V.int ((qs.length + 2 : Nat) : Int), rfl, rfl, hd5.kt kt6, .tup (sqt_kt kt6 q5) (.cons (.int _) (.cons (.int _) .nil)), hkd, lastv, fin tb.mkd (by rw [Mt.mkd, hmt]; rfl)⟩
theorem ok_thingN {tz : Tok} {f : Addr} {fd : FuncData} (F : Fun K "thing_number" "thing_number" sThingN f fd) (T : Txt K mg C) (mNil : mg "NIL" = some (.int 0 tz)) (GP : FnOk P w K mg base (L2N.CX P w) 3 fP fdP ["shelf", "one", "other"] (spPairN P w K S N)) (mgP : mg "pair_number" = some (.ref fP)) (kP : PySem.W.keepIn K (.ref fP) = true) (bP : Binds K fdP ["shelf", "one", "other"] []) : FnOk P w K mg base CX0 4 f fd ["shelf", "thing"] (spThingN P w K C S) := by
  refine F.ok scTn (fun vs H Q E h => ?_) (fun cdv A outer s H vs Q E hr h => ?_)
  · obtain ⟨sh, x, s, qs, t, rfl, _⟩ := h
    rfl
  · obtain ⟨sh, x, s, qs, t, rfl, hsh, hx, htz, hql, k⟩ := h
    have hr3 : Room 3 _ := hr
    refine ⟨_, pss_cons (ps_set (i := 2) scTn.nd rfl (Or.inl rfl) (pe_lst pa_nil)) (pss_cons (ps_set (i := 3) scTn.nd rfl (Or.inl rfl) (pe_lst (pa_cons (pv 1) pa_nil))) (pss_cons (ps_while PassesOwn.never (pt_truth (pv 3) (by intro _; rfl)) (pss_cons (ps_set (i := 4) scTn.nd rfl (Or.inl rfl) (pe_bm0 PySem.F.plainAttrs_list PySem.F.slot_list_pop PySem.F.type_list_pop mt_pop (pv 3))) (pss_one (ps_if (pt_cmp (pc_isN (pv 4))) (pss_cons (ps_set (i := 5) scTn.nd rfl (Or.inl rfl) (pe_bm0 PySem.F.plainAttrs_list PySem.F.slot_list_pop PySem.F.type_list_pop mt_pop (pv 2))) (pss_one (ps_expr (pe_bm PySem.F.plainAttrs_list PySem.F.slot_list_append PySem.F.type_list_append mt_append (pv 2) (pa_cons (pe_callS GP hr3 rfl mgP kP bP (fun σ => L2N.passAt takesN σ) (pa_cons (pv 0) (pa_cons (pe_bm0 PySem.F.plainAttrs_list PySem.F.slot_list_pop PySem.F.type_list_pop mt_pop (pv 2)) (pa_cons (pv 5) pa_nil)))) pa_nil))))) (pss_one (ps_if (pt_cmpR op_eq (pe_fld (pv 4) rfl) pe_int (nomark _)) (pss_one (ps_expr (pe_bm PySem.F.plainAttrs_list PySem.F.slot_list_append PySem.F.type_list_append mt_append (pv 2) (pa_cons (pe_glob (v := .int 0) rfl mNil ⟨_, rfl⟩) pa_nil)))) (pss_one (ps_expr (pe_bm PySem.F.plainAttrs_list PySem.F.slot_list_extend PySem.F.type_list_extend mt_extend (pv 3) (pa_cons (pe_lst (pa_cons pe_non (pa_cons (pe_fld (pv 4) rfl) (pa_cons (pe_fld (pv 4) rfl) pa_nil)))) pa_nil)))))))))) (pss_one (ps_ret (pe_ix (r := rIxL K) ix_list (pv 2) pe_int (fun _ _ => rfl)))))), ?_⟩
    have hsl := line4
    refine ⟨Nat.zero_le _, fun ml nml => ?_⟩
    refine ⟨_, rfl, (by show 1 ≤ sizeLine; decide), fun wl nwl => ?_⟩
    have nmw : ml ≠ wl := ne_of_none (o := .lst []) upd_same nwl
    have hwl0 : H wl = none := by
      have := nwl
      rw [upd_ne (Ne.symm nmw)] at this
      exact this
    obtain ⟨dx, hob⟩ := hsh.ob
    have outA : ∀ {z : Addr}, H z = none → z ∉ A5 s := by
      intro z nz hm
      obtain ⟨φ, hφ⟩ := hsh.pd.ext
      simp only [A5, List.mem_cons, List.not_mem_nil, or_false] at hm
      rcases hm with rfl | rfl | rfl | rfl | rfl
      · rw [hsh.hs] at nz; cases nz
      · rw [hsh.tl] at nz; cases nz
      · rw [hsh.sz] at nz; cases nz
      · rw [hsh.mr] at nz; cases nz
      · rw [hφ] at nz; cases nz
    have mlo := outA nml
    have wlo := outA hwl0
    have s1 : Same H (upd (upd H ml (.lst [])) wl (.lst [.ref x])) := (Same.new nml).set hwl0
    refine ⟨fun m σ H' => ∃ (rs : List V) (ps : List (Option Tr)) (ns : List Nat) (ts : List Mt) (qs' : Nps) (x4 x5 : Option V), σ = [some (.ref sh), some (.ref x), some (.ref ml), some (.ref wl), x4, x5] ∧ KL (A5 s) H H' ∧ H' ml = some (.lst (ns.reverse.map nV)) ∧ H' wl = some (.lst rs.reverse) ∧ Paired (WtAt C H') rs ps ∧ ShAt P w K S H' sh s qs' ∧ NExt qs qs' ∧ NsNm qs' ns ts ∧
      semN ps ts = some [t.m] ∧ m = wm ps ∧ qs'.length + prN ps ≤ qs.length + t.size ∧ ts.length + wm ps ≤ 3 * t.size + 1, ?_, ?_⟩
    · refine ⟨_, [.ref x], [some t], [], [], qs, none, none, rfl, KL.of s1, (upd_ne nmw).trans upd_same, upd_same, .cons (.inr ⟨x, t, rfl, rfl, hx.same s1⟩) .nil, hsh.same s1, NExt.refl _, .nil, rfl, rfl, by simp [prN], by simp [wm, wm1]⟩
    · rintro m σ H' ⟨rs, ps, ns, ts, qs', x4, x5, rfl, kl, hm, hw, hps, hs', hext, hnn, hsem, rfl, hlen, hbd⟩
      refine ⟨_, rfl, !rs.reverse.isEmpty, .inl ⟨_, SqL.of hw, rfl⟩, ?_⟩
      cases hps with
      | nil =>
        refine iteF ?_
        have ets : ts = [t.m] := by simpa [semN] using hsem
        subst ets
        cases hnn with
        | cons h1 h2 =>
          cases h2
          rename_i n0
          refine ⟨_, rfl, ml, _, 0, _, rfl, rfl, SqL.of hm, rfl, ?_⟩
          exact k qs' n0 H' hext (by simp only [prN] at hlen; omega) h1 kl hs'
      | @cons v p rs ps hv hps =>
        have e1 : (!(v :: rs).reverse.isEmpty) = true := by simp
        rw [e1]
        refine iteT ⟨fun σ' H2 => ∃ m', m' < wm (p :: ps) ∧ _, fun σ' H2 z => z, ?_⟩
        refine ⟨_, rfl, .inl ⟨rfl, _, SqL.of hw⟩, wl, _, _, rfl, rfl, hw, last_rev _ _, ?_⟩
        rw [drop_rev]
        have hrl := Paired.length hps
        have hlw : rs.length ≤ wm ps := by rw [hrl]; exact wm_len ps
        rw [wm_cons] at hbd
        have k1 : KT H' (upd H' wl (.lst rs.reverse)) := KT.lst hw
        have kl2 : KL (A5 s) H (upd H' wl (.lst rs.reverse)) := fun z o nz e => by rw [upd_ne (ne_of_none e hwl0)]; exact kl z o nz e
        have hm2 : (upd H' wl (.lst rs.reverse)) ml = some (.lst (ns.reverse.map nV)) := (upd_ne nmw).trans hm
        have hw2 : (upd H' wl (.lst rs.reverse)) wl = some (.lst rs.reverse) := upd_same
        have hv2 := hv.kt k1
        have hps2 := wts_kt k1 hps
        have hs2 : ShAt P w K S (upd H' wl (.lst rs.reverse)) sh s qs' := hs'.kl (As := [wl]) (KL.set (by simp)) (fun z => by
          have := List.mem_singleton.mp z
          subst this
          rw [hob] at hwl0
          cases hwl0) (fun z hz hz2 => wlo (by rw [← List.mem_singleton.mp hz2]; exact hz)) (TpS.kt k1)
        revert kl2 hm2 hw2 hv2 hps2 hs2
        generalize (upd H' wl (.lst rs.reverse)) = H2
        intro kl2 hm2 hw2 hv2 hps2 hs2
        rcases hv2 with ⟨rfl, rfl⟩ | ⟨b, t1, rfl, rfl, hb⟩
        · refine ⟨_, rfl, _, rfl, iteT ?_⟩
          obtain ⟨tb, ta, ts', rfl⟩ : ∃ tb ta ts', ts = tb :: ta :: ts' := by
            rcases ts with _ | ⟨tb, _ | ⟨ta, ts'⟩⟩
            · simp [semN] at hsem
            · simp [semN] at hsem
            · exact ⟨tb, ta, ts', rfl⟩
          rw [semN] at hsem
          cases hnn with
          | @cons nb _ ns1 _ hnb hnn =>
          cases hnn with
          | @cons na _ ns2 _ hna hnn =>
          have hsz := semN_size ps _ _ hsem _ (List.mem_cons_self)
          rw [Mt.size, Tr.m_size] at hsz
          rw [show ((nb :: na :: ns2).reverse.map nV) = ((na :: ns2).reverse.map nV) ++ [nV nb] by simp] at hm2
          refine ⟨_, rfl, .inl ⟨rfl, _, SqL.of hm2⟩, ml, _, _, rfl, rfl, hm2, by rw [List.length_append, List.length_singleton, Nat.add_sub_cancel, List.getElem?_append_right (Nat.le_refl _), Nat.sub_self]; rfl, ?_⟩
          rw [List.dropLast_concat]
          have ktm : KT H2 (upd H2 ml (.lst ((na :: ns2).reverse.map nV))) := KT.lst hm2
          have klm : KL (A5 s) H (upd H2 ml (.lst ((na :: ns2).reverse.map nV))) := fun z o nz e => by rw [upd_ne (ne_of_none e nml)]; exact kl2 z o nz e
          have hm3 : (upd H2 ml (.lst ((na :: ns2).reverse.map nV))) ml = some (.lst ((na :: ns2).reverse.map nV)) := upd_same
          have hw3 : (upd H2 ml (.lst ((na :: ns2).reverse.map nV))) wl = some (.lst rs.reverse) := (upd_ne (Ne.symm nmw)).trans hw2
          have hps3 := wts_kt ktm hps2
          have mlsh : ∀ {G : Hp} {o : HO} {q : Nps}, ShAt P w K S G sh s q → KT G (upd G ml o) → ShAt P w K S (upd G ml o) sh s q := fun h kt => h.kl (As := [ml]) (KL.set (by simp)) (fun z => by
            have := List.mem_singleton.mp z
            subst this
            rw [hob] at nml
            cases nml) (fun z hz hz2 => mlo (by rw [← List.mem_singleton.mp hz2]; exact hz)) (TpS.kt kt)
          have hs3 := mlsh hs2 ktm
          revert klm hm3 hw3 hps3 hs3
          generalize (upd H2 ml (.lst ((na :: ns2).reverse.map nV))) = H3
          intro klm hm3 hw3 hps3 hs3
          rw [show ((na :: ns2).reverse.map nV) = (ns2.reverse.map nV) ++ [nV na] by simp] at hm3
          refine ⟨_, rfl, .inl ⟨rfl, _, SqL.of hm3⟩, _, rfl, _, rfl, .inl ⟨rfl, _, SqL.of hm3⟩, ml, _, _, rfl, rfl, hm3, by rw [List.length_append, List.length_singleton, Nat.add_sub_cancel, List.getElem?_append_right (Nat.le_refl _), Nat.sub_self]; rfl, ?_⟩
          rw [List.dropLast_concat]
          have kt4 : KT H3 (upd H3 ml (.lst (ns2.reverse.map nV))) := KT.lst hm3
          have kl4 : KL (A5 s) H (upd H3 ml (.lst (ns2.reverse.map nV))) := fun z o nz e => by rw [upd_ne (ne_of_none e nml)]; exact klm z o nz e
          have hm4 : (upd H3 ml (.lst (ns2.reverse.map nV))) ml = some (.lst (ns2.reverse.map nV)) := upd_same
          have hw4 : (upd H3 ml (.lst (ns2.reverse.map nV))) wl = some (.lst rs.reverse) := (upd_ne (Ne.symm nmw)).trans hw3
          have hps4 := wts_kt kt4 hps3
          have hs4 := mlsh hs3 kt4
          revert kl4 hm4 hw4 hps4 hs4
          generalize (upd H3 ml (.lst (ns2.reverse.map nV))) = H4
          intro kl4 hm4 hw4 hps4 hs4
          simp only [prN] at hlen
          refine ⟨_, rfl, sh, s, qs', na, nb, ta, tb, rfl, hs4, hna, hnb, by omega, fun _ qs2 n H5 hx5 hl5 hn5 kl5 hs5 => ?_, fun hgr => absurd hgr (by omega)⟩
          have hm5 := kl5 _ _ mlo hm4
          have hnl := Paired.length hnn
          refine ⟨ml, _, _, rfl, rfl, hm5, by rw [List.length_map, List.length_reverse]; simp only [List.length_cons] at hbd; omega, ?_⟩
          have kt6 : KT H5 (upd H5 ml (.lst (ns2.reverse.map nV ++ [V.int ((n : Nat) : Int)]))) := KT.lst hm5
          refine ⟨wm ps, by rw [wm_cons]; simp only [wm1]; omega, rs, ps, n :: ns2, Mt.pr ta tb :: ts', qs2, _, _, rfl, fun z o nz e => by rw [upd_ne (ne_of_none e nml)]; exact kl5 z o nz (kl4 z o nz e), ?_, (upd_ne (Ne.symm nmw)).trans (kl5 _ _ wlo hw4), wts_kt kt6 (wts_ks (hs4.ks kl5) hps4), mlsh hs5 kt6, hext.trans hx5, .cons hn5 (NsNm.ext hx5 hnn), hsem, rfl, by omega, by simp only [List.length_cons, wm1] at hbd ⊢; omega⟩
          rw [upd_same]
          simp [nV]
        · refine ⟨_, rfl, _, rfl, iteF ?_⟩
          obtain ⟨dxb, f1, g1, h1⟩ := hb.obj
          refine ⟨_, rfl, _, _, _, _, _, rfl, h1, T.cl, T.nZ, tf_size _ _ _, rfl, _, rfl, ?_⟩
          have hnl := Paired.length hnn
          rw [semN] at hsem
          cases hb with
          | nil h =>
            refine iteT ?_
            refine ⟨_, rfl, .inl ⟨rfl, _, SqL.of hm2⟩, ml, _, _, rfl, rfl, hm2, by rw [List.length_map, List.length_reverse]; omega, ?_⟩
            have kt6 : KT H2 (upd H2 ml (.lst (ns.reverse.map nV ++ [V.int 0]))) := KT.lst hm2
            refine ⟨wm ps, by rw [wm_cons]; simp only [wm1]; omega, rs, ps, 0 :: ns, Mt.nil :: ts, qs', _, _, rfl, fun z o nz e => by rw [upd_ne (ne_of_none e nml)]; exact kl2 z o nz e, ?_, (upd_ne (Ne.symm nmw)).trans hw2, wts_kt kt6 hps2, hs2.kl (As := [ml]) (KL.set (by simp)) (fun z => by
              have := List.mem_singleton.mp z
              subst this
              rw [hob] at nml
              cases nml) (fun z hz hz2 => mlo (by rw [← List.mem_singleton.mp hz2]; exact hz)) (TpS.kt kt6), hext, .cons (nm_nil _) hnn, hsem, rfl, by simp only [prN, Tr.size] at hlen ⊢; omega, by simp only [List.length_cons, wm1, Tr.size] at hbd ⊢; omega⟩
            rw [upd_same]
            simp [nV]
          | @pr _ dx' b1 c1 l r h hl hr' =>
            have ed : decide (V.int ((Tr.pr l r).size : Nat) = V.int 0) = false := by
              simp only [Tr.size, decide_eq_false_iff_not, V.int.injEq]
              omega
            rw [ed]
            refine iteF ?_
            have h2 := h
            have hwn : wl ≠ ml := Ne.symm nmw
            refine ⟨_, rfl, .inl ⟨rfl, _, SqL.of hw2⟩, _, rfl, _, _, _, _, _, rfl, h2, T.cl, T.nS, tf_second _ _ _, _, rfl, _, _, _, _, _, rfl, h2, T.cl, T.nF, tf_first _ _ _, (by show 3 ≤ sizeLine; decide), fun q nq => ?_⟩
            have nqw : wl ≠ q := ne_of_none hw2 nq
            have nqm : ml ≠ q := ne_of_none hm2 nq
            simp only [wm1, Tr.size] at hbd
            refine ⟨wl, q, _, _, rfl, rfl, (upd_ne nqw).trans hw2, upd_same, (by rw [List.length_reverse]; show rs.length + 3 ≤ sizeLine; omega), ?_⟩
            have k4 : KT H2 (upd (upd H2 q (.lst [.non, .ref c1, .ref b1])) wl (.lst (rs.reverse ++ [.non, .ref c1, .ref b1]))) := (KT.new nq).trans (KT.lst ((upd_ne nqw).trans hw2))
            refine ⟨wm (some l :: some r :: none :: ps), ?_, .ref b1 :: .ref c1 :: .non :: rs, some l :: some r :: none :: ps, ns, ts, qs', _, _, rfl, fun z o nz e => by rw [upd_ne (ne_of_none e hwl0)]; exact (Same.new nq) _ _ (kl2 z o nz e), (upd_ne nmw).trans ((upd_ne nqm).trans hm2), ?_,
              .cons (.inr ⟨b1, l, rfl, rfl, hl.kt k4⟩) (.cons (.inr ⟨c1, r, rfl, rfl, hr'.kt k4⟩) (.cons (.inl ⟨rfl, rfl⟩) (wts_kt k4 hps2))), ?_, hext, hnn, ?_, rfl, ?_, ?_⟩
            · rw [wm_cons, wm_cons, wm_cons, wm_cons]
              simp only [wm1, Tr.size]
              omega
            · rw [upd_same]
              simp
            · refine (hs2.same (Same.new nq (o := .lst [.non, .ref c1, .ref b1]))).kl (As := [wl]) (KL.set (by simp)) (fun z => ?_) (fun z hz hz2 => wlo (by rw [← List.mem_singleton.mp hz2]; exact hz)) (TpS.kt (KT.lst ((upd_ne nqw).trans hw2)))
              have := List.mem_singleton.mp z
              subst this
              rw [hob] at hwl0
              cases hwl0
            · rw [← hsem]
              simp only [semN, Tr.m]
            · simp only [prN, Tr.size] at hlen ⊢
              omega
            · rw [wm_cons, wm_cons, wm_cons]
              simp only [wm1]
              omega

end
end Js

set_option Elab.async false
set_option linter.all false
set_option maxRecDepth 100000
set_option maxHeartbeats 2000000
namespace Js
open PySem L2
open PySem.Spec PyProof.Rows
abbrev sWkI : Stmt := inClass (top 49) 0
abbrev sNumM : Stmt := top 53
abbrev sGoOn : Stmt := top 52
mutual
theorem DAt_ks {K : PySem.W.Frag} {C : Addr} {H H' : Hp} (k : KS H H') : ∀ (d : Dd) (v : V), DAt K C H v d → DAt K C H' v d
  | .told a t, v, h => by
    obtain ⟨p, x, e, h1, h2, h3, h4⟩ := h
    exact ⟨p, x, e, sqt_ks k h1, h2, h3.ks k, h4⟩
  | .take s a b, v, h => by
    obtain ⟨p, e, h1, h2⟩ := h
    exact ⟨p, e, sqt_ks k h1, h2⟩
  | .two s a b c, v, h => by
    obtain ⟨p, e, h1, h2⟩ := h
    exact ⟨p, e, sqt_ks k h1, h2⟩
  | .wh a r, v, h => by
    obtain ⟨p, q, vs, e, h1, h2, h3, h4⟩ := h
    exact ⟨p, q, vs, e, sqt_ks k h1, h2, sqt_ks k h3, DsAt_ks k r vs h4⟩
  | .iff a r o, v, h => by
    obtain ⟨p, q, vs, q2, vs2, e, h1, h2, h3, h4, h5, h6⟩ := h
    exact ⟨p, q, vs, q2, vs2, e, sqt_ks k h1, h2, sqt_ks k h3, DsAt_ks k r vs h4, sqt_ks k h5, DsAt_ks k o vs2 h6⟩
theorem DsAt_ks {K : PySem.W.Frag} {C : Addr} {H H' : Hp} (k : KS H H') : ∀ (r : List Dd) (vs : List V), DsAt K C H vs r → DsAt K C H' vs r
  | [], vs, h => h
  | d :: r, vs, h => by
    obtain ⟨v, us, e, h1, h2⟩ := h
    exact ⟨v, us, e, DAt_ks k d v h1, DsAt_ks k r us h2⟩
end
theorem pls_ks {K : PySem.W.Frag} {C : Addr} {H H' : Hp} (k : KS H H') : ∀ {ys : List V} {ps : List (Dd × List Nat)}, Paired (PlE K C H) ys ps → Paired (PlE K C H') ys ps
  | _, _, .nil => .nil
  | _, _, .cons ⟨t, wv, dv, e, h1, h2, h3⟩ u => .cons ⟨t, wv, dv, e, k _ _ trivial h1, k _ _ trivial h2, DAt_ks k _ _ h3⟩ (pls_ks k u)
theorem kb_free {p x : Addr} {H H' : Hp} (k : KB p H H') (n : x ≠ p) (h : H' x = none) : H x = none := by
  cases e : H x with
  | none => rfl
  | some o => rw [k x o n e] at h; cases h
theorem lenb (fs : List (Str × V)) {n : Nat} (h : fs.length ≤ n) (hn : n ≤ 900 := by decide) : fs.length < 1000 := by omega
theorem lt64 {a b : Nat} (h : a + 64 < b) : a + 1 < b := by omega
structure WkA where
  pl : Addr
  sh : Addr
  dt : Addr
  ln : Addr
  s : Sh5
def wkF (z : WkA) (pt : Int) : List (Str × V) := [("plan", .ref z.pl), ("shelf", .ref z.sh), ("tellings", .ref z.dt), ("point", .int pt), ("names", .ref z.ln)]
theorem wk_put (z : WkA) (pt i : Int) : putF "point" (.int i) (wkF z pt) = wkF z i := by
  unfold wkF
  rw [putF, if_neg (by decide +kernel), putF, if_neg (by decide +kernel), putF, if_neg (by decide +kernel), putF, if_pos rfl]
theorem wk_made (z : WkA) : putF "names" (.ref z.ln) (putF "point" (.int 0) (putF "tellings" (.ref z.dt) (putF "shelf" (.ref z.sh) (putF "plan" (.ref z.pl) [])))) = wkF z 0 := by
  have e1 : putF "shelf" (.ref z.sh) (putF "plan" (.ref z.pl) []) = ([("plan", V.ref z.pl), ("shelf", .ref z.sh)] : List (Str × V)) := by
    rw [putF, putF, if_neg (by decide +kernel), putF]
  have e2 : putF "tellings" (.ref z.dt) ([("plan", V.ref z.pl), ("shelf", .ref z.sh)] : List (Str × V)) = ([("plan", V.ref z.pl), ("shelf", .ref z.sh), ("tellings", .ref z.dt)] : List (Str × V)) := by
    rw [putF, if_neg (by decide +kernel), putF, if_neg (by decide +kernel), putF]
  have e3 : putF "point" (.int 0) ([("plan", V.ref z.pl), ("shelf", .ref z.sh), ("tellings", .ref z.dt)] : List (Str × V)) = ([("plan", V.ref z.pl), ("shelf", .ref z.sh), ("tellings", .ref z.dt), ("point", .int 0)] : List (Str × V)) := by
    rw [putF, if_neg (by decide +kernel), putF, if_neg (by decide +kernel), putF, if_neg (by decide +kernel), putF]
  rw [e1, e2, e3, putF, if_neg (by decide +kernel), putF, if_neg (by decide +kernel), putF, if_neg (by decide +kernel), putF, if_neg (by decide +kernel), putF]
  rfl
theorem lk_hit {k : Str} {v : V} {r : List (Str × V)} : List.lookup k ((k, v) :: r) = some v := by simp [List.lookup]
theorem lk_miss {k g : Str} {v : V} {r : List (Str × V)} (h : ¬ k = g) : List.lookup k ((g, v) :: r) = List.lookup k r := by
  have hb : (k == g) = false := by
    cases e : k == g with
    | false => rfl
    | true => exact absurd (beq_iff_eq.mp e) h
  simp only [List.lookup, hb]
theorem wkf_plan (z : WkA) (pt : Int) : (wkF z pt).lookup ("plan" : Str) = some (.ref z.pl) := lk_hit
theorem wkf_shelf (z : WkA) (pt : Int) : (wkF z pt).lookup ("shelf" : Str) = some (.ref z.sh) := (lk_miss (by decide +kernel)).trans lk_hit
theorem wkf_tellings (z : WkA) (pt : Int) : (wkF z pt).lookup ("tellings" : Str) = some (.ref z.dt) := (lk_miss (by decide +kernel)).trans ((lk_miss (by decide +kernel)).trans lk_hit)
theorem wkf_point (z : WkA) (pt : Int) : (wkF z pt).lookup ("point" : Str) = some (.int pt) := (lk_miss (by decide +kernel)).trans ((lk_miss (by decide +kernel)).trans ((lk_miss (by decide +kernel)).trans lk_hit))
theorem wkf_names (z : WkA) (pt : Int) : (wkF z pt).lookup ("names" : Str) = some (.ref z.ln) := (lk_miss (by decide +kernel)).trans ((lk_miss (by decide +kernel)).trans ((lk_miss (by decide +kernel)).trans ((lk_miss (by decide +kernel)).trans lk_hit)))
structure TxtWk (K : PySem.W.Frag) (mg : Str → Option Value) (W : Addr) : Prop where
  cl : Cls K W
  nL : NoAttr K W "plan"
  nS : NoAttr K W "shelf"
  nT : NoAttr K W "tellings"
  nP : NoAttr K W "point"
  nN : NoAttr K W "names"
  mgW : mg "Walk" = some (.ref W)
abbrev Tls := List (L2.Key × V)
/-- how many points aren't told yet -/
def cntT (tl : Tls) (n : Nat) : Nat := ((List.range n).filter fun p => (valV tl (.inl ((p : Nat) : Int))).isNone).length
theorem filter_lt {α : Type} {f g : α → Bool} : ∀ {l : List α} {x : α}, x ∈ l → f x = true → g x = false → (∀ y, g y = true → f y = true) → (l.filter g).length < (l.filter f).length
  | a :: l, x, hx, hf, hg, hi => by
    have mono : ∀ l : List α, (l.filter g).length ≤ (l.filter f).length := by
      intro l
      induction l with
      | nil => exact Nat.le_refl _
      | cons b l ih =>
        cases eg : g b with
        | true => rw [List.filter_cons_of_pos eg, List.filter_cons_of_pos (hi b eg), List.length_cons, List.length_cons]; omega
        | false =>
          rw [List.filter_cons_of_neg (by rw [eg]; exact Bool.false_ne_true)]
          cases ef : f b with
          | true => rw [List.filter_cons_of_pos ef, List.length_cons]; omega
          | false => rw [List.filter_cons_of_neg (by rw [ef]; exact Bool.false_ne_true)]; exact ih
    rcases List.mem_cons.mp hx with rfl | hx
    · rw [List.filter_cons_of_neg (by rw [hg]; exact Bool.false_ne_true), List.filter_cons_of_pos hf, List.length_cons]
      have := mono l
      omega
    · have ih := filter_lt hx hf hg hi
      cases eg : g a with
      | true => rw [List.filter_cons_of_pos eg, List.filter_cons_of_pos (hi a eg), List.length_cons, List.length_cons]; omega
      | false =>
        rw [List.filter_cons_of_neg (by rw [eg]; exact Bool.false_ne_true)]
        cases ef : f a with
        | true => rw [List.filter_cons_of_pos ef, List.length_cons]; omega
        | false => rw [List.filter_cons_of_neg (by rw [ef]; exact Bool.false_ne_true)]; exact ih
theorem cntT_put {tl : Tls} {n p : Nat} {v : V} (hp : p < n) (h : valV tl (.inl ((p : Nat) : Int)) = none) : cntT (putK tl (.inl ((p : Nat) : Int)) v) n + 1 ≤ cntT tl n := by
  refine filter_lt (x := p) (List.mem_range.mpr hp) (by show (valV tl (.inl ((p : Nat) : Int))).isNone = true; rw [h]; rfl) (by show (valV (putK tl (.inl ((p : Nat) : Int)) v) (.inl ((p : Nat) : Int))).isNone = false; rw [valV_put, if_pos rfl]; rfl) (fun y hy => ?_)
  rw [valV_put] at hy
  split at hy
  · cases hy
  · exact hy
/-- what was told, by points -/
def TelOk (pl : List Pt) (qs : Nps) (tl : Tls) : Prop := ∀ (p : Nat) v, valV tl (.inl ((p : Nat) : Int)) = some v → ∃ (n : Nat) (a : Nat) (t : Tr) (x : Pt), pl[p]? = some x ∧ x.1 = .told a t ∧ v = nV n ∧ NmOk qs n t.m
theorem TelOk.ext {pl : List Pt} {qs qs' : Nps} {tl : Tls} (h : TelOk pl qs tl) (e : NExt qs qs') : TelOk pl qs' tl := fun p v hv => by
  obtain ⟨n, a, t, x, h1, h2, h3, h4⟩ := h p v hv
  exact ⟨n, a, t, x, h1, h2, h3, h4.ext e⟩
structure WkAt (P : Program) (w : World) (K : PySem.W.Frag) (C S W : Addr) (H : Hp) (wk : Addr) (z : WkA) (pl : List Pt) (qs : Nps) (pt : Nat) (ns : List Nat) (ts : List Mt) (tl : Tls) : Prop where
  ob : ∃ dx, H wk = some (.ins W dx (wkF z ((pt : Nat) : Int)))
  plan : ∃ ys, H z.pl = some (.tup ys) ∧ Paired (PlE K C H) ys pl
  she : ShAt P w K S H z.sh z.s qs
  nms : H z.ln = some (.lst (ns.map nV))
  nn : NsNm qs ns ts
  n10 : ns.length = 10
  tel : H z.dt = some (.dK tl)
  tok : TelOk pl qs tl
  tll : tl.length ≤ 100000
  out : z.ln ∉ A5 z.s
theorem WkAt.same {P : Program} {w : World} {K : PySem.W.Frag} {C S W : Addr} {H H' : Hp} {wk : Addr} {z : WkA} {pl : List Pt} {qs : Nps} {pt : Nat} {ns : List Nat} {ts : List Mt} {tl : Tls} (h : WkAt P w K C S W H wk z pl qs pt ns ts tl) (k : Same H H') : WkAt P w K C S W H' wk z pl qs pt ns ts tl :=
  ⟨let ⟨dx, e⟩ := h.ob; ⟨dx, k _ _ e⟩, let ⟨ys, e, p⟩ := h.plan; ⟨ys, k _ _ e, pls_kt (KT.of k) p⟩, h.she.same k, k _ _ h.nms, h.nn, h.n10, k _ _ h.tel, h.tok, h.tll, h.out⟩
/-- what a step changes -/
def AW (wk : Addr) (z : WkA) : List Addr := wk :: z.ln :: z.dt :: A5 z.s
def spNumM (P : Program) (w : World) (K : PySem.W.Frag) (C S W N : Addr) : Sp := fun vs H Q E => ∃ (wk : Addr) (dv : V) (z : WkA) (pl : List Pt) (qs : Nps) (pt : Nat) (ns : List Nat) (ts : List Mt) (tl : Tls) (x : Pt), vs = [.ref wk, dv] ∧ WkAt P w K C S W H wk z pl qs pt ns ts tl ∧ pl[pt]? = some x ∧ DAt K C H dv x.1 ∧ x.1.look = false ∧ qs.length + 4000 * cntT tl pl.length < 14900000 ∧ tl.length + cntT tl pl.length < 100000 ∧
  (x.1.grtM ts = false → ∀ qs' tl' (n : Nat) H', NExt qs qs' → qs'.length + 4000 * cntT tl' pl.length ≤ qs.length + 4000 * cntT tl pl.length + 1 → tl'.length + cntT tl' pl.length ≤ tl.length + cntT tl pl.length → NmOk qs' n (x.1.madeM ts) → KL (z.dt :: A5 z.s) H H' → WkAt P w K C S W H' wk z pl qs' pt ns ts tl' → Q (.int (n : Nat)) H') ∧
  (x.1.grtM ts = true → ∀ dd H', Same H H' → H' dd = some (.xd bndX) → E (.ref N) (some dd) H')
def spGoOn (P : Program) (w : World) (K : PySem.W.Frag) (C S W N : Addr) : Sp := fun vs H Q E => ∃ (wk : Addr) (z : WkA) (pl : List Pt) (qs : Nps) (pt : Nat) (ns : List Nat) (ts : List Mt) (tl : Tls) (x : Pt), vs = [.ref wk] ∧ WkAt P w K C S W H wk z pl qs pt ns ts tl ∧ pl[pt]? = some x ∧ x.2.length = (if x.1.look then 2 else 1) ∧ qs.length + 4000 * cntT tl pl.length < 14900000 ∧ tl.length + cntT tl pl.length < 100000 ∧
  (x.1.grtM ts = false → ∀ qs' tl' (ns' : List Nat) H', NExt qs qs' → qs'.length + 4000 * cntT tl' pl.length ≤ qs.length + 4000 * cntT tl pl.length + 1 → tl'.length + cntT tl' pl.length ≤ tl.length + cntT tl pl.length → KL (AW wk z) H H' → WkAt P w K C S W H' wk z pl qs' (stepPM x ts) ns' (stepNM x ts) tl' → Q .non H') ∧
  (x.1.grtM ts = true → ∀ dd H', Same H H' → H' dd = some (.xd bndX) → E (.ref N) (some dd) H')
def spWkI (P : Program) (w : World) (K : PySem.W.Frag) (C CP S W : Addr) : Sp := fun vs H Q _ => ∃ (p dx a sh : Addr) (n : Nat) (s : Sh5) (qs : Nps) (r : List Dd) (t : Mt), vs = [.ref p, .ref a, .ref sh, .int (n : Nat)] ∧ H p = some (.ins W dx []) ∧ PgAt K C CP H a r ∧ ShAt P w K S H sh s qs ∧ NmOk qs n t ∧ sh ≠ p ∧
  ∀ z H', z.sh = sh → z.s = s → KB p H H' → H z.ln = none → H z.dt = none → WkAt P w K C S W H' p z (planR r) qs 0 (n :: List.replicate 9 0) (t :: List.replicate 9 .nil) [] → Q .non H'
/-- what stands beside an object of this class -/
theorem rep0 (qs : Nps) : ∀ n : Nat, NsNm qs (List.replicate n 0) (List.replicate n .nil)
  | 0 => .nil
  | n + 1 => .cons (nm_nil qs) (rep0 qs n)
theorem outN {P : Program} {w : World} {K : PySem.W.Frag} {S : Addr} {H : Hp} {sh : Addr} {s : Sh5} {qs : Nps} (h : ShAt P w K S H sh s qs) {x : Addr} (hx : H x = none) : x ∉ A5 s := by
  obtain ⟨φ, hφ⟩ := h.pd.ext
  intro hm
  simp only [A5, List.mem_cons, List.not_mem_nil, or_false] at hm
  rcases hm with rfl | rfl | rfl | rfl | rfl
  · rw [h.hs] at hx; cases hx
  · rw [h.tl] at hx; cases hx
  · rw [h.sz] at hx; cases hx
  · rw [h.mr] at hx; cases hx
  · rw [hφ] at hx; cases hx
theorem ns_get {qs : Nps} {ns : List Nat} {ts : List Mt} (h : NsNm qs ns ts) (h10 : ns.length = 10) {a : Nat} (ha : a < 10) : ∃ n, (ns.map nV)[a]? = some (nV n) ∧ NmOk qs n (nmM ts a) := by
  obtain ⟨t, e, ht⟩ := paired_get h (List.getElem?_eq_getElem (show a < ns.length by omega))
  refine ⟨ns[a]'(by omega), by rw [List.getElem?_map, List.getElem?_eq_getElem (show a < ns.length by omega)]; rfl, ?_⟩
  rw [nmM, List.getD_eq_getElem?_getD, e]
  exact ht
section
variable {P : Program} {w : World} {K : PySem.W.Frag} {mg : Str → Option Value} {base : Heap} {C CP S W N fP fT fM : Addr} {fdP fdT fdM : FuncData}
theorem scWkI : FnScope ["self", "program", "shelf", "first"] ["self", "program", "shelf", "first"] (defScope sWkI) := ⟨rfl, rfl, rfl, by decide +kernel, rfl, by decide +kernel, by decide +kernel⟩
theorem scNm : FnScope ["walk", "deed", "kind", "one", "other"] ["walk", "deed"] (defScope sNumM) := ⟨rfl, rfl, rfl, by decide +kernel, rfl, by decide +kernel, by decide +kernel⟩
theorem scGo : FnScope ["walk", "deed", "ways", "name"] ["walk"] (defScope sGoOn) := ⟨rfl, rfl, rfl, by decide +kernel, rfl, by decide +kernel, by decide +kernel⟩
theorem ok_shI {tz tm : Tok} {f : Addr} {fd : FuncData} (F : Fun K "__init__" "Shelf.__init__" sShI f fd) (TH : TxtSh K mg S) (mNil : mg "NIL" = some (.int 0 tz)) (mMark : mg "MARK" = some (.int 1 tm)) : FnOk P w K mg base CX0 1 f fd ["self"] (spShI P w K S) := by
  refine F.ok scShI (fun vs H Q E h => ?_) (fun cdv A outer s H vs Q E hr h => ?_)
  · obtain ⟨p, dx, rfl, _⟩ := h
    rfl
  · obtain ⟨p, dx, rfl, hp, k⟩ := h
    refine ⟨_, pss_cons (ps_fld (pv 0) (pe_lst (pa_cons (pe_glob (v := .int 0) rfl mNil ⟨_, rfl⟩) (pa_cons (pe_glob (v := .int 1) rfl mMark ⟨_, rfl⟩) pa_nil))) rfl) (pss_cons (ps_fld (pv 0) (pe_lst (pa_cons (pe_glob (v := .int 0) rfl mNil ⟨_, rfl⟩) (pa_cons (pe_glob (v := .int 1) rfl mMark ⟨_, rfl⟩) pa_nil))) rfl) (pss_cons (ps_fld (pv 0) (pe_lst (pa_cons pe_int (pa_cons pe_int pa_nil))) rfl) (pss_cons (ps_fld (pv 0) (pe_lst (pa_cons pe_bl (pa_cons pe_bl pa_nil))) rfl) (pss_one (ps_fld (pv 0) pe_knew rfl))))), ?_⟩
    refine ⟨by show 2 ≤ sizeLine; decide, fun T0 nT0 => ?_⟩
    have s0 := Same.new nT0 (o := .lst [V.int 0, .int 1])
    have e0 : (upd H T0 (.lst [V.int 0, .int 1])) T0 = some (.lst [V.int 0, .int 1]) := upd_same
    revert s0 e0
    generalize upd H T0 (.lst [V.int 0, .int 1]) = A0
    intro s0 e0
    have ne0 : T0 ≠ p := Ne.symm (ne_of_none hp nT0)
    have f0 : H T0 = none := kb_free (KB.refl p H) ne0 nT0
    refine ⟨_, rfl, p, S, dx, [], rfl, s0 _ _ hp, TH.cl, TH.nH, (lenb (n := 0) _ (Nat.le_refl _)), ?_⟩
    have hp0 : (upd A0 p (.ins S dx (putF "heads" (.ref T0) []))) p = some (.ins S dx (putF "heads" (.ref T0) [])) := upd_same
    have kb0 : KB p H (upd A0 p (.ins S dx (putF "heads" (.ref T0) []))) := ((KB.refl p H).trans (KB.of s0)).trans KB.set
    have g0_0 : (upd A0 p (.ins S dx (putF "heads" (.ref T0) []))) T0 = _ := (upd_ne ne0).trans e0
    revert hp0 kb0 g0_0
    generalize upd A0 p (.ins S dx (putF "heads" (.ref T0) [])) = B0
    intro hp0 kb0 g0_0
    refine ⟨by show 2 ≤ sizeLine; decide, fun T1 nT1 => ?_⟩
    have s1 := Same.new nT1 (o := .lst [V.int 0, .int 1])
    have e1 : (upd B0 T1 (.lst [V.int 0, .int 1])) T1 = some (.lst [V.int 0, .int 1]) := upd_same
    revert s1 e1
    generalize upd B0 T1 (.lst [V.int 0, .int 1]) = A1
    intro s1 e1
    have ne1 : T1 ≠ p := Ne.symm (ne_of_none hp0 nT1)
    have f1 : H T1 = none := kb_free kb0 ne1 nT1
    refine ⟨_, rfl, p, S, dx, (putF "heads" (.ref T0) []), rfl, s1 _ _ hp0, TH.cl, TH.nT, (lenb (n := 1) _ (Nat.le_trans (length_putF _ _ _) (Nat.succ_le_succ (Nat.le_refl _)))), ?_⟩
    have hp1 : (upd A1 p (.ins S dx (putF "tails" (.ref T1) (putF "heads" (.ref T0) [])))) p = some (.ins S dx (putF "tails" (.ref T1) (putF "heads" (.ref T0) []))) := upd_same
    have kb1 : KB p H (upd A1 p (.ins S dx (putF "tails" (.ref T1) (putF "heads" (.ref T0) [])))) := (kb0.trans (KB.of s1)).trans KB.set
    have g1_0 : (upd A1 p (.ins S dx (putF "tails" (.ref T1) (putF "heads" (.ref T0) [])))) T0 = _ := (upd_ne ne0).trans (s1 _ _ g0_0)
    have g1_1 : (upd A1 p (.ins S dx (putF "tails" (.ref T1) (putF "heads" (.ref T0) [])))) T1 = _ := (upd_ne ne1).trans e1
    revert hp1 kb1 g1_0 g1_1
    generalize upd A1 p (.ins S dx (putF "tails" (.ref T1) (putF "heads" (.ref T0) []))) = B1
    intro hp1 kb1 g1_0 g1_1
    refine ⟨by show 2 ≤ sizeLine; decide, fun T2 nT2 => ?_⟩
    have s2 := Same.new nT2 (o := .lst [V.int 0, .int 0])
    have e2 : (upd B1 T2 (.lst [V.int 0, .int 0])) T2 = some (.lst [V.int 0, .int 0]) := upd_same
    revert s2 e2
    generalize upd B1 T2 (.lst [V.int 0, .int 0]) = A2
    intro s2 e2
    have ne2 : T2 ≠ p := Ne.symm (ne_of_none hp1 nT2)
    have f2 : H T2 = none := kb_free kb1 ne2 nT2
    refine ⟨_, rfl, p, S, dx, (putF "tails" (.ref T1) (putF "heads" (.ref T0) [])), rfl, s2 _ _ hp1, TH.cl, TH.nZ, (lenb (n := 2) _ (Nat.le_trans (length_putF _ _ _) (Nat.succ_le_succ (Nat.le_trans (length_putF _ _ _) (Nat.succ_le_succ (Nat.le_refl _)))))), ?_⟩
    have hp2 : (upd A2 p (.ins S dx (putF "sizes" (.ref T2) (putF "tails" (.ref T1) (putF "heads" (.ref T0) []))))) p = some (.ins S dx (putF "sizes" (.ref T2) (putF "tails" (.ref T1) (putF "heads" (.ref T0) [])))) := upd_same
    have kb2 : KB p H (upd A2 p (.ins S dx (putF "sizes" (.ref T2) (putF "tails" (.ref T1) (putF "heads" (.ref T0) []))))) := (kb1.trans (KB.of s2)).trans KB.set
    have g2_0 : (upd A2 p (.ins S dx (putF "sizes" (.ref T2) (putF "tails" (.ref T1) (putF "heads" (.ref T0) []))))) T0 = _ := (upd_ne ne0).trans (s2 _ _ g1_0)
    have g2_1 : (upd A2 p (.ins S dx (putF "sizes" (.ref T2) (putF "tails" (.ref T1) (putF "heads" (.ref T0) []))))) T1 = _ := (upd_ne ne1).trans (s2 _ _ g1_1)
    have g2_2 : (upd A2 p (.ins S dx (putF "sizes" (.ref T2) (putF "tails" (.ref T1) (putF "heads" (.ref T0) []))))) T2 = _ := (upd_ne ne2).trans e2
    revert hp2 kb2 g2_0 g2_1 g2_2
    generalize upd A2 p (.ins S dx (putF "sizes" (.ref T2) (putF "tails" (.ref T1) (putF "heads" (.ref T0) [])))) = B2
    intro hp2 kb2 g2_0 g2_1 g2_2
    refine ⟨by show 2 ≤ sizeLine; decide, fun T3 nT3 => ?_⟩
    have s3 := Same.new nT3 (o := .lst [V.bl false, .bl true])
    have e3 : (upd B2 T3 (.lst [V.bl false, .bl true])) T3 = some (.lst [V.bl false, .bl true]) := upd_same
    revert s3 e3
    generalize upd B2 T3 (.lst [V.bl false, .bl true]) = A3
    intro s3 e3
    have ne3 : T3 ≠ p := Ne.symm (ne_of_none hp2 nT3)
    have f3 : H T3 = none := kb_free kb2 ne3 nT3
    refine ⟨_, rfl, p, S, dx, (putF "sizes" (.ref T2) (putF "tails" (.ref T1) (putF "heads" (.ref T0) []))), rfl, s3 _ _ hp2, TH.cl, TH.nM, (lenb (n := 3) _ (Nat.le_trans (length_putF _ _ _) (Nat.succ_le_succ (Nat.le_trans (length_putF _ _ _) (Nat.succ_le_succ (Nat.le_trans (length_putF _ _ _) (Nat.succ_le_succ (Nat.le_refl _)))))))), ?_⟩
    have hp3 : (upd A3 p (.ins S dx (putF "marked" (.ref T3) (putF "sizes" (.ref T2) (putF "tails" (.ref T1) (putF "heads" (.ref T0) [])))))) p = some (.ins S dx (putF "marked" (.ref T3) (putF "sizes" (.ref T2) (putF "tails" (.ref T1) (putF "heads" (.ref T0) []))))) := upd_same
    have kb3 : KB p H (upd A3 p (.ins S dx (putF "marked" (.ref T3) (putF "sizes" (.ref T2) (putF "tails" (.ref T1) (putF "heads" (.ref T0) [])))))) := (kb2.trans (KB.of s3)).trans KB.set
    have g3_0 : (upd A3 p (.ins S dx (putF "marked" (.ref T3) (putF "sizes" (.ref T2) (putF "tails" (.ref T1) (putF "heads" (.ref T0) [])))))) T0 = _ := (upd_ne ne0).trans (s3 _ _ g2_0)
    have g3_1 : (upd A3 p (.ins S dx (putF "marked" (.ref T3) (putF "sizes" (.ref T2) (putF "tails" (.ref T1) (putF "heads" (.ref T0) [])))))) T1 = _ := (upd_ne ne1).trans (s3 _ _ g2_1)
    have g3_2 : (upd A3 p (.ins S dx (putF "marked" (.ref T3) (putF "sizes" (.ref T2) (putF "tails" (.ref T1) (putF "heads" (.ref T0) [])))))) T2 = _ := (upd_ne ne2).trans (s3 _ _ g2_2)
    have g3_3 : (upd A3 p (.ins S dx (putF "marked" (.ref T3) (putF "sizes" (.ref T2) (putF "tails" (.ref T1) (putF "heads" (.ref T0) [])))))) T3 = _ := (upd_ne ne3).trans e3
    revert hp3 kb3 g3_0 g3_1 g3_2 g3_3
    generalize upd A3 p (.ins S dx (putF "marked" (.ref T3) (putF "sizes" (.ref T2) (putF "tails" (.ref T1) (putF "heads" (.ref T0) []))))) = B3
    intro hp3 kb3 g3_0 g3_1 g3_2 g3_3
    refine fun T4 ob nT4 hd4 => ?_
    have ne4 : T4 ≠ p := Ne.symm (ne_of_none hp3 nT4)
    have f4 : H T4 = none := kb_free kb3 ne4 nT4
    have s4 := Same.new nT4 (o := ob)
    revert s4 hd4
    generalize upd B3 T4 ob = A4
    intro hd4 s4
    refine ⟨_, rfl, p, S, dx, _, rfl, s4 _ _ hp3, TH.cl, TH.nP, lenb (n := 4) _ (Nat.le_trans (length_putF _ _ _) (Nat.succ_le_succ (Nat.le_trans (length_putF _ _ _) (Nat.succ_le_succ (Nat.le_trans (length_putF _ _ _) (Nat.succ_le_succ (Nat.le_trans (length_putF _ _ _) (Nat.succ_le_succ (Nat.le_refl _))))))))), ?_⟩
    have up : ∀ {z : Addr} {o : HO}, z ≠ p → B3 z = some o → (upd A4 p (.ins S dx (shF ⟨T0, T1, T2, T3, T4⟩))) z = some o := fun nz h => (upd_ne nz).trans (s4 _ _ h)
    obtain ⟨φ, hφ⟩ := hd4.ext
    refine k ⟨T0, T1, T2, T3, T4⟩ _ ((kb3.trans (KB.of s4)).trans KB.set) ⟨⟨dx, upd_same⟩, up ne0 g3_0, up ne1 g3_1, up ne2 g3_2, up ne3 g3_3, ?_, trivial, ?_, ?_, ?_, ?_, ?_, ?_⟩ ?_
    · exact hd4.fr (fun o h => (upd_ne ne4).trans h) (fun a xs h => by
        rcases h with (h | ⟨q, h⟩) | h
        · exact .inl (.inl ((upd_ne (ne_of h (s4 _ _ hp3) (fun e => nomatch e))).trans h))
        · exact .inl (.inr ⟨q, (upd_ne (ne_of h (s4 _ _ hp3) (fun e => nomatch e))).trans h⟩)
        · exact .inr h)
    · exact ne_of_none (g0_0) nT1
    · exact ne_of_none (g1_0) nT2
    · exact ne_of_none (g2_0) nT3
    · exact ne_of_none (g1_1) nT2
    · exact ne_of_none (g2_1) nT3
    · exact ne_of_none (g2_2) nT3
    · intro x hx
      simp only [A5, List.mem_cons, List.not_mem_nil, or_false] at hx
      rcases hx with rfl | rfl | rfl | rfl | rfl
      · exact f0
      · exact f1
      · exact f2
      · exact f3
      · exact f4
theorem ok_wkI {tz tn : Tok} {f : Addr} {fd : FuncData} (F : Fun K "__init__" "Walk.__init__" sWkI f fd) (TP : TxtP K mg CP) (TW : TxtWk K mg W) (mNil : mg "NIL" = some (.int 0 tz)) (mMn : mg "MANY_NAMES" = some (.int 10 tn)) : FnOk P w K mg base CX0 1 f fd ["self", "program", "shelf", "first"] (spWkI P w K C CP S W) := by
  refine F.ok scWkI (fun vs H Q E h => ?_) (fun cdv A outer s H vs Q E hr h => ?_)
  · obtain ⟨p, dx, a, sh, n, s, qs, r, t, rfl, _⟩ := h
    rfl
  · obtain ⟨p, dx, a, sh, n, s, qs, r, t, rfl, hp, ha, hsh, hn, hshp, k⟩ := h
    refine ⟨_, pss_cons (ps_fld (pv 0) (pe_fld (pv 1) rfl) rfl) (pss_cons (ps_fld (pv 0) (pv 2) rfl) (pss_cons (ps_fld (pv 0) pe_dnewK rfl) (pss_cons (ps_fld (pv 0) pe_int rfl) (pss_one (ps_fld (pv 0) (pe_op op_cat (pe_lst (pa_cons (pv 3) pa_nil)) (pe_op op_rep (pe_lst (pa_cons (pe_glob (v := .int 0) rfl mNil ⟨_, rfl⟩) pa_nil)) (pe_op op_sub (pe_glob (v := .int 10) rfl mMn ⟨_, rfl⟩) pe_int))) rfl))))), ?_⟩
    have hsl := line4
    obtain ⟨dxa, q, pl, ys, h1, h2, h3, h4⟩ := id ha.ex
    have nap : ∀ {z : Addr} {o : HO}, H z = some o → (∀ fs, o ≠ .ins W dx fs) → z ≠ p := fun hz ho e => by
      subst e
      rw [hp] at hz
      exact ho _ (Option.some.inj hz).symm
    have pap : pl ≠ p := nap h3 (fun _ e => nomatch e)
    have pA5 : p ∉ A5 s := hsh.out hp (fun _ e => nomatch e) (fun _ e => nomatch e)
    refine ⟨_, rfl, _, _, _, _, _, rfl, h1, TP.cl, TP.nP, pf_plan _ _, _, rfl, p, W, dx, [], rfl, hp, TW.cl, TW.nL, (lenb (n := 0) _ (Nat.le_refl _)), ?_⟩
    refine ⟨_, rfl, _, rfl, p, W, dx, (putF "plan" (.ref pl) []), rfl, upd_same, TW.cl, TW.nS, (lenb (n := 1) _ (Nat.le_trans (length_putF _ _ _) (Nat.succ_le_succ (Nat.le_refl _)))), ?_⟩
    rw [upd_upd]
    have k2 : KB p H (upd H p (.ins W dx (putF "shelf" (.ref sh) (putF "plan" (.ref pl) [])))) := KB.set
    have p2 : (upd H p (.ins W dx (putF "shelf" (.ref sh) (putF "plan" (.ref pl) [])))) p = some (.ins W dx (putF "shelf" (.ref sh) (putF "plan" (.ref pl) []))) := upd_same
    revert k2 p2
    generalize upd H p (.ins W dx (putF "shelf" (.ref sh) (putF "plan" (.ref pl) []))) = H2
    intro k2 p2
    refine fun dt ndt => ?_
    have dtp : dt ≠ p := Ne.symm (ne_of_none p2 ndt)
    have f3 : H dt = none := kb_free k2 dtp ndt
    have s3 := Same.new ndt (o := .dK [])
    have e3 : (upd H2 dt (.dK [])) dt = some (.dK []) := upd_same
    revert s3 e3
    generalize upd H2 dt (.dK []) = H3
    intro s3 e3
    refine ⟨_, rfl, p, W, dx, _, rfl, s3 _ _ p2, TW.cl, TW.nT, (lenb (n := 2) _ (Nat.le_trans (length_putF _ _ _) (Nat.succ_le_succ (Nat.le_trans (length_putF _ _ _) (Nat.succ_le_succ (Nat.le_refl _)))))), ?_⟩
    refine ⟨_, rfl, p, W, dx, _, rfl, upd_same, TW.cl, TW.nP, (lenb (n := 3) _ (Nat.le_trans (length_putF _ _ _) (Nat.succ_le_succ (Nat.le_trans (length_putF _ _ _) (Nat.succ_le_succ (Nat.le_trans (length_putF _ _ _) (Nat.succ_le_succ (Nat.le_refl _)))))))), ?_⟩
    rw [upd_upd]
    have k4 : KB p H (upd H3 p (.ins W dx (putF "point" (.int 0) (putF "tellings" (.ref dt) (putF "shelf" (.ref sh) (putF "plan" (.ref pl) [])))))) := (k2.trans (KB.of s3)).trans KB.set
    have p4 : (upd H3 p (.ins W dx (putF "point" (.int 0) (putF "tellings" (.ref dt) (putF "shelf" (.ref sh) (putF "plan" (.ref pl) [])))))) p = some (.ins W dx (putF "point" (.int 0) (putF "tellings" (.ref dt) (putF "shelf" (.ref sh) (putF "plan" (.ref pl) []))))) := upd_same
    have e4 : (upd H3 p (.ins W dx (putF "point" (.int 0) (putF "tellings" (.ref dt) (putF "shelf" (.ref sh) (putF "plan" (.ref pl) [])))))) dt = some (.dK []) := (upd_ne dtp).trans e3
    revert k4 p4 e4
    generalize upd H3 p (.ins W dx (putF "point" (.int 0) (putF "tellings" (.ref dt) (putF "shelf" (.ref sh) (putF "plan" (.ref pl) []))))) = H4
    intro k4 p4 e4
    refine ⟨_, rfl, ?_⟩
    refine ⟨by show 1 ≤ sizeLine; decide, fun L1 nL1 => ?_⟩
    have s5 := Same.new nL1 (o := .lst [V.int ((n : Nat) : Int)])
    have e5 : (upd H4 L1 (.lst [V.int ((n : Nat) : Int)])) L1 = some (.lst [V.int ((n : Nat) : Int)]) := upd_same
    revert s5 e5
    generalize upd H4 L1 (.lst [V.int ((n : Nat) : Int)]) = H5
    intro s5 e5
    refine ⟨by show 1 ≤ sizeLine; decide, fun L2 nL2 => ?_⟩
    have s6 := Same.new nL2 (o := .lst [V.int 0])
    have e6 : (upd H5 L2 (.lst [V.int 0])) L2 = some (.lst [V.int 0]) := upd_same
    revert s6 e6
    generalize upd H5 L2 (.lst [V.int 0]) = H6
    intro s6 e6
    refine ⟨_, _, rfl, rfl, L2, 9, _, rfl, rfl, e6, by decide, by decide, by show 1 * _ ≤ sizeLine; exact Nat.le_trans (by decide) hsl, fun L3 nL3 => ?_⟩
    have s7 := Same.new nL3 (o := .lst (List.replicate (Int.toNat 9) [V.int 0]).flatten)
    have e7 : (upd H6 L3 (.lst (List.replicate (Int.toNat 9) [V.int 0]).flatten)) L3 = some (.lst (List.replicate 9 (V.int 0))) := upd_same
    revert s7 e7
    generalize upd H6 L3 (.lst (List.replicate (Int.toNat 9) [V.int 0]).flatten) = H7
    intro s7 e7
    refine ⟨L1, L3, _, _, rfl, rfl, (s6.trans s7) _ _ e5, e7, by show 1 + 9 ≤ sizeLine; exact Nat.le_trans (by decide) hsl, fun ln nln => ?_⟩
    have s8 := Same.new nln (o := .lst ([V.int ((n : Nat) : Int)] ++ List.replicate 9 (V.int 0)))
    have e8 : (upd H7 ln (.lst ([V.int ((n : Nat) : Int)] ++ List.replicate 9 (V.int 0)))) ln = some (.lst ([V.int ((n : Nat) : Int)] ++ List.replicate 9 (V.int 0))) := upd_same
    revert s8 e8
    generalize upd H7 ln (.lst ([V.int ((n : Nat) : Int)] ++ List.replicate 9 (V.int 0))) = H8
    intro s8 e8
    have s48 := ((s5.trans s6).trans s7).trans s8
    have k7 : KB p H H7 := k4.trans (KB.of ((s5.trans s6).trans s7))
    have p8 := s48 _ _ p4
    have lnp : ln ≠ p := Ne.symm (ne_of_none (((s5.trans s6).trans s7) _ _ p4) nln)
    have f8 : H ln = none := kb_free k7 lnp nln
    refine ⟨_, rfl, p, W, dx, _, rfl, p8, TW.cl, TW.nN, (lenb (n := 4) _ (Nat.le_trans (length_putF _ _ _) (Nat.succ_le_succ (Nat.le_trans (length_putF _ _ _) (Nat.succ_le_succ (Nat.le_trans (length_putF _ _ _) (Nat.succ_le_succ (Nat.le_trans (length_putF _ _ _) (Nat.succ_le_succ (Nat.le_refl _)))))))))), ?_⟩
    have k9 : KB p H (upd H8 p (.ins W dx (putF "names" (.ref ln) (putF "point" (.int 0) (putF "tellings" (.ref dt) (putF "shelf" (.ref sh) (putF "plan" (.ref pl) []))))))) := (k4.trans (KB.of s48)).trans KB.set
    have e9 : (upd H8 p (.ins W dx (putF "names" (.ref ln) (putF "point" (.int 0) (putF "tellings" (.ref dt) (putF "shelf" (.ref sh) (putF "plan" (.ref pl) []))))))) dt = some (.dK []) := (upd_ne dtp).trans (s48 _ _ e4)
    have l9 : (upd H8 p (.ins W dx (putF "names" (.ref ln) (putF "point" (.int 0) (putF "tellings" (.ref dt) (putF "shelf" (.ref sh) (putF "plan" (.ref pl) []))))))) ln = some (.lst ([V.int ((n : Nat) : Int)] ++ List.replicate 9 (V.int 0))) := (upd_ne lnp).trans e8
    have p9 : (upd H8 p (.ins W dx (putF "names" (.ref ln) (putF "point" (.int 0) (putF "tellings" (.ref dt) (putF "shelf" (.ref sh) (putF "plan" (.ref pl) []))))))) p = some (.ins W dx (putF "names" (.ref ln) (putF "point" (.int 0) (putF "tellings" (.ref dt) (putF "shelf" (.ref sh) (putF "plan" (.ref pl) [])))))) := upd_same
    revert k9 e9 l9 p9
    generalize upd H8 p (.ins W dx (putF "names" (.ref ln) (putF "point" (.int 0) (putF "tellings" (.ref dt) (putF "shelf" (.ref sh) (putF "plan" (.ref pl) [])))))) = H9
    intro k9 e9 l9 p9
    have kl9 : KL [p] H H9 := fun x o nx e => k9 x o (fun z => nx (by rw [z]; simp)) e
    have fr9 := Fr.kb hp k9
    have tps : TpS K H H9 := fun a xs h => sqt_fr fr9 h
    refine k ⟨pl, sh, dt, ln, s⟩ H9 rfl rfl k9 f8 f3 ⟨⟨dx, ?_⟩, ⟨ys, k9 _ _ pap h3, ?_⟩, ?_, ?_, ?_, by simp, e9, fun p v hv => (by rw [valV_nil] at hv; cases hv), Nat.zero_le _, ?_⟩
    · rw [p9]
      exact congrArg (fun z => some (HO.ins W dx z)) (wk_made ⟨pl, sh, dt, ln, s⟩)
    · exact pls_fr fr9 h4
    · exact hsh.kl kl9 (fun z => hshp (List.mem_singleton.mp z)) (fun x hx hx2 => pA5 (by rw [← List.mem_singleton.mp hx2]; exact hx)) tps
    · rw [l9]
      simp [nV, List.map_replicate]
    · refine .cons hn ?_
      exact rep0 qs 9
    · exact outN hsh f8
theorem ok_numM {tz : Tok} {f : Addr} {fd : FuncData} (F : Fun K "number_made" "number_made" sNumM f fd) (TW : TxtWk K mg W) (TH : TxtSh K mg S) (mNil : mg "NIL" = some (.int 0 tz)) (GP : FnOk P w K mg base (L2N.CX P w) 3 fP fdP ["shelf", "one", "other"] (spPairN P w K S N)) (mgP : mg "pair_number" = some (.ref fP)) (kP : PySem.W.keepIn K (.ref fP) = true) (bP : Binds K fdP ["shelf", "one", "other"] []) (DTn : Def P w K mg base "thing_number" 4 ["shelf", "thing"] (spThingN P w K C S)) : FnOk P w K mg base (L2N.CX P w) 5 f fd ["walk", "deed"] (spNumM P w K C S W N) := by
  refine okC F scNm (fun vs H Q E h => ?_) (fun cdv A outer s H vs Q E hr h => ?_)
  · obtain ⟨wk, dv, z, pl, qs, pt, ns, ts, tl, x, rfl, _⟩ := h
    rfl
  · obtain ⟨wk, dv, z, pl, qs, pt, ns, ts, tl, x, rfl, hw, hx, hd, hlk, hql, htl, k, ke⟩ := h
    have hr3 : Room 3 _ := hr.mono (by decide)
    have hr4 : Room 4 _ := hr
    refine ⟨_, pss_cons (ps_set (i := 2) scNm.nd rfl (Or.inl rfl) (pe_ix (r := rIxT K) ix_tup (pv 1) pe_int (fun _ _ => rfl))) (pss_cons (ps_if (pt_cmpR op_eq (pv 2) pe_str (nomark _)) (pss_cons (ps_if (pt_cmp (pc_dnotin (lt64 hr.units) (pe_fld (pv 0) rfl) (pe_fld (pv 0) rfl))) (pss_one (ps_asg (pe_def DTn hr4 rfl (pa_cons (pe_fld (pv 0) rfl) (pa_cons (pe_ix (r := rIxT K) ix_tup (pv 1) pe_int (fun _ _ => rfl)) pa_nil))) (pg_sub (pe_fld (pv 0) rfl) (pe_fld (pv 0) rfl) (set_dict (lt64 hr.units))))) pss_nil) (pss_one (ps_ret (pe_dget (lt64 hr.units) (pe_fld (pv 0) rfl) (pe_fld (pv 0) rfl) (fun _ _ => rfl))))) pss_nil) (pss_cons (ps_set (i := 3) scNm.nd rfl (Or.inl rfl) (pe_ix (r := rIxL K) ix_list (pe_fld (pv 0) rfl) (pe_ix (r := rIxT K) ix_tup (pv 1) pe_int (fun _ _ => rfl)) (fun _ _ => rfl))) (pss_cons (ps_if (pt_cmpR op_eq (pv 2) pe_str (nomark _)) (pss_one (ps_ret (pe_ix (r := rIxL K) ix_list (pe_fld (pe_fld (pv 0) rfl) rfl) (pv 3) (fun _ _ => rfl)))) pss_nil) (pss_cons (ps_if (pt_cmpR op_eq (pv 2) pe_str (nomark _)) (pss_one (ps_ret (pe_ix (r := rIxL K) ix_list (pe_fld (pe_fld (pv 0) rfl) rfl) (pv 3) (fun _ _ => rfl)))) pss_nil) (pss_cons (ps_set (i := 4) scNm.nd rfl (Or.inl rfl) (pe_ix (r := rIxL K) ix_list (pe_fld (pv 0) rfl) (pe_ix (r := rIxT K) ix_tup (pv 1) pe_int (fun _ _ => rfl)) (fun _ _ => rfl))) (pss_cons (ps_if (pt_cmpR op_eq (pv 2) pe_str (nomark _)) (pss_one (ps_ret (pe_callS GP hr3 rfl mgP kP bP (fun σ => L2N.passAt (L2N.takes_of rfl rfl rfl rfl) σ) (pa_cons (pe_fld (pv 0) rfl) (pa_cons (pv 3) (pa_cons (pv 4) pa_nil)))))) pss_nil) (pss_one (ps_ret (pe_ifExp (pt_cmpR op_eq (pv 3) (pv 4) (nomark _)) (pe_callS GP hr3 rfl mgP kP bP (fun σ => L2N.passAt (L2N.takes_of rfl rfl rfl rfl) σ) (pa_cons (pe_fld (pv 0) rfl) (pa_cons (pe_glob (v := .int 0) rfl mNil ⟨_, rfl⟩) (pa_cons (pe_glob (v := .int 0) rfl mNil ⟨_, rfl⟩) pa_nil)))) (pe_glob (v := .int 0) rfl mNil ⟨_, rfl⟩)))))))))), ?_⟩
    have hsl := line4
    have hsl2 := sizeLine_eq
    obtain ⟨dx, hob⟩ := hw.ob
    obtain ⟨sdx, hso⟩ := hw.she.ob
    have hptl : pt < pl.length := (List.getElem?_eq_some_iff.mp hx).1
    have dtA : z.dt ∉ A5 z.s := hw.she.out hw.tel (fun _ e => nomatch e) (fun _ e => nomatch e)
    have dtl : z.ln ≠ z.dt := ne_of hw.nms hw.tel (fun e => nomatch e)
    have wkd : wk ≠ z.dt := ne_of hob hw.tel (fun e => nomatch e)
    have wkA : wk ∉ A5 z.s := hw.she.out hob (fun _ e => nomatch e) (fun _ e => nomatch e)
    -- what stays when the shelf's own alone changes
    have stay : ∀ {G : Hp} {qs' : Nps}, KL (A5 z.s) H G → NExt qs qs' → ShAt P w K S G z.sh z.s qs' → WkAt P w K C S W G wk z pl qs' pt ns ts tl := by
      intro G qs' kl hext hs'
      have ks := hw.she.ks kl
      exact ⟨⟨dx, kl _ _ wkA hob⟩, let ⟨ys, e, p⟩ := hw.plan; ⟨ys, ks _ _ trivial e, pls_ks ks p⟩, hs', kl _ _ hw.out hw.nms, NsNm.ext hext hw.nn, hw.n10, kl _ _ dtA hw.tel, hw.tok.ext hext, hw.tll, hw.out⟩
    have klm : ∀ {G : Hp}, KL (A5 z.s) H G → KL (z.dt :: A5 z.s) H G := fun kl => kl.mono (fun x hx => List.mem_cons_of_mem _ hx)
    obtain ⟨d, wys⟩ := x
    dsimp only at hd hlk k ke
    cases d with
    | wh a r => cases hlk
    | iff a r o => cases hlk
    | told a t =>
      obtain ⟨p, x0, rfl, hp, ha, hx0, hz⟩ := hd
      refine ⟨_, rfl, p, _, 0, _, rfl, rfl, hp, at0 _ _, ?_⟩
      refine ⟨_, rfl, rfl, _, rfl, ?_⟩
      rw [dS1]
      refine iteT ?_
      refine ⟨_, rfl, _, _, _, _, _, rfl, hob, TW.cl, TW.nP, wkf_point _ _, _, rfl, _, _, _, _, _, rfl, hob, TW.cl, TW.nT, wkf_tellings _ _, z.dt, valV tl (.inl ((pt : Nat) : Int)), rfl, DGet.k (k := .inl ((pt : Nat) : Int)) hw.tel, ?_⟩
      cases hv : valV tl (.inl ((pt : Nat) : Int)) with
      | some v =>
        refine ⟨_, rfl, iteF ?_⟩
        obtain ⟨n, a', t', x', e1, e2, rfl, e4⟩ := hw.tok pt v hv
        cases Option.some.inj (e1.symm.trans hx)
        cases e2
        refine ⟨_, rfl, _, _, _, _, _, rfl, hob, TW.cl, TW.nT, wkf_tellings _ _, _, rfl, _, _, _, _, _, rfl, hob, TW.cl, TW.nP, wkf_point _ _, z.dt, nV n, rfl, .inl ⟨tl, .inl ((pt : Nat) : Int), .inl hw.tel, rfl, hv.symm⟩, ?_⟩
        exact k rfl qs tl n H (NExt.refl _) (Nat.le_succ _) (Nat.le_refl _) e4 (KL.refl _ _) hw
      | none =>
        refine ⟨_, rfl, iteT ?_⟩
        have hc := cntT_put (v := nV 0) hptl hv
        refine ⟨_, rfl, _, _, _, _, _, rfl, hob, TW.cl, TW.nS, wkf_shelf _ _, _, rfl, p, _, 2, _, rfl, rfl, hp, at2c _ _ _ _, z.sh, x0, z.s, qs, t, rfl, hw.she, hx0, hz, by omega, fun qs' n H1 hext hl hn kl hs1 => ?_⟩
        have hw1 := stay kl hext hs1
        obtain ⟨dx1, hob1⟩ := hw1.ob
        have hc2 : cntT (putK tl (.inl ((pt : Nat) : Int)) (.int ((n : Nat) : Int))) pl.length + 1 ≤ cntT tl pl.length := cntT_put hptl hv
        have hpl : (putK tl (.inl ((pt : Nat) : Int)) (.int ((n : Nat) : Int))).length = tl.length + 1 := by
          rw [putK_new _ hv, List.length_append]
          rfl
        refine ⟨_, rfl, _, _, _, _, _, rfl, hob1, TW.cl, TW.nT, wkf_tellings _ _, _, rfl, _, _, _, _, _, rfl, hob1, TW.cl, TW.nP, wkf_point _ _, z.dt, _, rfl, DPut.k (k := .inl ((pt : Nat) : Int)) hw1.tel (by omega), ?_⟩
        have hd2 : (upd H1 z.dt (.dK (putK tl (.inl ((pt : Nat) : Int)) (.int ((n : Nat) : Int))))) z.dt = some (.dK (putK tl (.inl ((pt : Nat) : Int)) (.int ((n : Nat) : Int)))) := upd_same
        have kl2 : KL (z.dt :: A5 z.s) H (upd H1 z.dt (.dK (putK tl (.inl ((pt : Nat) : Int)) (.int ((n : Nat) : Int))))) := (klm kl).trans (KL.set (List.mem_cons_self))
        have ks2 : KS H1 (upd H1 z.dt (.dK (putK tl (.inl ((pt : Nat) : Int)) (.int ((n : Nat) : Int))))) := fun y o st e => by
          rw [upd_ne (ne_of e hw1.tel (fun z0 => by subst z0; exact st))]
          exact e
        have hw2 : WkAt P w K C S W (upd H1 z.dt (.dK (putK tl (.inl ((pt : Nat) : Int)) (.int ((n : Nat) : Int))))) wk z pl qs' pt ns ts (putK tl (.inl ((pt : Nat) : Int)) (.int ((n : Nat) : Int))) := by
          refine ⟨⟨dx1, ks2 _ _ trivial hob1⟩, let ⟨ys, e, p⟩ := hw1.plan; ⟨ys, ks2 _ _ trivial e, pls_ks ks2 p⟩, hs1.kl (As := [z.dt]) (KL.set (by simp)) (fun e => ?_) (fun y hy hy2 => dtA (by rw [← List.mem_singleton.mp hy2]; exact hy)) (TpS.ks ks2), (upd_ne dtl).trans hw1.nms, hw1.nn, hw1.n10, hd2, ?_, by omega, hw.out⟩
          · obtain ⟨d9, h9⟩ := hs1.ob
            rw [List.mem_singleton.mp e, hw1.tel] at h9
            cases h9
          · intro q v hv'
            rw [valV_put] at hv'
            split at hv'
            · rename_i e
              have eq : q = pt := by
                injection e with e
                omega
              subst eq
              cases Option.some.inj hv'
              exact ⟨n, a, t, _, hx, rfl, rfl, hn⟩
            · exact hw1.tok q v hv'
        revert hd2 kl2 hw2
        generalize upd H1 z.dt (.dK (putK tl (.inl ((pt : Nat) : Int)) (.int ((n : Nat) : Int)))) = H2
        intro hd2 kl2 hw2
        obtain ⟨dx2, hob2⟩ := hw2.ob
        refine ⟨_, rfl, _, _, _, _, _, rfl, hob2, TW.cl, TW.nT, wkf_tellings _ _, _, rfl, _, _, _, _, _, rfl, hob2, TW.cl, TW.nP, wkf_point _ _, z.dt, .int ((n : Nat) : Int), rfl, .inl ⟨_, .inl ((pt : Nat) : Int), .inl hd2, rfl, by rw [valV_put, if_pos rfl]⟩, ?_⟩
        exact k rfl qs' _ n H2 hext (by omega) (by omega) hn kl2 hw2
    | take s0 a b =>
      obtain ⟨p, rfl, hp, ha, hb⟩ := hd
      obtain ⟨n1, hn1, hk1⟩ := ns_get hw.nn hw.n10 hb
      refine ⟨_, rfl, p, _, 0, _, rfl, rfl, hp, at0 _ _, ?_⟩
      refine ⟨_, rfl, rfl, _, rfl, ?_⟩
      rw [tk_t]
      refine iteF ?_
      refine ⟨_, rfl, _, _, _, _, _, rfl, hob, TW.cl, TW.nN, wkf_names _ _, _, rfl, p, _, 2, _, rfl, rfl, hp, at2c _ _ _ _, z.ln, _, _, _, rfl, rfl, SqL.of hw.nms, atI_nat hn1, ?_⟩
      refine ⟨_, rfl, rfl, _, rfl, ?_⟩
      rw [tk_f]
      cases s0 with
      | false =>
        refine iteT ?_
        obtain ⟨m, e1, e2, e3⟩ := hs_at hw.she.wf hk1.1
        refine ⟨_, rfl, _, _, _, _, _, rfl, hob, TW.cl, TW.nS, wkf_shelf _ _, _, _, _, _, _, rfl, hso, TH.cl, TH.nH, shf_heads _, _, rfl, z.s.lh, _, _, _, rfl, rfl, SqL.of hw.she.hs, atI_nat (v := nV m) (by rw [List.getElem?_map, e1]; rfl), ?_⟩
        exact k rfl qs tl m H (NExt.refl _) (Nat.le_succ _) (Nat.le_refl _) ⟨e2, by rw [e3, hk1.2]; rfl⟩ (KL.refl _ _) hw
      | true =>
        refine iteF ?_
        refine ⟨_, rfl, rfl, _, rfl, ?_⟩
        rw [tk_s]
        refine iteT ?_
        obtain ⟨m, e1, e2, e3⟩ := tl_at hw.she.wf hk1.1
        refine ⟨_, rfl, _, _, _, _, _, rfl, hob, TW.cl, TW.nS, wkf_shelf _ _, _, _, _, _, _, rfl, hso, TH.cl, TH.nT, shf_tails _, _, rfl, z.s.lt, _, _, _, rfl, rfl, SqL.of hw.she.tl, atI_nat (v := nV m) (by rw [List.getElem?_map, e1]; rfl), ?_⟩
        exact k rfl qs tl m H (NExt.refl _) (Nat.le_succ _) (Nat.le_refl _) ⟨e2, by rw [e3, hk1.2]; rfl⟩ (KL.refl _ _) hw
    | two s0 a b e =>
      obtain ⟨p, rfl, hp, ha, hb, he⟩ := hd
      obtain ⟨n1, hn1, hk1⟩ := ns_get hw.nn hw.n10 hb
      obtain ⟨n2, hn2, hk2⟩ := ns_get hw.nn hw.n10 he
      refine ⟨_, rfl, p, _, 0, _, rfl, rfl, hp, at0 _ _, ?_⟩
      refine ⟨_, rfl, rfl, _, rfl, ?_⟩
      rw [tw_t]
      refine iteF ?_
      refine ⟨_, rfl, _, _, _, _, _, rfl, hob, TW.cl, TW.nN, wkf_names _ _, _, rfl, p, _, 2, _, rfl, rfl, hp, at2c _ _ _ _, z.ln, _, _, _, rfl, rfl, SqL.of hw.nms, atI_nat hn1, ?_⟩
      refine ⟨_, rfl, rfl, _, rfl, ?_⟩
      rw [tw_f]
      refine iteF ?_
      refine ⟨_, rfl, rfl, _, rfl, ?_⟩
      rw [tw_s]
      refine iteF ?_
      refine ⟨_, rfl, _, _, _, _, _, rfl, hob, TW.cl, TW.nN, wkf_names _ _, _, rfl, p, _, 3, _, rfl, rfl, hp, at3c _ _ _ _ _, z.ln, _, _, _, rfl, rfl, SqL.of hw.nms, atI_nat hn2, ?_⟩
      refine ⟨_, rfl, rfl, _, rfl, ?_⟩
      rw [tw_p]
      cases s0 with
      | false =>
        refine iteT ?_
        refine ⟨_, rfl, _, _, _, _, _, rfl, hob, TW.cl, TW.nS, wkf_shelf _ _, _, rfl, _, rfl, z.sh, z.s, qs, n1, n2, _, _, rfl, hw.she, hk1, hk2, by omega, fun hz qs' n H1 hext hl hn kl hs1 => ?_, fun hg dd H1 s1 hdd => ?_⟩
        · exact k (decide_eq_false (by omega)) qs' tl n H1 hext (by omega) (Nat.le_refl _) hn (klm kl) (stay kl hext hs1)
        · exact ke (decide_eq_true hg) dd H1 s1 hdd
      | true =>
        refine iteF ?_
        refine ⟨_, rfl, _, rfl, rfl, _, rfl, ?_⟩
        have hmk : Dd.madeM ts (.two true a b e) = if nmM ts b = nmM ts e then Mt.pr .nil .nil else .nil := rfl
        by_cases hne : n1 = n2
        · subst hne
          rw [decide_eq_true (rfl : nV n1 = nV n1)]
          refine iteT ?_
          have heq : nmM ts b = nmM ts e := hk1.2.symm.trans hk2.2
          refine ⟨_, rfl, _, _, _, _, _, rfl, hob, TW.cl, TW.nS, wkf_shelf _ _, z.sh, z.s, qs, 0, 0, .nil, .nil, rfl, hw.she, nm_nil _, nm_nil _, by omega, fun hz qs' n H1 hext hl hn kl hs1 => ?_, fun hg dd H1 s1 hdd => absurd hg (by decide)⟩
          exact k rfl qs' tl n H1 hext (by omega) (Nat.le_refl _) (by rw [hmk, if_pos heq]; exact hn) (klm kl) (stay kl hext hs1)
        · rw [decide_eq_false (show ¬ nV n1 = nV n2 from fun e0 => hne (by have := V.int.inj e0; omega))]
          refine iteF ?_
          have hnq : ¬ nmM ts b = nmM ts e := fun e0 => hne (tsn_inj hw.she.wf hk1.1 hk2.1 (hk1.2.trans (e0.trans hk2.2.symm)))
          exact k rfl qs tl 0 H (NExt.refl _) (Nat.le_succ _) (Nat.le_refl _) (by rw [hmk, if_neg hnq]; exact nm_nil _) (KL.refl _ _) hw
theorem ok_goOn {f : Addr} {fd : FuncData} (F : Fun K "go_on" "go_on" sGoOn f fd) (TW : TxtWk K mg W) (TH : TxtSh K mg S) (GM : FnOk P w K mg base (L2N.CX P w) 5 fM fdM ["walk", "deed"] (spNumM P w K C S W N)) (mgM : mg "number_made" = some (.ref fM)) (kM : PySem.W.keepIn K (.ref fM) = true) (bM : Binds K fdM ["walk", "deed"] []) (B : Blt mg) : FnOk P w K mg base (L2N.CX P w) 6 f fd ["walk"] (spGoOn P w K C S W N) := by
  refine okC F scGo (fun vs H Q E h => ?_) (fun cdv A outer s H vs Q E hr h => ?_)
  · obtain ⟨wk, z, pl, qs, pt, ns, ts, tl, x, rfl, _⟩ := h
    rfl
  · obtain ⟨wk, z, pl, qs, pt, ns, ts, tl, x, rfl, hw, hx, hwl, hql, htl, k, ke⟩ := h
    have hr5 : Room 5 _ := hr
    refine ⟨_, pss_cons (ps_asg (pe_ix (r := rIxT K) ix_tup (pe_fld (pv 0) rfl) (pe_fld (pv 0) rfl) (fun _ _ => rfl)) (pg_tup rfl (pgs_cons (pg_name (i := 1) scGo.nd rfl (Or.inl rfl)) (pgs_cons (pg_name (i := 2) scGo.nd rfl (Or.inl rfl)) pgs_nil)))) (pss_cons (ps_set (i := 3) scGo.nd rfl (Or.inl rfl) (pe_ix (r := rIxT K) ix_tup (pv 1) pe_int (fun _ _ => rfl))) (pss_one (ps_if (pt_cmpR op_eq (pe_callB call_len_seq (by rfl) B.len PySem.boot_len (pa_cons (pv 2) pa_nil)) pe_int (nomark _)) (pss_one (ps_fld (pv 0) (pe_ifExp (pt_truth (pe_ix (r := rIxL K) ix_list (pe_fld (pe_fld (pv 0) rfl) rfl) (pe_ix (r := rIxL K) ix_list (pe_fld (pv 0) rfl) (pv 3) (fun _ _ => rfl)) (fun _ _ => rfl)) (by intro _; rfl)) (pe_ix (r := rIxT K) ix_tup (pv 2) pe_int (fun _ _ => rfl)) (pe_ix (r := rIxT K) ix_tup (pv 2) pe_int (fun _ _ => rfl))) rfl)) (pss_cons (ps_asg (pe_callS GM hr5 rfl mgM kM bM (fun σ => L2N.passAt (L2N.takes_of rfl rfl rfl rfl) σ) (pa_cons (pv 0) (pa_cons (pv 1) pa_nil))) (pg_sub (pe_fld (pv 0) rfl) (pv 3) set_list)) (pss_one (ps_fld (pv 0) (pe_ix (r := rIxT K) ix_tup (pv 2) pe_int (fun _ _ => rfl)) rfl)))))), ?_⟩
    have hsl := line4
    obtain ⟨dx, hob⟩ := hw.ob
    obtain ⟨sdx, hso⟩ := hw.she.ob
    obtain ⟨ys, hpl, hys⟩ := hw.plan
    have hyl := Paired.length hys
    have hptl : pt < pl.length := (List.getElem?_eq_some_iff.mp hx).1
    obtain ⟨x', hx', t, wv, dv, hyt, ht, hwv, hdv⟩ := paired_get hys (List.getElem?_eq_getElem (show pt < ys.length by omega))
    cases Option.some.inj (hx'.symm.trans hx)
    obtain ⟨dp, its, rfl, hdp, hn1, _, _⟩ := DAt_split x.1 hdv
    obtain ⟨n0, hn0, hk0⟩ := ns_get hw.nn hw.n10 hn1
    have wat : ∀ i, i < x.2.length → atI (numsV x.2) ((i : Nat) : Int) = some (.int ((x.2.getD i 0 : Nat) : Int)) := by
      intro i hi
      refine atI_nat ?_
      rw [numsV, List.getElem?_map, List.getElem?_eq_getElem hi, List.getD_eq_getElem?_getD, List.getElem?_eq_getElem hi]
      rfl
    have ptw : ∀ (j : Nat) {G : Hp} {qs' : Nps} {ns' : List Nat} {ts' : List Mt} {tl' : Tls}, WkAt P w K C S W G wk z pl qs' pt ns' ts' tl' → ∃ dx', G wk = some (.ins W dx' (wkF z ((pt : Nat) : Int))) ∧ WkAt P w K C S W (upd G wk (.ins W dx' (putF "point" (.int ((j : Nat) : Int)) (wkF z ((pt : Nat) : Int))))) wk z pl qs' j ns' ts' tl' := by
      intro j G qs' ns' ts' tl' h
      obtain ⟨dx', e⟩ := h.ob
      refine ⟨dx', e, ?_⟩
      rw [wk_put]
      have ne : ∀ {y : Addr} {o : HO}, G y = some o → (∀ fs, o ≠ .ins W dx' fs) → y ≠ wk := fun hy ho q => by
        subst q
        rw [e] at hy
        exact ho _ (Option.some.inj hy).symm
      obtain ⟨ys', e1, e2⟩ := h.plan
      have frw : Fr G (upd G wk (.ins W dx' (wkF z ((j : Nat) : Int)))) := by
        refine ⟨fun a xs q => (upd_ne (ne q (fun _ e => nomatch e))).trans q, fun a o xs q => (upd_ne (ne q (fun _ e => nomatch e))).trans q, fun a D dd f0 s0 n0 q => ?_⟩
        refine (upd_ne (fun q2 => ?_)).trans q
        subst q2
        rw [e] at q
        injection (Option.some.inj q) with _ _ e3
        have e4 := congrArg (List.lookup ("size" : Str)) e3
        rw [tf_size] at e4
        have e5 : (wkF z ((pt : Nat) : Int)).lookup ("size" : Str) = none := (lk_miss (by decide +kernel)).trans ((lk_miss (by decide +kernel)).trans ((lk_miss (by decide +kernel)).trans ((lk_miss (by decide +kernel)).trans (lk_miss (by decide +kernel)))))
        rw [e5] at e4
        cases e4
      have she' := h.she
      obtain ⟨d9, h9⟩ := she'.ob
      have wkA : wk ∉ A5 z.s := she'.out e (fun _ e => nomatch e) (fun _ e => nomatch e)
      refine ⟨⟨dx', upd_same⟩, ⟨ys', (upd_ne (ne e1 (fun _ e => nomatch e))).trans e1, pls_fr frw e2⟩, she'.kl (As := [wk]) (KL.set (by simp)) (fun q => ?_) (fun y hy hy2 => wkA (by rw [← List.mem_singleton.mp hy2]; exact hy)) (fun a xs q => sqt_fr frw q), (upd_ne (ne h.nms (fun _ e => nomatch e))).trans h.nms, h.nn, h.n10, (upd_ne (ne h.tel (fun _ e => nomatch e))).trans h.tel, h.tok, h.tll, h.out⟩
      rw [List.mem_singleton.mp q, e] at h9
      injection (Option.some.inj h9) with _ _ e3
      have e4 := congrArg (List.lookup ("heads" : Str)) e3
      rw [shf_heads] at e4
      have e5 : (wkF z ((pt : Nat) : Int)).lookup ("heads" : Str) = none := (lk_miss (by decide +kernel)).trans ((lk_miss (by decide +kernel)).trans ((lk_miss (by decide +kernel)).trans ((lk_miss (by decide +kernel)).trans (lk_miss (by decide +kernel)))))
      rw [e5] at e4
      cases e4
    refine ⟨_, rfl, _, _, _, _, _, rfl, hob, TW.cl, TW.nL, wkf_plan _ _, _, rfl, _, _, _, _, _, rfl, hob, TW.cl, TW.nP, wkf_point _ _, z.pl, _, _, _, rfl, rfl, SqT.of hpl, atI_nat (by rw [List.getElem?_eq_getElem (show pt < ys.length by omega), hyt]), ?_⟩
    refine ⟨t, _, rfl, SqT.of ht, rfl, _, _, rfl, _, _, rfl, rfl, ?_⟩
    refine ⟨_, rfl, dp, _, 1, _, rfl, rfl, hdp, at1c _ _ _, ?_⟩
    refine ⟨_, rfl, wv, _, rfl, .inr (SqT.of hwv), rfl, _, rfl, ?_⟩
    rw [numsV_len, hwl]
    have klA : ∀ {G : Hp}, KL (z.dt :: A5 z.s) H G → KL (AW wk z) H G := fun kl => kl.mono (fun y hy => by
      rcases List.mem_cons.mp hy with rfl | hy
      · simp [AW]
      · exact List.mem_cons_of_mem _ (List.mem_cons_of_mem _ (List.mem_cons_of_mem _ hy)))
    cases hlk : x.1.look with
    | true =>
      rw [hlk] at hwl
      have hwl2 : x.2.length = 2 := hwl
      have hg : x.1.grtM ts = false := by
        revert hlk
        generalize x.1 = d
        intro hlk
        cases d <;> first | rfl | cases hlk
      have hsN : stepNM x ts = ts := by unfold stepNM; rw [hlk]; rfl
      refine iteT ?_
      have fin : ∀ i, i < x.2.length → stepPM x ts = x.2.getD i 0 → ∃ dx', H wk = some (.ins W dx' (wkF z ((pt : Nat) : Int))) ∧ Q .non (upd H wk (.ins W dx' (putF "point" (.int ((x.2.getD i 0 : Nat) : Int)) (wkF z ((pt : Nat) : Int))))) := by
        intro i hi e
        obtain ⟨dx', e1, e2⟩ := ptw (x.2.getD i 0) hw
        refine ⟨dx', e1, k hg qs tl ns _ (NExt.refl _) (Nat.le_succ _) (Nat.le_refl _) (KL.set (by simp [AW])) ?_⟩
        rw [e, hsN]
        exact e2
      have hzt : (((tsA qs).map szV))[n0]? = some (szV (nmM ts x.1.nm1)) := by rw [List.getElem?_map, tsA_at qs hk0.1, hk0.2]; rfl
      refine ⟨_, rfl, _, _, _, _, _, rfl, hob, TW.cl, TW.nS, wkf_shelf _ _, _, _, _, _, _, rfl, hso, TH.cl, TH.nZ, shf_sizes _, _, rfl, _, _, _, _, _, rfl, hob, TW.cl, TW.nN, wkf_names _ _, _, rfl, z.ln, _, _, _, rfl, rfl, SqL.of hw.nms, atI_nat hn0, z.s.ls, _, _, _, rfl, rfl, SqL.of hw.she.sz, atI_nat hzt, _, rfl, ?_⟩
      by_cases hz : 0 < (nmM ts x.1.nm1).size
      · have e1 : (((((nmM ts x.1.nm1).size : Nat) : Int)) != 0) = true := bne_iff_ne.mpr (by omega)
        rw [e1]
        obtain ⟨dx', e1, e2⟩ := fin 0 (by omega) (by unfold stepPM; rw [hlk, if_pos rfl, if_pos hz])
        refine iteT ⟨_, rfl, wv, _, _, _, rfl, rfl, SqT.of hwv, wat 0 (by omega), _, rfl, wk, W, dx', _, rfl, e1, TW.cl, TW.nP, by show 5 < 1000; decide, e2⟩
      · have e1 : (((((nmM ts x.1.nm1).size : Nat) : Int)) != 0) = false := by
          have : (nmM ts x.1.nm1).size = 0 := by omega
          rw [this]
          rfl
        rw [e1]
        obtain ⟨dx', e1, e2⟩ := fin 1 (by omega) (by unfold stepPM; rw [hlk, if_pos rfl, if_neg hz])
        refine iteF ⟨_, rfl, wv, _, _, _, rfl, rfl, SqT.of hwv, wat 1 (by omega), _, rfl, wk, W, dx', _, rfl, e1, TW.cl, TW.nP, by show 5 < 1000; decide, e2⟩
    | false =>
      rw [hlk] at hwl
      have hwl2 : x.2.length = 1 := hwl
      have hsN : stepNM x ts = ts.set x.1.nm1 (x.1.madeM ts) := by unfold stepNM; rw [hlk]; rfl
      have hsP : stepPM x ts = x.2.getD 0 0 := by unfold stepPM; rw [hlk]; rfl
      refine iteF ?_
      refine ⟨_, rfl, _, rfl, wk, _, z, pl, qs, pt, ns, ts, tl, x, rfl, hw, hx, hdv, hlk, hql, htl, fun hg qs' tl' n H1 hext hb1 hb2 hn kl hw1 => ?_, fun hg dd H1 s1 hdd => ke hg dd H1 s1 hdd⟩
      obtain ⟨dx1, hob1⟩ := hw1.ob
      refine ⟨_, rfl, _, _, _, _, _, rfl, hob1, TW.cl, TW.nN, wkf_names _ _, _, rfl, z.ln, _, _, x.1.nm1, rfl, rfl, hw1.nms, ixN_at _ _ (by rw [List.length_map, hw1.n10]; exact hn1), ?_⟩
      have nml : ∀ {y : Addr} {o : HO}, H1 y = some o → (∀ xs, o ≠ .lst xs) → y ≠ z.ln := fun hy ho => ne_of hy hw1.nms (fun e => ho _ e)
      have kt2 : KT H1 (upd H1 z.ln (.lst ((ns.map nV).set x.1.nm1 (.int ((n : Nat) : Int))))) := KT.lst hw1.nms
      have hw2 : WkAt P w K C S W (upd H1 z.ln (.lst ((ns.map nV).set x.1.nm1 (.int ((n : Nat) : Int))))) wk z pl qs' pt (ns.set x.1.nm1 n) (ts.set x.1.nm1 (x.1.madeM ts)) tl' := by
        obtain ⟨ys', e1, e2⟩ := hw1.plan
        refine ⟨⟨dx1, kt2 _ _ hob1 (fun _ e => nomatch e)⟩, ⟨ys', kt2 _ _ e1 (fun _ e => nomatch e), pls_kt kt2 e2⟩, hw1.she.kl (As := [z.ln]) (KL.set (by simp)) (fun q => ?_) (fun y hy hy2 => hw1.out (by rw [← List.mem_singleton.mp hy2]; exact hy)) (TpS.kt kt2), ?_, paired_set _ hw1.nn hn, by rw [List.length_set]; exact hw1.n10, kt2 _ _ hw1.tel (fun _ e => nomatch e), hw1.tok, hw1.tll, hw1.out⟩
        · obtain ⟨d9, h9⟩ := hw1.she.ob
          rw [List.mem_singleton.mp q, hw1.nms] at h9
          cases h9
        · rw [upd_same, List.map_set]
          rfl
      have kl2 : KL (AW wk z) H (upd H1 z.ln (.lst ((ns.map nV).set x.1.nm1 (.int ((n : Nat) : Int))))) := (klA kl).trans (KL.set (by simp [AW]))
      have hwv2 : (upd H1 z.ln (.lst ((ns.map nV).set x.1.nm1 (.int ((n : Nat) : Int))))) wv = some (.tup (numsV x.2)) := kt2 _ _ (kl _ _ (fun q => by
        rcases List.mem_cons.mp q with q | q
        · rw [q, hw.tel] at hwv; cases hwv
        · exact hw.she.out hwv (fun _ e => nomatch e) (fun _ e => nomatch e) q) hwv) (fun _ e => nomatch e)
      revert hw2 kl2 hwv2
      generalize upd H1 z.ln (.lst ((ns.map nV).set x.1.nm1 (.int ((n : Nat) : Int)))) = H2
      intro hw2 kl2 hwv2
      obtain ⟨dx', e1, e2⟩ := ptw (x.2.getD 0 0) hw2
      refine ⟨_, rfl, wv, _, _, _, rfl, rfl, SqT.of hwv2, wat 0 (by omega), _, rfl, wk, W, dx', _, rfl, e1, TW.cl, TW.nP, by show 5 < 1000; decide, ?_⟩
      refine k hg qs' tl' (ns.set x.1.nm1 n) _ hext hb1 hb2 (kl2.trans (KL.set (by simp [AW]))) ?_
      rw [hsP, hsN]
      exact e2
end
end Js

set_option Elab.async false
set_option linter.all false
set_option maxRecDepth 100000
set_option maxHeartbeats 2000000
namespace Js
open PySem L2
/-! ### steps one by one -/
def stM (pl : List Pt) (s : Nat × List Tr) : Option (Nat × List Tr) := match pl[s.1]? with
  | none => none
  | some x => if x.1.grt s.2 then none else some (stepP x s.2, stepN x s.2)
def goM (pl : List Pt) : Nat → Nat × List Tr → Option (Nat × List Tr)
  | 0, s => some s
  | n + 1, s => (goM pl n s).bind (stM pl)
theorem goM_succ (pl : List Pt) (n : Nat) (s : Nat × List Tr) : goM pl (n + 1) s = (goM pl n s).bind (stM pl) := rfl
theorem goM_pre {pl : List Pt} {n : Nat} {s u : Nat × List Tr} (h : goM pl (n + 1) s = some u) : ∃ m, goM pl n s = some m ∧ stM pl m = some u := by
  rw [goM_succ] at h
  cases e : goM pl n s with
  | none => rw [e] at h; cases h
  | some m => rw [e] at h; exact ⟨m, rfl, h⟩
theorem goM_some {pl : List Pt} {s u : Nat × List Tr} : ∀ {n : Nat}, goM pl n s = some u → ∀ i, i ≤ n → ∃ m, goM pl i s = some m
  | 0, h, i, hi => by
    have : i = 0 := by omega
    subst this
    exact ⟨s, rfl⟩
  | n + 1, h, i, hi => by
    by_cases e : i = n + 1
    · subst e
      exact ⟨u, h⟩
    · obtain ⟨m, hm, _⟩ := goM_pre h
      exact goM_some hm i (by omega)
theorem stM_some {pl : List Pt} {s u : Nat × List Tr} (h : stM pl s = some u) : ∃ x, pl[s.1]? = some x ∧ x.1.grt s.2 = false ∧ u = (stepP x s.2, stepN x s.2) := by
  unfold stM at h
  cases e : pl[s.1]? with
  | none => rw [e] at h; cases h
  | some x =>
    rw [e] at h
    cases g : x.1.grt s.2 with
    | true => simp only [g, if_true] at h; cases h
    | false =>
      simp only [g, Bool.false_eq_true, if_false] at h
      exact ⟨x, rfl, g, (Option.some.inj h).symm⟩
theorem passNone {X : Cx} {σ : L2.St} : PassesAt (L2N.CX X.prog X.w) X σ (fun _ _ _ => False) := fun pins H s e s' I c => by
  obtain ⟨_, _, _, _, _, _, _, _, _, _, _, _, h⟩ := c
  exact h.elim
end Js

set_option Elab.async false
set_option linter.all false
set_option maxRecDepth 100000
set_option maxHeartbeats 2000000
namespace Js
open PySem L2
abbrev sRInit : Stmt := inClass (top 30) 0
abbrev sREq : Stmt := inClass (top 30) 2
abbrev sFirst : Stmt := top 31
def rfL : List V → List (Str × V)
  | [x, y, z] => putF "thing" z (putF "steps" y (putF "word" x []))
  | _ => []
theorem n_ws : ¬ (("word" : Str) = "steps") := by decide +kernel
theorem n_wt : ¬ (("word" : Str) = "thing") := by decide +kernel
theorem n_st : ¬ (("steps" : Str) = "thing") := by decide +kernel
theorem rf_word (x y z : V) : (rfL [x, y, z]).lookup ("word" : Str) = some x := by
  unfold rfL
  rw [lookup_putF, if_neg n_wt, lookup_putF, if_neg n_ws, lookup_putF, if_pos rfl]
theorem rf_steps (x y z : V) : (rfL [x, y, z]).lookup ("steps" : Str) = some y := by
  unfold rfL
  rw [lookup_putF, if_neg n_st, lookup_putF, if_pos rfl]
theorem rf_thing (x y z : V) : (rfL [x, y, z]).lookup ("thing" : Str) = some z := by
  unfold rfL
  rw [lookup_putF, if_pos rfl]
def wdS : Wd → Str
  | .ended => "ended"
  | .opn => "open"
  | .great => "great"
theorem wd_eo : ¬ (("ended" : Str) = "open") := by decide +kernel
theorem wd_eg : ¬ (("ended" : Str) = "great") := by decide +kernel
theorem wd_og : ¬ (("open" : Str) = "great") := by decide +kernel
theorem wdS_inj {a b : Wd} (h : wdS a = wdS b) : a = b := by
  cases a <;> cases b <;> first | rfl | exact absurd h wd_eo | exact absurd h wd_eg | exact absurd h wd_og | exact absurd h.symm wd_eo | exact absurd h.symm wd_eg | exact absurd h.symm wd_og
structure TxtR (K : PySem.W.Frag) (mg : Str → Option Value) (CR : Addr) : Prop where
  cl : Cls K CR
  nW : NoAttr K CR "word"
  nS : NoAttr K CR "steps"
  nT : NoAttr K CR "thing"
  mgR : mg "Run" = some (.ref CR)
  ca : PySem.W.findIn K (.ref CR) "__class__" = some (some (.builtin "object.__class__"))
  cn : PySem.W.specialIn K (.builtin "object.__class__") "__get__" = some (some (.builtin "getset_descriptor.__get__"))
  ct : PySem.W.takesIn K (.builtin "object.__class__") = some true
  cm : PySem.W.mroIn K CR (.type "object") = some true
  ne : PySem.W.findIn K (.ref CR) "__ne__" = some (some (.builtin "object.__ne__"))
/-- what stands for the thing of a run -/
def RtV (C : Addr) (H : Hp) (v : V) (x : Wd) (t : Tr) : Prop := (x = .ended ∧ (∃ b, v = .ref b ∧ Th C H b t) ∧ t.size ≤ 4000) ∨ (x ≠ .ended ∧ v = .non ∧ t = .nil)
def RnAt (C CR : Addr) (H : Hp) (a : Addr) (o : Wd × Nat × Tr) : Prop := ∃ dx v, H a = some (.ins CR dx (rfL [.str (wdS o.1), .int ((o.2.1 : Nat) : Int), v])) ∧ RtV C H v o.1 o.2.2
theorem RnAt.kt {C CR : Addr} {H H' : Hp} (k : KT H H') {a : Addr} {o : Wd × Nat × Tr} (h : RnAt C CR H a o) : RnAt C CR H' a o := by
  obtain ⟨dx, v, h1, h2⟩ := h
  refine ⟨dx, v, k _ _ h1 (fun _ e => nomatch e), ?_⟩
  rcases h2 with ⟨e, ⟨b, eb, hb⟩, hz⟩ | h2
  · exact .inl ⟨e, ⟨b, eb, hb.kt k⟩, hz⟩
  · exact .inr h2
theorem RnAt.same {C CR : Addr} {H H' : Hp} (s : Same H H') {a : Addr} {o : Wd × Nat × Tr} (h : RnAt C CR H a o) : RnAt C CR H' a o := h.kt (KT.of s)
structure MkR (P : Program) (w : World) (K : PySem.W.Frag) (mg : Str → Option Value) (base : Heap) (CR f : Addr) (fd : FuncData) : Prop extends MkO P w K mg base "Run" CR f fd ["self", "word", "steps", "thing"] rfL 3 where
  hot : L2H.FnH P w K mg base CX0 1 f fd ["self", "word", "steps", "thing"] (spObj CR rfL 3)
  b1 : ∃ ds, Vals [V.non] ds ∧ Binds K fd ["self", "word", "steps", "thing"] ds
def spREq (C CR : Addr) : Sp := fun vs H Q _ => ∃ a b o1 o2, vs = [.ref a, .ref b] ∧ RnAt C CR H a o1 ∧ RnAt C CR H b o2 ∧ ∀ H', Same H H' → Q (.bl (decide (o1 = o2))) H'
def spFirst (K : PySem.W.Frag) (C : Addr) : Sp := fun vs H Q _ => ∃ a t, vs = [.ref a] ∧ Th C H a t ∧ ∀ q us H', Same H H' → H' q = some (.tup us) → Paired (ThV C H') us (firstN t) → Q (.ref q) H'
section
variable {P : Program} {w : World} {K : PySem.W.Frag} {mg : Str → Option Value} {base : Heap} {C CP CS CR N fI : Addr} {fdI : FuncData}
theorem scRn : FnScope ["self", "word", "steps", "thing"] ["self", "word", "steps", "thing"] (defScope sRInit) := ⟨rfl, rfl, rfl, by decide +kernel, rfl, by decide +kernel, by decide +kernel⟩
theorem ok_rinit {f : Addr} {fd : FuncData} (F : FunD K "__init__" "Run.__init__" (defArgs sRInit) (defBody sRInit) (defScope sRInit) [.non] [] f fd) (TR : TxtR K mg CR) : FnOk P w K mg base CX0 1 f fd ["self", "word", "steps", "thing"] (spObj CR rfL 3) := by
  refine F.ok scRn (fun vs H Q E h => ?_) (fun cdv A outer s H vs Q E hr h => ?_)
  · obtain ⟨p, dx, xs, rfl, hl, _⟩ := h
    rw [List.length_cons, hl]
    rfl
  · obtain ⟨p, dx, xs, rfl, hl, hp, k⟩ := h
    obtain ⟨x, y, z, rfl⟩ : ∃ x y z, xs = [x, y, z] := by
      rcases xs with _ | ⟨x, _ | ⟨y, _ | ⟨z, _ | ⟨u, r⟩⟩⟩⟩
      · cases hl
      · cases hl
      · cases hl
      · exact ⟨x, y, z, rfl⟩
      · cases hl
    refine ⟨_, pss_cons (ps_fld (pv 0) (pv 1) rfl) (pss_cons (ps_fld (pv 0) (pv 2) rfl) (pss_one (ps_fld (pv 0) (pv 3) rfl))), ?_⟩
    refine ⟨_, rfl, _, rfl, p, CR, dx, [], rfl, hp, TR.cl, TR.nW, (by show 0 < 1000; decide), ?_⟩
    refine ⟨_, rfl, _, rfl, p, CR, dx, _, rfl, upd_same, TR.cl, TR.nS, Nat.lt_of_le_of_lt (length_putF _ _ _) (by show 0 + 1 < 1000; decide), ?_⟩
    refine ⟨_, rfl, _, rfl, p, CR, dx, _, rfl, upd_same, TR.cl, TR.nT, ?_, ?_⟩
    · have h1 := length_putF "word" x []
      have h2 := length_putF "steps" y (putF "word" x [])
      simp only [List.length_nil] at h1
      omega
    · show Q .non (upd (upd (upd H p _) p _) p (.ins CR dx (rfL [x, y, z])))
      rw [upd_upd, upd_upd]
      exact k
theorem hot_rinit {f : Addr} {fd : FuncData} (F : FunD K "__init__" "Run.__init__" (defArgs sRInit) (defBody sRInit) (defScope sRInit) [.non] [] f fd) (TR : TxtR K mg CR) : L2H.FnH P w K mg base CX0 1 f fd ["self", "word", "steps", "thing"] (spObj CR rfL 3) := by
  obtain ⟨o1, o2, o3, o4, o5, o6, o7, o8, o9, o10, e, look, code, _, _⟩ := F.ex
  subst e
  refine L2H.fn_ofH look code scRn (fun vs H Q E h => ?_) (fun A outer s H vs Q E pp hot hr h => ?_)
  · obtain ⟨p, dx, xs, rfl, hl, _⟩ := h
    rw [List.length_cons, hl]
    rfl
  · obtain ⟨p, dx, xs, rfl, hl, hp, k⟩ := h
    obtain ⟨x, y, z, rfl⟩ : ∃ x y z, xs = [x, y, z] := by
      rcases xs with _ | ⟨x, _ | ⟨y, _ | ⟨z, _ | ⟨u, r⟩⟩⟩⟩
      · cases hl
      · cases hl
      · cases hl
      · exact ⟨x, y, z, rfl⟩
      · cases hl
    refine ⟨_, pss_cons (ps_fld (pv 0) (pv 1) rfl) (pss_cons (ps_fld (pv 0) (pv 2) rfl) (pss_one (ps_fld (pv 0) (pv 3) rfl))), ?_⟩
    refine ⟨_, rfl, _, rfl, p, CR, dx, [], rfl, hp, TR.cl, TR.nW, (by show 0 < 1000; decide), ?_⟩
    refine ⟨_, rfl, _, rfl, p, CR, dx, _, rfl, upd_same, TR.cl, TR.nS, Nat.lt_of_le_of_lt (length_putF _ _ _) (by show 0 + 1 < 1000; decide), ?_⟩
    refine ⟨_, rfl, _, rfl, p, CR, dx, _, rfl, upd_same, TR.cl, TR.nT, ?_, ?_⟩
    · have h1 := length_putF "word" x []
      have h2 := length_putF "steps" y (putF "word" x [])
      simp only [List.length_nil] at h1
      omega
    · show Q .non (upd (upd (upd H p _) p _) p (.ins CR dx (rfL [x, y, z])))
      rw [upd_upd, upd_upd]
      exact k
theorem scRE : FnScope ["self", "other"] ["self", "other"] (defScope sREq) := ⟨rfl, rfl, rfl, by decide +kernel, rfl, by decide +kernel, by decide +kernel⟩
theorem ok_req {f : Addr} {fd : FuncData} (F : Fun K "__eq__" "Run.__eq__" sREq f fd) (T : Txt K mg C) (TR : TxtR K mg CR) (SE : Spc P w K mg base C "__eq__" 2 ["self", "other"] (spEqT C)) : FnOk P w K mg base CX0 3 f fd ["self", "other"] (spREq C CR) := by
  refine F.ok scRE (fun vs H Q E h => ?_) (fun cdv A outer s H vs Q E hr h => ?_)
  · obtain ⟨a, b, o1, o2, rfl, _⟩ := h
    rfl
  · obtain ⟨a, b, ⟨w1, n1, t1⟩, ⟨w2, n2, t2⟩, rfl, ⟨dx, v1, h1, h2⟩, ⟨dy, v2, g1, g2⟩, k⟩ := h
    have hr2 : Room 2 _ := hr
    refine ⟨_, pss_cons (ps_if (pt_not (pt_val (pe_callB (r := rIsi K) call_isi (by rfl) T.isi PyProof.Rows.boot_isinstance (pa_cons (pv 1) (pa_cons (pe_glob (v := .ref CR) rfl TR.mgR rfl) pa_nil))))) (pss_one (ps_ret pe_bl)) pss_nil) (pss_one (ps_ret (pe_and (pe_cmpR op_eq (pe_fld (pv 0) rfl) (pe_fld (pv 1) rfl) (nomark _)) (pe_and (pe_cmpR op_eq (pe_fld (pv 0) rfl) (pe_fld (pv 1) rfl) (nomark _)) (pe_one (pe_cmpR (op_eqOT SE hr2) (pe_fld (pv 0) rfl) (pe_fld (pv 1) rfl) (nomark _))))))), ?_⟩
    refine ⟨_, rfl, _, _, _, _, true, rfl, ClsV.own CR, .base (.ins g1 TR.cl TR.ca TR.cn TR.ct TR.cm), kit_self _ _, _, rfl, iteF ?_⟩
    refine ⟨_, rfl, _, _, _, _, _, rfl, h1, TR.cl, TR.nW, rf_word _ _ _, _, rfl, _, _, _, _, _, rfl, g1, TR.cl, TR.nW, rf_word _ _ _, rfl, _, rfl, ?_⟩
    by_cases hw : w1 = w2
    · subst hw
      rw [decide_eq_true rfl]
      refine iteT ?_
      refine ⟨_, rfl, _, _, _, _, _, rfl, h1, TR.cl, TR.nS, rf_steps _ _ _, _, rfl, _, _, _, _, _, rfl, g1, TR.cl, TR.nS, rf_steps _ _ _, rfl, _, rfl, ?_⟩
      by_cases hn : n1 = n2
      · subst hn
        rw [decide_eq_true rfl]
        refine iteT ?_
        refine ⟨_, rfl, _, _, _, _, _, rfl, h1, TR.cl, TR.nT, rf_thing _ _ _, _, rfl, _, _, _, _, _, rfl, g1, TR.cl, TR.nT, rf_thing _ _ _, ?_⟩
        rcases h2 with ⟨e1, ⟨b1, rfl, hb1⟩, hz1⟩ | ⟨e1, rfl, et1⟩
        · rcases g2 with ⟨e2, ⟨b2, rfl, hb2⟩, hz2⟩ | ⟨e2, _, _⟩
          · refine .inr ⟨b1, b2, t1, t2, rfl, rfl, hb1, hb2, hz1, fun H' s' => ?_⟩
            have := k H' s'
            rw [show decide ((w1, n1, t1) = (w1, n1, t2)) = decide (t1 = t2) by simp] at this
            exact this
          · exact absurd e1 e2
        · rcases g2 with ⟨e2, _, _⟩ | ⟨e2, rfl, et2⟩
          · exact absurd e2 e1
          · refine .inl ⟨rfl, rfl, ?_⟩
            have := k H (Same.refl H)
            have e3 : t1 = t2 := (show t1 = .nil from et1).trans (show t2 = .nil from et2).symm
            rw [e3, decide_eq_true rfl] at this
            exact this
      · rw [decide_eq_false (show ¬ V.int ((n1 : Nat) : Int) = V.int ((n2 : Nat) : Int) from fun z => hn (by have := V.int.inj z; omega))]
        refine iteF ?_
        have := k H (Same.refl H)
        rw [show decide ((w1, n1, t1) = (w1, n2, t2)) = false by simp [hn]] at this
        exact this
    · rw [decide_eq_false (show ¬ V.str (wdS w1) = V.str (wdS w2) from fun z => hw (wdS_inj (V.str.inj z)))]
      refine iteF ?_
      have := k H (Same.refl H)
      rw [show decide ((w1, n1, t1) = (w2, n2, t2)) = false by simp [hw]] at this
      exact this
theorem scFN : FnScope ["thing"] ["thing"] (defScope sFirst) := ⟨rfl, rfl, rfl, by decide +kernel, rfl, by decide +kernel, by decide +kernel⟩
theorem ok_first {f : Addr} {fd : FuncData} {tN : Tok} (F : Fun K "first_names" "first_names" sFirst f fd) (mM : mg "MANY_NAMES" = some (.int 10 tN)) (mk : Maker P w K mg base C fI fdI) : FnOk P w K mg base CX0 4 f fd ["thing"] (spFirst K C) := by
  refine F.ok scFN (fun vs H Q E h => ?_) (fun cdv A outer s H vs Q E hr h => ?_)
  · obtain ⟨a, t, rfl, _⟩ := h
    rfl
  · obtain ⟨a, t, rfl, ha, k⟩ := h
    have hr3 : Room 3 _ := hr
    refine ⟨_, pss_one (ps_ret (pe_op op_catA (pe_tup (pa_cons (pv 0) pa_nil)) (pe_op op_repT (pe_tup (pa_cons (pe_T0 mk hr3 rfl) pa_nil)) (pe_op op_sub (pe_glob (v := .int 10) rfl mM ⟨_, rfl⟩) pe_int)))), ?_⟩
    refine ⟨_, rfl, by show 1 ≤ sizeLine; decide, fun q1 n1 => ?_⟩
    have s1 := Same.new n1 (o := .tup [V.ref a])
    have e1 : (upd H q1 (.tup [V.ref a])) q1 = some (.tup [V.ref a]) := upd_same
    revert s1 e1
    generalize upd H q1 (.tup [V.ref a]) = H1
    intro s1 e1
    refine fun z H2 s2 _ hz => ⟨by show 1 ≤ sizeLine; decide, fun q2 n2 => ?_⟩
    have s3 := Same.new n2 (o := .tup [V.ref z])
    have e3 : (upd H2 q2 (.tup [V.ref z])) q2 = some (.tup [V.ref z]) := upd_same
    revert s3 e3
    generalize upd H2 q2 (.tup [V.ref z]) = H3
    intro s3 e3
    refine ⟨_, _, rfl, rfl, q2, _, _, rfl, rfl, SqT.of e3, by simp, by decide, by decide, by simp, fun q3 n3 => ?_⟩
    have er : (List.replicate ((10 : Int) - 1).toNat [V.ref z]).flatten = List.replicate 9 (V.ref z) := rfl
    have s4 := Same.new n3 (o := .tup (List.replicate 9 (V.ref z)))
    have e4 : (upd H3 q3 (.tup (List.replicate 9 (V.ref z)))) q3 = some (.tup (List.replicate 9 (V.ref z))) := upd_same
    rw [er]
    revert s4 e4
    generalize upd H3 q3 (.tup (List.replicate 9 (V.ref z))) = H4
    intro s4 e4
    have s24 := (s2.trans s3).trans s4
    refine ⟨q1, q3, _, _, rfl, rfl, SqT.of (s24 _ _ e1), SqT.of e4, by show 1 + 9 ≤ sizeLine; decide, fun h => by simp at h, fun _ h => by simp at h, fun _ _ q5 n5 => ?_⟩
    have s5 := Same.new n5 (o := .tup ([V.ref a] ++ List.replicate 9 (V.ref z)))
    have rep : ∀ n : Nat, Paired (ThV C (upd H4 q5 (.tup ([V.ref a] ++ List.replicate 9 (V.ref z))))) (List.replicate n (V.ref z)) (List.replicate n Tr.nil) := by
      intro n
      induction n with
      | zero => exact .nil
      | succ n ih => exact .cons ⟨z, rfl, ((hz.same s3).same s4).same s5⟩ ih
    exact k q5 _ _ (((s1.trans s24)).trans s5) upd_same (.cons ⟨a, rfl, ha.same ((s1.trans s24).trans s5)⟩ (rep 9))
end
end Js

set_option Elab.async false
set_option linter.all false
set_option maxRecDepth 100000
set_option maxHeartbeats 2000000
namespace Js
open PySem L2
open PySem.Spec PyProof.Rows
abbrev sHow : Stmt := top 58
inductive Hw where
  | again
  | ended
  | great
  | opn
  deriving DecidableEq
def hwS : Hw → Str
  | .again => "again"
  | .ended => "ended"
  | .great => "great"
  | .opn => "open"
def idxO {α : Type} [DecidableEq α] : List α → α → Nat → Option Nat
  | [], _, _ => none
  | a :: l, x, j => if a = x then some j else idxO l x (j + 1)
/-- how a run goes: the stands that were seen, the one that is next -/
def howM (pl : List Pt) : Nat → List (Nat × List Tr) → (Nat × List Tr) → Hw × Nat × Nat
  | f, seen, s => match idxO seen s 0 with
    | some e => (.again, e, seen.length)
    | none => if s.1 = pl.length then (.ended, 0, seen.length) else match f with
      | 0 => (.opn, 0, seen.length)
      | f + 1 => match stM pl s with
        | none => (.great, 0, seen.length)
        | some u => howM pl f (seen ++ [s]) u
theorem howM_eq (pl : List Pt) (f : Nat) (seen : List (Nat × List Tr)) (s : Nat × List Tr) : howM pl f seen s = match idxO seen s 0 with
    | some e => (.again, e, seen.length)
    | none => if s.1 = pl.length then (.ended, 0, seen.length) else match f with
      | 0 => (.opn, 0, seen.length)
      | f + 1 => match stM pl s with
        | none => (.great, 0, seen.length)
        | some u => howM pl f (seen ++ [s]) u := by
  cases f <;> rw [howM]
/-- the keys of stands by numbers -/
def skN (x : Nat × List Nat) : NestedKey := .tup (.num x.1 :: x.2.map fun (n : Nat) => .num n)
def kvH : List (Nat × List Nat) → Nat → List (NestedKey × V)
  | [], _ => []
  | x :: l, j => (skN x, .int ((j : Nat) : Int)) :: kvH l (j + 1)
theorem kvH_len : ∀ (l : List (Nat × List Nat)) (j : Nat), (kvH l j).length = l.length
  | [], _ => rfl
  | x :: l, j => by rw [kvH, List.length_cons, kvH_len l (j + 1), List.length_cons]
theorem kvH_snoc (x : Nat × List Nat) : ∀ (l : List (Nat × List Nat)) (j : Nat), kvH (l ++ [x]) j = kvH l j ++ [(skN x, .int ((j + l.length : Nat) : Int))]
  | [], j => rfl
  | y :: l, j => by
    rw [List.cons_append, kvH, kvH_snoc x l (j + 1), kvH, List.cons_append, List.length_cons]
    rw [show j + 1 + l.length = j + (l.length + 1) by omega]
theorem nums_inj : ∀ {a b : List Nat}, (a.map fun (n : Nat) => NestedKey.num n) = (b.map fun (n : Nat) => NestedKey.num n) → a = b
  | [], [], _ => rfl
  | [], _ :: _, h => nomatch h
  | _ :: _, [], h => nomatch h
  | x :: xs, y :: ys, h => by
    rw [List.map_cons, List.map_cons, List.cons.injEq, NestedKey.num.injEq] at h
    rw [nums_inj h.2, show x = y by omega]
theorem skN_inj {x y : Nat × List Nat} (h : skN x = skN y) : x = y := by
  obtain ⟨a, b⟩ := x
  obtain ⟨c, d⟩ := y
  simp only [skN, NestedKey.tup.injEq, List.cons.injEq, NestedKey.num.injEq] at h
  rw [nums_inj h.2, show a = c by omega]
theorem skN_dep (x : Nat × List Nat) : (skN x).depth ≤ 8 := by
  have h : ∀ l : List Nat, NestedKey.depthAll (l.map fun (n : Nat) => NestedKey.num n) = 0 := by
    intro l
    induction l with
    | nil => rfl
    | cons a l ih => rw [List.map_cons, NestedKey.depthAll, ih]; rfl
  simp only [skN, NestedKey.depth, NestedKey.depthAll, h]
  decide
theorem kvH_val (x : Nat × List Nat) : ∀ (l : List (Nat × List Nat)) (j : Nat), valV (kvH l j) (skN x) = (idxO l x j).map fun n => V.int ((n : Nat) : Int)
  | [], _ => rfl
  | y :: l, j => by
    rw [kvH, idxO]
    by_cases e : y = x
    · rw [if_pos e, valV_pos (p := (skN y, V.int ((j : Nat) : Int))) (congrArg skN e)]
      rfl
    · rw [if_neg e, valV_neg (p := (skN y, V.int ((j : Nat) : Int))) (fun z => e (skN_inj z))]
      exact kvH_val x l (j + 1)
/-- a stand by numbers -/
def SdNm (qs : Nps) (x : Nat × List Nat) (s : Nat × List Tr) : Prop := x.1 = s.1 ∧ NsNm qs x.2 (s.2.map Tr.m)
theorem SdNm.ext {qs qs' : Nps} (e : NExt qs qs') : ∀ {l : List (Nat × List Nat)} {ss : List (Nat × List Tr)}, Paired (SdNm qs) l ss → Paired (SdNm qs') l ss
  | _, _, .nil => .nil
  | _, _, .cons h t => .cons ⟨h.1, NsNm.ext e h.2⟩ (SdNm.ext e t)
theorem idx_pair {qs : Nps} (w : WFn qs) {x : Nat × List Nat} {s : Nat × List Tr} (hx : SdNm qs x s) : ∀ {l : List (Nat × List Nat)} {ss : List (Nat × List Tr)} (j : Nat), Paired (SdNm qs) l ss → idxO l x j = idxO ss s j
  | _, _, _, .nil => rfl
  | y :: l, u :: ss, j, .cons h t => by
    rw [idxO, idxO, idx_pair w hx (j + 1) t]
    have hiff : y = x ↔ u = s := by
      constructor
      · intro e
        subst e
        have e2 := NsNm.fun_ h.2 hx.2
        exact Prod.ext (h.1.symm.trans hx.1) (maps_inj e2)
      · intro e
        subst e
        exact Prod.ext (h.1.trans hx.1.symm) (NsNm.inj w h.2 hx.2)
    by_cases e : y = x
    · rw [if_pos e, if_pos (hiff.mp e)]
    · rw [if_neg e, if_neg (fun z => e (hiff.mpr z))]
theorem WkAt.tps {P : Program} {w : World} {K : PySem.W.Frag} {C S W : Addr} {H H' : Hp} {wk : Addr} {z : WkA} {pl : List Pt} {qs : Nps} {pt : Nat} {ns : List Nat} {ts : List Mt} {tl : Tls} (h : WkAt P w K C S W H wk z pl qs pt ns ts tl) (k : KL (AW wk z) H H') : TpS K H H' := by
  have out : ∀ {y : Addr} {o : HO}, H y = some o → Stb o → (∀ D dd fs, o ≠ .ins D dd fs) → y ∉ AW wk z := by
    intro y o hy st ni hm
    obtain ⟨dx, e⟩ := h.ob
    simp only [AW, List.mem_cons] at hm
    rcases hm with rfl | rfl | rfl | hm
    · rw [e] at hy; exact ni _ _ _ (Option.some.inj hy).symm
    · rw [h.nms] at hy; cases Option.some.inj hy; exact st
    · rw [h.tel] at hy; cases Option.some.inj hy; exact st
    · exact h.she.out hy (fun xs q => by subst q; exact st) (fun φ q => by subst q; exact st) hm
  intro a xs q
  rcases q with (q | ⟨o, q⟩) | q
  · exact .inl (.inl (k _ _ (out q trivial (fun _ _ _ e => nomatch e)) q))
  · exact .inl (.inr ⟨o, k _ _ (out q trivial (fun _ _ _ e => nomatch e)) q⟩)
  · exact .inr q
theorem NkV.nums {K : PySem.W.Frag} {H : Hp} : ∀ l : List Nat, NkAll K H (l.map nV) (l.map fun (n : Nat) => NestedKey.num n)
  | [] => .nil
  | n :: l => .cons (.int _) (NkV.nums l)
def spHow (K : PySem.W.Frag) (C CP : Addr) : Sp := fun vs H Q _ => ∃ (a x : Addr) (r : List Dd) (t : Tr) (bud : Nat), vs = [.ref a, .ref x, .int (bud : Nat)] ∧ PgAt K C CP H a r ∧ Th C H x t ∧ t.size ≤ 4000 ∧ manyR r ≤ 2000 ∧ bud ≤ 1000000 ∧
  ∀ q H', Same H H' → SqT K H' q [.str (hwS (howM (planR r) bud [] (0, firstN t)).1), .int ((howM (planR r) bud [] (0, firstN t)).2.1 : Nat), .int ((howM (planR r) bud [] (0, firstN t)).2.2 : Nat)] → Q (.ref q) H'
section
variable {P : Program} {w : World} {K : PySem.W.Frag} {mg : Str → Option Value} {base : Heap} {C CP S W N fS fW fG fH : Addr} {fdS fdW fdG fdH : FuncData}
theorem scHw : FnScope ["program", "thing", "budget", "shelf", "walk", "seen", "steps", "stand"] ["program", "thing", "budget"] (defScope sHow) := ⟨rfl, rfl, rfl, by decide +kernel, rfl, by decide +kernel, by decide +kernel⟩
theorem ok_how {f : Addr} {fd : FuncData} (F : Fun K "how_it_goes" "how_it_goes" sHow f fd) (B : Blt mg) (TW : TxtWk K mg W) (TH : TxtSh K mg S) (MSh : Mk K S fS) (GSh : FnOk P w K mg base CX0 1 fS fdS ["self"] (spShI P w K S)) (mgS : mg "Shelf" = some (.ref S)) (bSh : Binds K fdS ["self"] []) (MWk : Mk K W fW) (GWk : FnOk P w K mg base CX0 1 fW fdW ["self", "program", "shelf", "first"] (spWkI P w K C CP S W)) (mgW : mg "Walk" = some (.ref W)) (bWk : Binds K fdW ["self", "program", "shelf", "first"] [])
    (DTn : Def P w K mg base "thing_number" 4 ["shelf", "thing"] (spThingN P w K C S)) (GG : FnOk P w K mg base (L2N.CX P w) 6 fG fdG ["walk"] (spGoOn P w K C S W N)) (mgG : mg "go_on" = some (.ref fG)) (kG : PySem.W.keepIn K (.ref fG) = true) (bG : Binds K fdG ["walk"] []) (mgN : mg "TooGreat" = some (.ref N)) (exN : PySem.W.exmOne K (.ref N) (.ref N) = some true) (SPL : Spc P w K mg base CP "__len__" 1 ["self"] (spPLen K C CP)) : FnOk P w K mg base CX0 8 f fd ["program", "thing", "budget"] (spHow K C CP) := by
  refine F.ok scHw (fun vs H Q E h => ?_) (fun cdv A outer s H vs Q E hr h => ?_)
  · obtain ⟨a, x, r, t, bud, rfl, _⟩ := h
    rfl
  · obtain ⟨a, x, r, t, bud, rfl, ha, hx, htz, hmn, hbud, k⟩ := h
    have hr2 : Room 2 _ := hr.mono (by decide)
    have hr4 : Room 4 _ := hr.mono (by decide)
    have hr6 : Room 6 _ := hr.mono (by decide)
    refine ⟨_, PSs.nox (pss_cons (ps_set (i := 3) scHw.nd rfl (Or.inl rfl) (pe_make0 MSh GSh hr2 rfl mgS bSh .nil pass0)) (pss_cons (ps_set (i := 4) scHw.nd rfl (Or.inl rfl) (pe_make MWk GWk hr2 rfl mgW bWk .nil pass0 (pa_cons (pv 0) (pa_cons (pv 3) (pa_cons (pe_def DTn hr4 rfl (pa_cons (pv 3) (pa_cons (pv 1) pa_nil))) pa_nil))))) (pss_cons (ps_set (i := 5) scHw.nd rfl (Or.inl rfl) pe_knew) (pss_cons (ps_for PassesOwn.never rfl (pi_range1 rfl B.range (pa_cons (pe_op op_add (pv 2) pe_int) pa_nil)) (pg_name (i := 6) scHw.nd rfl (Or.inl rfl)) (pss_cons (ps_set (i := 7) scHw.nd rfl (Or.inl rfl) (pe_tup (pa_cons (pe_fld (pv 4) rfl) (StX.pa_star (pe_fld (pv 4) rfl) pa_nil)))) (pss_cons (ps_if (pt_cmp (pc_kin hr.units (pv 7) (pv 5))) (pss_one (ps_ret (pe_tup (pa_cons pe_str (pa_cons (pe_kget hr.units (pv 5) (pv 7) (fun _ _ => rfl)) (pa_cons (pv 6) pa_nil)))))) pss_nil) (pss_cons (ps_asg (pv 6) (pg_sub (pv 5) (pv 7) (set_kd hr.units))) (pss_cons (ps_if (pt_cmpR op_eq (pe_fld (pv 4) rfl) (pe_callB (call_lenP SPL hr2) (by rfl) B.len PySem.boot_len (pa_cons (pv 0) pa_nil)) (nomark _)) (pss_one (ps_ret (pe_tup (pa_cons pe_str (pa_cons pe_int (pa_cons (pv 6) pa_nil)))))) pss_nil) (pss_one (ps_if (pt_cmpR op_lt (pv 6) (pv 2) (nomark _)) (pss_one (L2N.ps_try_many (tb := fun W_ => tDrop (tCallS (spGoOn P w K C S W N) (WE W_) (tCons (tVar 4) tNil))) (l := [(.ref N, fun _ _ _ => tRet (tTup (tCons (tC (.str "great")) (tCons (tC (.int 0)) (tCons (tVar 6) tNil)))))]) (Wout := fun _ _ _ _ => False) rfl rfl takesN (fun W_ pn xe tk _ => (pss_one (ps_expr (by exact (pe_callS GG hr6 rfl mgG kG bG (fun σ => L2N.passAt tk σ) (by exact (pa_cons (pv 4) pa_nil))))))) (.cons ⟨rfl, by decide, Or.inl mgN⟩ (fun a oe cls d pn hz hf => (pss_one (ps_ret (by exact (pe_tup (pa_cons pe_str (pa_cons pe_int (pa_cons (pv 6) pa_nil)))))))) .nil))) pss_nil))))))) (pss_one (ps_ret (pe_tup (pa_cons pe_str (pa_cons pe_int (pa_cons (pv 2) pa_nil)))))))))), ?_⟩
    have hsl := line4
    have hsl2 := sizeLine_eq
    generalize ho : howM (planR r) bud [] (0, firstN t) = o at k
    -- the shelf
    refine fun sh dsh nsh ndsh nesh => ⟨sh, dsh, rfl, upd_same, fun s5 H1 kb1 hsh fr1 => ⟨rfl, ?_⟩⟩
    have e1 : Same H H1 := fun b o' e => kb1 _ _ (ne_of_none e nsh) (by rw [upd_ne (ne_of_none e nsh), upd_ne (ne_of_none e ndsh)]; exact e)
    have f1 : ∀ y ∈ A5 s5, H y = none := fun y hy => by
      have h1 := fr1 y hy
      cases e : H y with
      | none => rfl
      | some o' => rw [upd_ne (ne_of_none e nsh), upd_ne (ne_of_none e ndsh), e] at h1; cases h1
    have kl0 : ∀ {G : Hp}, KL (A5 s5) H1 G → Same H G := fun kl b o' e => kl _ _ (fun hb => by rw [f1 b hb] at e; cases e) (e1 _ _ e)
    -- the walk
    refine ⟨_, rfl, _, rfl, _, rfl, _, rfl, sh, x, s5, [], t, rfl, hsh, hx.same e1, htz, by simp only [List.length_nil]; omega, fun qs n H2 hx2 hl2 hn2 kl2 hs2 => ?_⟩
    have e2 : Same H H2 := kl0 kl2
    obtain ⟨sdx, hso2⟩ := hs2.ob
    refine fun wk dwk nwk ndwk newk => ?_
    have s3 : Same H2 (upd (upd H2 dwk (.own wk)) wk (.ins W dwk [])) := fun b o' e => by rw [upd_ne (ne_of_none e nwk), upd_ne (ne_of_none e ndwk)]; exact e
    refine ⟨wk, dwk, a, sh, n, s5, qs, r, t.m, rfl, upd_same, (ha.same e2).same s3, hs2.same s3, hn2, ne_of_none hso2 nwk, fun z H4 ez1 ez2 kb4 fl4 ft4 hw4 => ⟨rfl, ?_⟩⟩
    subst ez1 ez2
    have e4 : Same H H4 := fun b o' e => kb4 _ _ (ne_of_none (e2 _ _ e) nwk) (s3 _ _ (e2 _ _ e))
    have fA : ∀ y ∈ AW wk z, H y = none := by
      intro y hy
      simp only [AW, List.mem_cons] at hy
      rcases hy with rfl | rfl | rfl | hy
      · exact e2.free nwk
      · exact e2.free (s3.free fl4)
      · exact e2.free (s3.free ft4)
      · exact f1 y hy
    -- what was seen
    refine fun d ob nd hd => ?_
    have s5' := Same.new nd (o := ob)
    have hw5 := hw4.same s5'
    have e5 := e4.trans s5'
    have fd0 : H d = none := e4.free nd
    have dA : d ∉ AW wk z := by
      intro hm
      obtain ⟨dx, hob⟩ := hw4.ob
      obtain ⟨φ, hφ⟩ := hw4.she.pd.ext
      simp only [AW, A5, List.mem_cons, List.not_mem_nil, or_false] at hm
      rcases hm with rfl | rfl | rfl | rfl | rfl | rfl | rfl | rfl
      · rw [hob] at nd; cases nd
      · rw [hw4.nms] at nd; cases nd
      · rw [hw4.tel] at nd; cases nd
      · rw [hw4.she.hs] at nd; cases nd
      · rw [hw4.she.tl] at nd; cases nd
      · rw [hw4.she.sz] at nd; cases nd
      · rw [hw4.she.mr] at nd; cases nd
      · rw [hφ] at nd; cases nd
    revert e5 hw5 hd
    generalize upd H4 d ob = H5
    intro hd hw5 e5
    have hc0 : cntT [] (planR r).length ≤ 2000 := by
      refine Nat.le_trans (List.length_filter_le _ _) ?_
      rw [List.length_range, planR_len]
      exact hmn
    have hst0 : SdNm qs (0, n :: List.replicate 9 0) (0, firstN t) := ⟨rfl, .cons hn2 (by
      show NsNm qs (List.replicate 9 0) ((List.replicate 9 Tr.nil).map Tr.m)
      exact rep0 qs 9)⟩
    -- the turns
    refine ⟨_, rfl, _, _, rfl, rfl, ?_⟩
    refine ⟨((bud : Nat) : Int) + 1, rfl, by omega, by omega, for_range (n := (((bud : Nat) : Int) + 1).toNat) (fun i σ H' => (i ≤ bud → ∃ (x6 x7 : Option V) (qs : Nps) (pt : Nat) (ns : List Nat) (tr : List Tr) (tl : Tls) (l : List (Nat × List Nat)) (ss : List (Nat × List Tr)), σ = [some (.ref a), some (.ref x), some (.int (bud : Nat)), some (.ref z.sh), some (.ref wk), some (.ref d), x6, x7] ∧ Same H H' ∧ WkAt P w K C S W H' wk z (planR r) qs pt ns (tr.map Tr.m) tl ∧ KdAt P w K H' d (kvH l 0) ∧ Paired (SdNm qs) l ss ∧ l.length = i ∧ SdNm qs (pt, ns) (pt, tr) ∧ pt ≤ manyR r ∧ qs.length + 4000 * cntT tl (planR r).length ≤ 8004000 + i ∧ tl.length + cntT tl (planR r).length ≤ 2000 ∧ howM (planR r) (bud - i) ss (pt, tr) = o) ∧ (bud < i → ∃ x6 x7 : Option V, σ = [some (.ref a), some (.ref x), some (.int (bud : Nat)), some (.ref z.sh), some (.ref wk), some (.ref d), x6, x7] ∧ Same H H' ∧ o = (.opn, 0, bud))) ⟨fun _ => ⟨none, none, qs, 0, _, firstN t, [], [], [], rfl, e5, hw5, hd, .nil, rfl, hst0, Nat.zero_le _, by simp only [List.length_nil, Nat.zero_add] at hl2; omega, by simp only [List.length_nil]; omega, ho⟩, fun h => absurd h (Nat.not_lt_zero _)⟩ ?_ ?_⟩
    · rintro i σ H6 hi ⟨hin, _⟩
      obtain ⟨x6, x7, qs, pt, ns, tr, tl, l, ss, rfl, s6, hw6, hd6, hls, hli, hst, hpt, hq6, ht6, hho⟩ := hin (by omega)
      have hib : i ≤ bud := by omega
      obtain ⟨dx, hob⟩ := hw6.ob
      have hssl := Paired.length hls
      rw [howM_eq] at hho
      refine ⟨_, rfl, _, _, _, _, _, rfl, hob, TW.cl, TW.nP, wkf_point _ _, _, rfl, _, _, _, _, _, rfl, hob, TW.cl, TW.nN, wkf_names _ _, z.ln, _, rfl, .inr (SqL.of hw6.nms), ?_⟩
      refine ⟨by show (V.int ((pt : Nat) : Int) :: (ns.map nV ++ [])).length ≤ sizeLine; rw [List.append_nil, List.length_cons, List.length_map, hw6.n10]; decide, fun T nT => ?_⟩
      have s7 := Same.new nT (o := .tup (V.int ((pt : Nat) : Int) :: (ns.map nV ++ [])))
      have e7 : (upd H6 T (.tup (V.int ((pt : Nat) : Int) :: (ns.map nV ++ [])))) T = some (.tup (V.int ((pt : Nat) : Int) :: (ns.map nV ++ []))) := upd_same
      revert s7 e7
      generalize upd H6 T (.tup (V.int ((pt : Nat) : Int) :: (ns.map nV ++ []))) = H7
      intro s7 e7
      rw [List.append_nil] at e7
      have hk7 : NkV K H7 (.ref T) (skN (pt, ns)) := .tup (SqT.of e7) (.cons (.int _) (NkV.nums ns))
      have hkd := skN_dep (pt, ns)
      have hd7 := hd6.same s7
      have hw7 := hw6.same s7
      have s07 := s6.trans s7
      refine ⟨_, rfl, _, rfl, d, T, _, _, rfl, rfl, hd7, hk7, hkd, ?_⟩
      have hval := kvH_val (pt, ns) l 0
      rw [idx_pair hw6.she.wf hst 0 hls] at hval
      rw [hval, Option.isSome_map]
      cases hix : idxO ss (pt, tr) 0 with
      | some e =>
        rw [hix] at hho hval
        dsimp only at hho
        refine ⟨_, rfl, iteT ?_⟩
        refine ⟨_, rfl, _, rfl, d, T, _, _, V.int ((e : Nat) : Int), rfl, rfl, hd7, hk7, hkd, hval, _, rfl, ?_⟩
        refine ⟨by show 3 ≤ sizeLine; decide, fun T2 nT2 => ?_⟩
        refine k T2 _ (s07.trans (Same.new nT2)) ?_
        rw [← hho]
        have : (ss.length : Nat) = i := by omega
        rw [this]
        rw [Int.zero_add]
        exact SqT.of upd_same
      | none =>
        rw [hix] at hho hval
        dsimp only at hho
        refine ⟨_, rfl, iteF ?_⟩
        refine ⟨_, rfl, _, rfl, _, rfl, d, T, _, _, rfl, rfl, hd7, hk7, hkd, by rw [kvH_len]; omega, fun ob8 hd8 => ?_⟩
        obtain ⟨φ7, hφ7⟩ := hd7.ext
        have hpk : putK (kvH l 0) (skN (pt, ns)) (V.int (0 + ((i : Nat) : Int))) = kvH (l ++ [(pt, ns)]) 0 := by
          rw [putK_new _ (by rw [hval]; rfl), kvH_snoc, Nat.zero_add, hli, Int.zero_add]
        rw [hpk] at hd8
        have t8 : TpS K H7 (upd H7 d ob8) := TpS.ext hφ7
        have s08 : Same H (upd H7 d ob8) := s07.set fd0
        have dne : ∀ {y : Addr} {o' : HO}, H7 y = some o' → (∀ φ, o' ≠ .ext φ) → (upd H7 d ob8) y = some o' := fun hy ho' => by rw [upd_ne (ne_of hy hφ7 (ho' _))]; exact hy
        have ks8 : KS H7 (upd H7 d ob8) := fun y o' st e => dne e (fun φ q => by subst q; exact st)
        have hw8 : WkAt P w K C S W (upd H7 d ob8) wk z (planR r) qs pt ns (tr.map Tr.m) tl := by
          obtain ⟨dx7, hob7⟩ := hw7.ob
          obtain ⟨ys, p1, p2⟩ := hw7.plan
          refine ⟨⟨dx7, dne hob7 (fun _ e => nomatch e)⟩, ⟨ys, dne p1 (fun _ e => nomatch e), pls_ks ks8 p2⟩, hw7.she.kl (As := [d]) (KL.set (by simp)) (fun q => ?_) (fun y hy hy2 => dA (by rw [← List.mem_singleton.mp hy2]; simp only [AW, List.mem_cons]; exact .inr (.inr (.inr hy)))) t8, dne hw7.nms (fun _ e => nomatch e), hw7.nn, hw7.n10, dne hw7.tel (fun _ e => nomatch e), hw7.tok, hw7.tll, hw7.out⟩
          obtain ⟨d9, h9⟩ := hw7.she.ob
          rw [List.mem_singleton.mp q, hφ7] at h9
          cases h9
        revert t8 s08 hw8 hd8
        generalize upd H7 d ob8 = H8
        intro hd8 t8 s08 hw8
        obtain ⟨dx8, hob8⟩ := hw8.ob
        refine ⟨_, rfl, _, _, _, _, _, rfl, hob8, TW.cl, TW.nP, wkf_point _ _, _, rfl, a, r, rfl, ha.same s08, rfl, _, rfl, ?_⟩
        rw [planR_len] at hho
        by_cases hend : pt = manyR r
        · rw [decide_eq_true (show V.int ((pt : Nat) : Int) = V.int ((manyR r : Nat) : Int) by rw [hend])]
          rw [if_pos hend] at hho
          refine iteT ⟨_, rfl, ?_⟩
          refine ⟨by show 3 ≤ sizeLine; decide, fun T2 nT2 => ?_⟩
          refine k T2 _ (s08.trans (Same.new nT2)) ?_
          rw [← hho]
          have : (ss.length : Nat) = i := by omega
          rw [this, Int.zero_add]
          exact SqT.of upd_same
        rw [decide_eq_false (show ¬ V.int ((pt : Nat) : Int) = V.int ((manyR r : Nat) : Int) from fun z => hend (by have := V.int.inj z; omega))]
        rw [if_neg hend] at hho
        refine iteF ⟨_, rfl, _, rfl, _, _, rfl, rfl, _, rfl, ?_⟩
        by_cases hlt : i < bud
        rotate_left
        · rw [show decide ((0 : Int) + ((i : Nat) : Int) < ((bud : Nat) : Int)) = false from decide_eq_false (by omega)]
          refine iteF ⟨fun h => absurd h (by omega), fun _ => ⟨_, _, rfl, s08, ?_⟩⟩
          rw [show bud - i = 0 by omega] at hho
          dsimp only at hho
          rw [← hho]
          have : (ss.length : Nat) = bud := by omega
          rw [this]
        rw [show decide ((0 : Int) + ((i : Nat) : Int) < ((bud : Nat) : Int)) = true from decide_eq_true (by omega)]
        refine iteT ?_
        obtain ⟨b1, hb1⟩ : ∃ b1, bud - i = b1 + 1 := ⟨bud - i - 1, by omega⟩
        rw [hb1] at hho
        dsimp only at hho
        have hplt : pt < (planR r).length := by rw [planR_len]; omega
        obtain ⟨y, hy⟩ : ∃ y, (planR r)[pt]? = some y := ⟨_, List.getElem?_eq_getElem hplt⟩
        obtain ⟨hwl, _⟩ := plan_ways hy
        refine ⟨_, rfl, wk, z, planR r, qs, pt, ns, tr.map Tr.m, tl, y, rfl, hw8, hy, hwl, by omega, by omega, fun hg qs' tl' ns' H9 hx9 hb9 hc9 kl9 hw9 => ?_, fun hg dd H9 s9 hdd => ?_⟩
        · rw [grtM_m] at hg
          have hstM : stM (planR r) (pt, tr) = some (stepP y tr, stepN y tr) := by
            unfold stM
            rw [hy]
            exact if_neg (by rw [hg]; exact Bool.false_ne_true)
          rw [hstM] at hho
          dsimp only at hho
          rw [stepPM_m, stepNM_m] at hw9
          refine ⟨fun hi1 => ⟨_, _, qs', stepP y tr, ns', stepN y tr, tl', l ++ [(pt, ns)], ss ++ [(pt, tr)], rfl, fun b o' e => kl9 _ _ (fun q => by rw [fA b q] at e; cases e) (s08 _ _ e), hw9, hd8.fr (fun o' e => kl9 _ _ dA e) (hw8.tps kl9), SdNm.ext hx9 (paired_app hls (.cons hst .nil)), by rw [List.length_append]; simp only [List.length_cons, List.length_nil]; omega, ⟨rfl, hw9.nn⟩, stepP_le hy tr, by omega, by omega, ?_⟩, fun h => absurd h (by omega)⟩
          rw [show bud - (i + 1) = b1 by omega]
          exact hho
        · rw [grtM_m] at hg
          have hstM : stM (planR r) (pt, tr) = none := by
            unfold stM
            rw [hy]
            exact if_pos hg
          rw [hstM] at hho
          dsimp only at hho
          refine ⟨true, exN, fun _ a0 _ => ?_, fun q => Bool.noConfusion q⟩
          refine ⟨_, rfl, ?_⟩
          refine ⟨by show 3 ≤ sizeLine; decide, fun T2 nT2 => ?_⟩
          refine k T2 _ ((s08.trans s9).trans (Same.new nT2)) ?_
          rw [← hho]
          have : (ss.length : Nat) = i := by omega
          rw [this, Int.zero_add]
          exact SqT.of upd_same
    · rintro σ H6 ⟨_, hout⟩
      obtain ⟨x6, x7, rfl, s6, eo⟩ := hout (by omega)
      refine ⟨_, rfl, ?_⟩
      refine ⟨by show 3 ≤ sizeLine; decide, fun T2 nT2 => ?_⟩
      refine k T2 _ (s6.trans (Same.new nT2)) ?_
      rw [eo]
      exact SqT.of upd_same
end
end Js

set_option Elab.async false
set_option linter.all false
set_option maxRecDepth 100000
set_option maxHeartbeats 2000000
namespace Js
open PySem L2
open PySem.Spec PyProof.Rows
theorem goM_add (pl : List Pt) (a : Nat) : ∀ (b : Nat) (s : Nat × List Tr), goM pl (a + b) s = (goM pl a s).bind (goM pl b)
  | 0, s => by
    rw [Nat.add_zero]
    cases goM pl a s <;> rfl
  | b + 1, s => by
    rw [← Nat.add_assoc, goM_succ, goM_add pl a b s]
    cases goM pl a s <;> rfl
theorem goM_one {pl : List Pt} {s : Nat × List Tr} : goM pl 1 s = stM pl s := rfl
theorem goM_left (pl : List Pt) (n : Nat) (s : Nat × List Tr) : goM pl (n + 1) s = (stM pl s).bind (goM pl n) := by
  rw [Nat.add_comm, goM_add, goM_one]
theorem idxO_get {α : Type} [DecidableEq α] {x : α} : ∀ {l : List α} {j e : Nat}, idxO l x j = some e → j ≤ e ∧ e < j + l.length ∧ l[e - j]? = some x
  | [], _, _, h => by rw [idxO] at h; cases h
  | a :: l, j, e, h => by
    rw [idxO] at h
    by_cases q : a = x
    · rw [if_pos q] at h
      cases Option.some.inj h
      refine ⟨Nat.le_refl _, by rw [List.length_cons]; omega, ?_⟩
      rw [Nat.sub_self, List.getElem?_cons_zero, q]
    · rw [if_neg q] at h
      obtain ⟨h1, h2, h3⟩ := idxO_get h
      refine ⟨by omega, by rw [List.length_cons]; omega, ?_⟩
      rw [show e - j = (e - (j + 1)) + 1 by omega, List.getElem?_cons_succ]
      exact h3
/-- what was seen is what the run went through -/
def SeenOk (pl : List Pt) (s0 : Nat × List Tr) (seen : List (Nat × List Tr)) : Prop := ∀ i, i < seen.length → goM pl i s0 = seen[i]?
theorem SeenOk.snoc {pl : List Pt} {s0 s : Nat × List Tr} {seen : List (Nat × List Tr)} (h : SeenOk pl s0 seen) (hs : goM pl seen.length s0 = some s) : SeenOk pl s0 (seen ++ [s]) := by
  intro i hi
  rw [List.length_append, List.length_singleton] at hi
  by_cases q : i < seen.length
  · rw [List.getElem?_append_left q]
    exact h i q
  · have : i = seen.length := by omega
    subst this
    rw [List.getElem?_append_right (Nat.le_refl _), Nat.sub_self]
    exact hs
theorem howM_again {pl : List Pt} {s0 : Nat × List Tr} : ∀ (f : Nat) (seen : List (Nat × List Tr)) (s : Nat × List Tr) (e l : Nat), SeenOk pl s0 seen → goM pl seen.length s0 = some s → howM pl f seen s = (.again, e, l) →
    e < l ∧ ∃ u, goM pl e s0 = some u ∧ goM pl l s0 = some u
  | f, seen, s, e, l, hk, hs, h => by
    rw [howM_eq] at h
    cases hi : idxO seen s 0 with
    | some j =>
      rw [hi] at h
      simp only [Prod.mk.injEq, true_and] at h
      obtain ⟨rfl, rfl⟩ := h
      obtain ⟨_, h2, h3⟩ := idxO_get hi
      rw [Nat.zero_add] at h2
      rw [Nat.sub_zero] at h3
      exact ⟨h2, s, (hk j h2).trans h3, hs⟩
    | none =>
      rw [hi] at h
      dsimp only at h
      by_cases q : s.1 = pl.length
      · rw [if_pos q] at h
        simp at h
      rw [if_neg q] at h
      cases f with
      | zero => simp at h
      | succ f =>
        dsimp only at h
        cases hu : stM pl s with
        | none => rw [hu] at h; simp at h
        | some u =>
          rw [hu] at h
          refine howM_again f (seen ++ [s]) u e l (hk.snoc hs) ?_ h
          rw [List.length_append, List.length_singleton, goM_succ, hs]
          exact hu
theorem howM_mono {pl : List Pt} : ∀ (f g : Nat) (seen : List (Nat × List Tr)) (s : Nat × List Tr) (e l : Nat), f ≤ g → howM pl f seen s = (.again, e, l) → howM pl g seen s = (.again, e, l)
  | f, g, seen, s, e, l, hg, h => by
    rw [howM_eq] at h ⊢
    cases hi : idxO seen s 0 with
    | some j =>
      rw [hi] at h
      exact h
    | none =>
      rw [hi] at h
      dsimp only at h ⊢
      by_cases q : s.1 = pl.length
      · rw [if_pos q] at h ⊢
        exact h
      rw [if_neg q] at h ⊢
      cases f with
      | zero => simp at h
      | succ f =>
        obtain ⟨g, rfl⟩ : ∃ g', g = g' + 1 := ⟨g - 1, by omega⟩
        dsimp only at h ⊢
        cases hu : stM pl s with
        | none => rw [hu] at h; simp at h
        | some u =>
          rw [hu] at h
          exact howM_mono f g (seen ++ [s]) u e l (by omega) h
theorem howM_le {pl : List Pt} : ∀ (f : Nat) (seen : List (Nat × List Tr)) (s : Nat × List Tr) (e l : Nat), howM pl f seen s = (.again, e, l) → l ≤ seen.length + f
  | f, seen, s, e, l, h => by
    rw [howM_eq] at h
    cases hi : idxO seen s 0 with
    | some j =>
      rw [hi] at h
      simp only [Prod.mk.injEq, true_and] at h
      omega
    | none =>
      rw [hi] at h
      dsimp only at h
      by_cases q : s.1 = pl.length
      · rw [if_pos q] at h
        simp at h
      rw [if_neg q] at h
      cases f with
      | zero => simp at h
      | succ f =>
        dsimp only at h
        cases hu : stM pl s with
        | none => rw [hu] at h; simp at h
        | some u =>
          rw [hu] at h
          have := howM_le f (seen ++ [s]) u e l h
          rw [List.length_append, List.length_singleton] at this
          omega
theorem per_eq {pl : List Pt} {s0 u : Nat × List Tr} {e l : Nat} (h1 : goM pl e s0 = some u) (h2 : goM pl l s0 = some u) (m : Nat) : goM pl (e + m) s0 = goM pl (l + m) s0 := by
  rw [goM_add, goM_add, h1, h2]
theorem per_some {pl : List Pt} {s0 u : Nat × List Tr} {e l : Nat} (hel : e < l) (h1 : goM pl e s0 = some u) (h2 : goM pl l s0 = some u) : ∀ k, ∃ v, goM pl k s0 = some v := by
  intro k
  induction k using Nat.strongRecOn with
  | _ k ih =>
    by_cases q : k < l
    · exact goM_some h2 k (by omega)
    · have e1 := per_eq h1 h2 (k - l)
      rw [show l + (k - l) = k by omega] at e1
      rw [← e1]
      exact ih _ (by omega)
theorem stM_end {pl : List Pt} {v : Nat × List Tr} (h : pl[v.1]? = none) : stM pl v = none := by
  unfold stM
  rw [h]
/-- how a run that ends goes -/
theorem runM_ended {pl : List Pt} {x : Tr} : ∀ (b0 pt : Nat) (ns : List Tr) (st m : Nat), runM pl b0 pt ns st = (.ended, m, x) → ∃ n, m = st + n ∧ n ≤ b0 ∧ (∃ v, goM pl n (pt, ns) = some v ∧ pl[v.1]? = none) ∧ (∀ b, n ≤ b → runM pl b pt ns st = (.ended, st + n, x)) ∧ ∀ b, b < n → runM pl b pt ns st = (.opn, st + b, .nil)
  | b0, pt, ns, st, m, h => by
    cases hx : pl[pt]? with
    | none =>
      rw [runM_end hx] at h
      cases h
      refine ⟨0, rfl, Nat.zero_le _, ⟨_, rfl, hx⟩, fun b _ => runM_end hx, fun b hb => absurd hb (Nat.not_lt_zero _)⟩
    | some y =>
      cases b0 with
      | zero => rw [runM_open hx] at h; cases h
      | succ b0 =>
        cases g : y.1.grt ns with
        | true => rw [runM_great hx g] at h; cases h
        | false =>
          rw [runM_step hx g] at h
          obtain ⟨n, h1, h2, ⟨v, h3, h4⟩, h5, h6⟩ := runM_ended b0 _ _ _ _ h
          have hst : stM pl (pt, ns) = some (stepP y ns, stepN y ns) := by
            unfold stM
            rw [hx]
            exact if_neg (by rw [g]; exact Bool.false_ne_true)
          refine ⟨n + 1, by omega, by omega, ⟨v, by rw [goM_left, hst]; exact h3, h4⟩, fun b hb => ?_, fun b hb => ?_⟩
          · obtain ⟨b, rfl⟩ : ∃ b', b = b' + 1 := ⟨b - 1, by omega⟩
            rw [runM_step hx g, h5 b (by omega)]
            rw [show st + 1 + n = st + (n + 1) by omega]
          · cases b with
            | zero => exact runM_open hx
            | succ b =>
              rw [runM_step hx g, h6 b (by omega)]
              rw [show st + 1 + b = st + (b + 1) by omega]
theorem runM_opn {pl : List Pt} {x : Tr} : ∀ (b pt : Nat) (ns : List Tr) (st m : Nat), runM pl b pt ns st = (.opn, m, x) → m = st + b
  | b, pt, ns, st, m, h => by
    cases hx : pl[pt]? with
    | none => rw [runM_end hx] at h; cases h
    | some y =>
      cases b with
      | zero => rw [runM_open hx] at h; cases h; rfl
      | succ b =>
        cases g : y.1.grt ns with
        | true => rw [runM_great hx g] at h; cases h
        | false =>
          rw [runM_step hx g] at h
          have := runM_opn b _ _ _ _ h
          omega
theorem goM_le {r : List Dd} {s0 : Nat × List Tr} (h0 : s0.1 ≤ manyR r) : ∀ (n : Nat) {v : Nat × List Tr}, goM (planR r) n s0 = some v → v.1 ≤ manyR r
  | 0, v, h => by cases Option.some.inj h; exact h0
  | n + 1, v, h => by
    obtain ⟨m, _, h2⟩ := goM_pre h
    obtain ⟨x, hx, _, e⟩ := stM_some h2
    rw [e]
    exact stepP_le hx _
theorem goM_ok {pl : List Pt} (hpl : ∀ x ∈ pl, ∀ (c : Nat) (u : Tr), x.1 = .told c u → u.size ≤ 4000) {s0 : Nat × List Tr} (h0 : NsOk s0.2) : ∀ (n : Nat) {v : Nat × List Tr}, goM pl n s0 = some v → NsOk v.2
  | 0, v, h => by cases Option.some.inj h; exact h0
  | n + 1, v, h => by
    obtain ⟨m, h1, h2⟩ := goM_pre h
    obtain ⟨x, hx, g, e⟩ := stM_some h2
    rw [e]
    exact stepN_ok (goM_ok hpl h0 n h1) (fun a t q => hpl x (List.mem_of_getElem? hx) a t q) g
/-- where a run ends, it never comes again -/
theorem ended_how {r : List Dd} {t : Tr} {n : Nat} {v : Nat × List Tr} (h : goM (planR r) n (0, firstN t) = some v) (hv : (planR r)[v.1]? = none) (b : Nat) : (howM (planR r) b [] (0, firstN t)).1 ≠ .again := by
  intro e
  generalize ho : howM (planR r) b [] (0, firstN t) = o at e
  obtain ⟨w1, e1, l1⟩ := o
  subst e
  obtain ⟨hel, u, h1, h2⟩ := howM_again b [] (0, firstN t) e1 l1 (fun i hi => absurd hi (Nat.not_lt_zero _)) rfl ho
  obtain ⟨z, hz⟩ := per_some hel h1 h2 (n + 1)
  rw [goM_succ, h] at hz
  rw [Option.bind_some, stM_end hv] at hz
  cases hz
end Js

set_option Elab.async false
set_option linter.all false
set_option maxRecDepth 100000
set_option maxHeartbeats 2000000
namespace Js
open PySem L2
/-! ### plans moved on -/
def shP (k : Nat) (x : Pt) : Pt := (x.1, x.2.map (· + k))
mutual
theorem lay_sh : ∀ (d : Dd) (f n k : Nat), d.lay (f + k) (n + k) = (d.lay f n).map (shP k)
  | .told _ _, _, _, _ => by simp [Dd.lay, shP]
  | .take _ _ _, _, _, _ => by simp [Dd.lay, shP]
  | .two _ _ _ _, _, _, _ => by simp [Dd.lay, shP]
  | .wh a r, f, n, k => by
    have h := layR_sh r n (n + 1) k
    have e : n + k + 1 = n + 1 + k := by omega
    rw [Dd.lay, Dd.lay, List.map_cons, e, h]
    congr 1
    cases r <;> simp [shP] <;> omega
  | .iff a r o, f, n, k => by
    have h1 := layR_sh r f (n + 1) k
    have h2 := layR_sh o f (n + 1 + manyR r) k
    have e : n + k + 1 = n + 1 + k := by omega
    have e2 : n + 1 + k + manyR r = n + 1 + manyR r + k := by omega
    rw [Dd.lay, Dd.lay, List.map_cons, List.map_append, e, e2, h1, h2]
    congr 1
    cases r <;> cases o <;> simp [shP] <;> omega
theorem layR_sh : ∀ (r : List Dd) (f n k : Nat), layR r (f + k) (n + k) = (layR r f n).map (shP k)
  | [], _, _, _ => by simp [layR]
  | d :: r, f, n, k => by
    have h1 := lay_sh d (if r.isEmpty then f else n + d.many) n k
    have h2 := layR_sh r f (n + d.many) k
    have e : n + k + d.many = n + d.many + k := by omega
    have e2 : (if r.isEmpty = true then f + k else n + d.many + k) = (if r.isEmpty = true then f else n + d.many) + k := by split <;> rfl
    rw [layR, layR, List.map_append, e, e2, h1, h2]
end
def wOk (pl : List Pt) : Prop := ∀ x ∈ pl, x.2.length = (if x.1.look then 2 else 1)
theorem planR_ok (r : List Dd) : wOk (planR r) := fun x hx => (layR_ways r _ _ x hx).1
theorem getD_sh {ws : List Nat} {i k : Nat} (h : i < ws.length) : (ws.map (· + k)).getD i 0 = ws.getD i 0 + k := by
  rw [List.getD_eq_getElem?_getD, List.getD_eq_getElem?_getD, List.getElem?_map, List.getElem?_eq_getElem h]
  rfl
theorem stepP_sh {x : Pt} {k : Nat} (h : x.2.length = (if x.1.look then 2 else 1)) (ns : List Tr) : stepP (shP k x) ns = stepP x ns + k := by
  unfold stepP
  show (if x.1.look = true then (if 0 < (nmA ns x.1.nm1).size then (x.2.map (· + k)).getD 0 0 else (x.2.map (· + k)).getD 1 0) else (x.2.map (· + k)).getD 0 0) = _
  cases e : x.1.look with
  | true =>
    rw [e] at h
    have h2 : x.2.length = 2 := h
    rw [getD_sh (i := 0) (by omega), getD_sh (i := 1) (by omega)]
    simp only [if_true]
    split <;> rfl
  | false =>
    rw [e] at h
    have h2 : x.2.length = 1 := h
    rw [getD_sh (i := 0) (by omega)]
    rfl
theorem at_sh {pre pl : List Pt} {k : Nat} (hk : pre.length = k) (pt : Nat) : (pre ++ pl.map (shP k))[pt + k]? = (pl[pt]?).map (shP k) := by
  rw [List.getElem?_append_right (by omega), hk, Nat.add_sub_cancel, List.getElem?_map]
def shR (j : Nat) (o : Wd × Nat × Tr) : Wd × Nat × Tr := (o.1, o.2.1 + j, o.2.2)
/-- behind what stands ahead the run is the same, so many points and steps later -/
theorem runM_sh {pre pl : List Pt} {k : Nat} (hk : pre.length = k) (hw : wOk pl) (j : Nat) : ∀ (b pt : Nat) (ns : List Tr) (st : Nat), runM (pre ++ pl.map (shP k)) b (pt + k) ns (st + j) = shR j (runM pl b pt ns st)
  | 0, pt, ns, st => by
    have h := at_sh (pl := pl) hk pt
    cases e : pl[pt]? with
    | none => rw [e] at h; rw [runM_end e, runM_end h]; rfl
    | some x => rw [e] at h; rw [runM_open e, runM_open h]; rfl
  | b + 1, pt, ns, st => by
    have h := at_sh (pl := pl) hk pt
    cases e : pl[pt]? with
    | none => rw [e] at h; rw [runM_end e, runM_end h]; rfl
    | some x =>
      rw [e] at h
      have h' : (pre ++ pl.map (shP k))[pt + k]? = some (shP k x) := h
      cases g : x.1.grt ns with
      | true => rw [runM_great e g, runM_great h' g]; rfl
      | false =>
        rw [runM_step e g, runM_step h' g, stepP_sh (hw x (List.mem_of_getElem? e)) ns]
        have e1 : stepN (shP k x) ns = stepN x ns := rfl
        have e2 : st + j + 1 = st + 1 + j := by omega
        rw [e1, e2]
        exact runM_sh hk hw j b _ _ _
/-! ### deeds in a row, ahead of others -/
theorem shR_shR (i j : Nat) (o : Wd × Nat × Tr) : shR i (shR j o) = shR (j + i) o := by
  unfold shR
  rw [Nat.add_assoc]
theorem plan_cons (d : Dd) (hd : d.look = false) (r : List Dd) : planR (d :: r) = (d, [1]) :: (planR r).map (shP 1) := by
  have h := layR_sh r (manyR r) 0 1
  unfold planR
  rw [← h]
  cases d with
  | told a t => rw [many_cons, layR, Dd.lay, many_told, Nat.add_comm 1]; cases r <;> rfl
  | take s a b => rw [many_cons, layR, Dd.lay, many_take, Nat.add_comm 1]; cases r <;> rfl
  | two s a b c => rw [many_cons, layR, Dd.lay, many_two, Nat.add_comm 1]; cases r <;> rfl
  | wh a q => cases hd
  | iff a q o => cases hd
/-- the names behind deeds in a row, where none is too great -/
def doS : List Dd → List Tr → Option (List Tr)
  | [], ns => some ns
  | d :: p, ns => if d.grt ns then none else doS p (stepN (d, [1]) ns)
theorem run_pre : ∀ (p : List Dd) (_ : ∀ d ∈ p, d.look = false) (r : List Dd) (ns ns' : List Tr) (b : Nat), doS p ns = some ns' → runM (planR (p ++ r)) (b + p.length) 0 ns 0 = shR p.length (runM (planR r) b 0 ns' 0)
  | [], _, r, ns, ns', b, h => by
    cases Option.some.inj h
    rfl
  | d :: p, hp, r, ns, ns', b, h => by
    have hd := hp d (List.mem_cons_self ..)
    rw [doS] at h
    cases hg : d.grt ns with
    | true => rw [hg] at h; cases h
    | false =>
      rw [hg] at h
      have ih := run_pre p (fun x hx => hp x (List.mem_cons_of_mem _ hx)) r _ ns' b h
      rw [List.length_cons, ← shR_shR, ← ih, List.cons_append, plan_cons d hd]
      have e : b + (p.length + 1) = b + p.length + 1 := by omega
      rw [e, runM_step (x := (d, [1])) rfl hg]
      have e2 : stepP (d, [1]) ns = 0 + 1 := by
        unfold stepP
        rw [hd]
        rfl
      rw [e2]
      exact runM_sh (pre := [(d, [1])]) rfl (planR_ok _) 1 (b + p.length) 0 _ 0
end Js

set_option Elab.async false
set_option linter.all false
set_option maxRecDepth 100000
set_option maxHeartbeats 2000000
/-! deeds put behind: runs of rows one behind the other -/
namespace Js
open PySem L2
theorem layR_app : ∀ (r s : List Dd) (f n : Nat), s ≠ [] → layR (r ++ s) f n = layR r (n + manyR r) n ++ layR s f (n + manyR r)
  | [], s, f, n, hs => by
    rw [List.nil_append, many_nil, Nat.add_zero, layR, List.nil_append]
  | d :: r, s, f, n, hs => by
    have h := layR_app r s f (n + d.many) hs
    rw [List.cons_append, layR, layR, many_cons, h, List.append_assoc]
    have e1 : (r ++ s).isEmpty = false := by
      cases r with
      | nil => cases s with
        | nil => exact absurd rfl hs
        | cons a b => rfl
      | cons a b => rfl
    rw [e1]
    have e2 : (if r.isEmpty = true then n + (d.many + manyR r) else n + d.many) = n + d.many := by
      cases r with
      | nil => rw [many_nil, Nat.add_zero]; split <;> rfl
      | cons a b => rfl
    rw [e2, show n + (d.many + manyR r) = n + d.many + manyR r by omega]
    rfl
theorem plan_app (r : List Dd) {s : List Dd} (hs : s ≠ []) : planR (r ++ s) = planR r ++ (planR s).map (shP (manyR r)) := by
  unfold planR
  rw [layR_app r s _ 0 hs, Nat.zero_add, manyR_app]
  have h := layR_sh s (manyR s) 0 (manyR r)
  rw [Nat.zero_add] at h
  rw [← h, Nat.add_comm (manyR s)]
theorem stM_pre {pl X : List Pt} {s v : Nat × List Tr} (h : stM pl s = some v) : stM (pl ++ X) s = some v := by
  obtain ⟨x, hx, hg, e⟩ := stM_some h
  unfold stM
  have hx2 : (pl ++ X)[s.1]? = some x := by
    rw [List.getElem?_append_left (List.getElem?_eq_some_iff.mp hx).1]
    exact hx
  rw [hx2]
  dsimp only
  rw [if_neg (by rw [hg]; exact Bool.false_ne_true), e]
theorem goM_pre2 {pl X : List Pt} {s : Nat × List Tr} : ∀ (n : Nat) {v : Nat × List Tr}, goM pl n s = some v → goM (pl ++ X) n s = some v
  | 0, v, h => h
  | n + 1, v, h => by
    obtain ⟨m, h1, h2⟩ := goM_pre h
    rw [goM_succ, goM_pre2 n h1]
    exact stM_pre h2
theorem goM_len {pl : List Pt} {s : Nat × List Tr} : ∀ (n : Nat) {v : Nat × List Tr}, goM pl n s = some v → v.2.length = s.2.length
  | 0, v, h => by cases Option.some.inj h; rfl
  | n + 1, v, h => by
    obtain ⟨m, h1, h2⟩ := goM_pre h
    obtain ⟨x, _, _, e⟩ := stM_some h2
    rw [e, ← goM_len n h1]
    show (stepN x m.2).length = _
    unfold stepN
    split
    · rfl
    · rw [List.length_set]
/-- a run goes on from where it stands -/
theorem runM_go {pl : List Pt} : ∀ (n b pt : Nat) (ns : List Tr) (st : Nat) (v : Nat × List Tr), goM pl n (pt, ns) = some v → runM pl (n + b) pt ns st = runM pl b v.1 v.2 (st + n)
  | 0, b, pt, ns, st, v, h => by
    cases Option.some.inj h
    rw [Nat.zero_add]
    rfl
  | n + 1, b, pt, ns, st, v, h => by
    rw [goM_left] at h
    cases hs : stM pl (pt, ns) with
    | none => rw [hs] at h; cases h
    | some w =>
      rw [hs] at h
      obtain ⟨x, hx, hg, e⟩ := stM_some hs
      have e' : w = (stepP x ns, stepN x ns) := e
      subst e'
      have h' : goM pl n (stepP x ns, stepN x ns) = some v := h
      rw [show n + 1 + b = n + b + 1 by omega, runM_step hx hg, runM_go n b _ _ _ v h', show st + 1 + n = st + (n + 1) by omega]
/-- where a run ends: the stand there -/
theorem runM_stand {r : List Dd} {b N : Nat} {ns : List Tr} {y : Tr} (h : runM (planR r) b 0 ns 0 = (.ended, N, y)) : ∃ ms, goM (planR r) N (0, ns) = some (manyR r, ms) ∧ nmA ms 0 = y ∧ N ≤ b := by
  obtain ⟨n, h1, h2, ⟨v, h3, h4⟩, h5, h6⟩ := runM_ended b 0 ns 0 N h
  have e : n = N := by omega
  subst e
  have hle := goM_le (r := r) (s0 := (0, ns)) (Nat.zero_le _) n h3
  have hge : (planR r).length ≤ v.1 := List.getElem?_eq_none_iff.mp h4
  rw [planR_len] at hge
  have ev : v.1 = manyR r := by omega
  refine ⟨v.2, by rw [h3, ← ev], ?_, by omega⟩
  have h7 := h5 n (Nat.le_refl _)
  have h8 := runM_go (pl := planR r) n 0 0 ns 0 v h3
  rw [Nat.add_zero, runM_end h4, h7] at h8
  exact ((Prod.mk.inj (Prod.mk.inj h8).2).2).symm
theorem runM_ended_le {r : List Dd} {b b2 N : Nat} {ns : List Tr} {y : Tr} (h : runM (planR r) b 0 ns 0 = (.ended, N, y)) (hb : N ≤ b2) : runM (planR r) b2 0 ns 0 = (.ended, N, y) := by
  obtain ⟨n, h1, h2, _, h5, h6⟩ := runM_ended b 0 ns 0 N h
  rw [h5 b2 (by omega), h1]
/-- rows one behind the other: the second begins where the first ends -/
theorem runM_app {r s : List Dd} (hs : s ≠ []) {b N : Nat} {ns : List Tr} {y : Tr} (h : runM (planR r) b 0 ns 0 = (.ended, N, y)) : ∃ ms, nmA ms 0 = y ∧ goM (planR r) N (0, ns) = some (manyR r, ms) ∧ ∀ b', runM (planR (r ++ s)) (N + b') 0 ns 0 = shR N (runM (planR s) b' 0 ms 0) := by
  obtain ⟨ms, h1, h2, h3⟩ := runM_stand h
  refine ⟨ms, h2, h1, fun b' => ?_⟩
  rw [plan_app r hs, runM_go N b' 0 ns 0 (manyR r, ms) (goM_pre2 N h1)]
  have e := runM_sh (pre := planR r) (pl := planR s) (k := manyR r) (planR_len r) (planR_ok s) N b' 0 ms 0
  rw [show 0 + manyR r = manyR r by omega] at e
  exact e
/-! a look that shortens what it looks at, for ever -/
def behD : List Dd := [.wh 0 [.take true 0 0]]
theorem beh_plan : planR behD = [(.wh 0 [.take true 0 0], [1, 2]), (.take true 0 0, [0])] := by
  simp [planR, behD, layR, Dd.lay, manyR, Dd.many, flatR, Dd.flat]
def rowL : Tr → Nat
  | .nil => 0
  | .pr _ b => rowL b + 1
theorem beh_run : ∀ (y : Tr) (ns : List Tr) (st b : Nat), nmA ns 0 = y → ns ≠ [] → runM (planR behD) (2 * rowL y + 1 + b) 0 ns st = (.ended, st + 2 * rowL y + 1, .nil)
  | .nil, ns, st, b, h, hne => by
    rw [beh_plan, show 2 * rowL .nil + 1 + b = b + 1 by show 2 * 0 + 1 + b = b + 1; omega, runM_step (x := (.wh 0 [.take true 0 0], [1, 2])) rfl rfl]
    have e1 : stepP (.wh 0 [.take true 0 0], [1, 2]) ns = 2 := by
      unfold stepP
      show (if true = true then (if 0 < (nmA ns 0).size then 1 else 2) else 1) = 2
      rw [h]
      rfl
    have e2 : stepN (.wh 0 [.take true 0 0], [1, 2]) ns = ns := rfl
    rw [e1, e2, runM_end rfl, h]
    rfl
  | .pr x z, ns, st, b, h, hne => by
    have ih := beh_run z (ns.set 0 z) (st + 2) b (by
      cases ns with
      | nil => exact absurd rfl hne
      | cons a l => rfl) (by
      cases ns with
      | nil => exact absurd rfl hne
      | cons a l => simp)
    rw [beh_plan] at ih ⊢
    rw [show 2 * rowL (.pr x z) + 1 + b = (2 * rowL z + 1 + b) + 1 + 1 by show 2 * (rowL z + 1) + 1 + b = _; omega, runM_step (x := (.wh 0 [.take true 0 0], [1, 2])) rfl rfl]
    have e1 : stepP (.wh 0 [.take true 0 0], [1, 2]) ns = 1 := by
      unfold stepP
      show (if true = true then (if 0 < (nmA ns 0).size then 1 else 2) else 1) = 1
      rw [h, if_pos rfl, if_pos (by show 0 < 1 + x.size + z.size; omega)]
    have e2 : stepN (.wh 0 [.take true 0 0], [1, 2]) ns = ns := rfl
    rw [e1, e2, runM_step (x := (.take true 0 0, [0])) rfl rfl]
    have e3 : stepP (.take true 0 0, [0]) ns = 0 := rfl
    have e4 : stepN (.take true 0 0, [0]) ns = ns.set 0 z := by
      show ns.set 0 ((nmA ns 0).tail) = _
      rw [h]
      rfl
    rw [e3, e4, show st + 1 + 1 = st + 2 by omega, ih]
    show (Wd.ended, st + 2 + 2 * rowL z + 1, Tr.nil) = (Wd.ended, st + 2 * (rowL z + 1) + 1, Tr.nil)
    rw [show st + 2 + 2 * rowL z + 1 = st + 2 * (rowL z + 1) + 1 by omega]
/-- what is late: the told number, the bounder's deeds, and what takes more steps than its row has things -/
def lateR (r : List Dd) (z : Tr) : List Dd := .told 0 z :: (r ++ behD)
theorem late_run {r : List Dd} {z y : Tr} {b N : Nat} (h : runM (planR r) b 0 (firstN z) 0 = (.ended, N, y)) (hz : z.size ≤ 4000) (t : Tr) (b2 : Nat) (hb : 1 + N + 2 * rowL y + 1 ≤ b2) : runM (planR (lateR r z)) b2 0 (firstN t) 0 = (.ended, 1 + N + 2 * rowL y + 1, .nil) := by
  obtain ⟨ms, h1, h2, h3⟩ := runM_app (s := behD) (by simp [behD]) h
  have hms : ms ≠ [] := by
    intro e
    subst e
    have hl := goM_len (pl := planR r) N h2
    simp [firstN] at hl
  have e0 : doS [.told 0 z] (firstN t) = some (firstN z) := rfl
  obtain ⟨b3, rfl⟩ : ∃ b3, b2 = (N + (2 * rowL y + 1 + b3)) + [Dd.told 0 z].length := ⟨b2 - (1 + N + 2 * rowL y + 1), by simp; omega⟩
  show runM (planR ([Dd.told 0 z] ++ (r ++ behD))) _ 0 (firstN t) 0 = _
  rw [run_pre [.told 0 z] (fun d hd => by cases List.mem_singleton.mp hd; rfl) (r ++ behD) (firstN t) (firstN z) _ e0, h3, beh_run y ms 0 b3 h1 hms]
  show (Wd.ended, 0 + 2 * rowL y + 1 + N + 1, Tr.nil) = _
  rw [show 0 + 2 * rowL y + 1 + N + 1 = 1 + N + 2 * rowL y + 1 by omega]
end Js

set_option Elab.async false
set_option linter.all false
set_option maxRecDepth 100000
set_option maxHeartbeats 2000000
namespace Js
open PySem L2
abbrev sNumber : Stmt := top 11
def num : Nat → Tr
  | 0 => .nil
  | n + 1 => .pr .nil (num n)
theorem num_size : ∀ n, (num n).size = n
  | 0 => rfl
  | n + 1 => by simp only [num, Tr.size, num_size n]; omega
def spNumber (C : Addr) : Sp := fun vs H Q _ => ∃ n : Nat, vs = [.int (n : Nat)] ∧ n ≤ 4000 ∧ ∀ a H', Same H H' → Th C H' a (num n) → Q (.ref a) H'
section
variable {P : Program} {w : World} {K : PySem.W.Frag} {mg : Str → Option Value} {base : Heap} {C fI : Addr} {fdI : FuncData}
theorem scN : FnScope ["n", "told", "step"] ["n"] (defScope sNumber) := ⟨rfl, rfl, rfl, by decide +kernel, rfl, by decide +kernel, by decide +kernel⟩
theorem ok_number {f : Addr} {fd : FuncData} (F : Fun K "number" "number" sNumber f fd) (T : Txt K mg C) (mk : Maker P w K mg base C fI fdI) : FnOk P w K mg base CX0 4 f fd ["n"] (spNumber C) := by
  refine F.ok scN (fun vs H Q E h => ?_) (fun cdv A outer s H vs Q E hr h => ?_)
  · obtain ⟨n, rfl, _⟩ := h
    rfl
  · obtain ⟨n, rfl, hn, k⟩ := h
    refine ⟨_, pss_cons (ps_set (i := 1) scN.nd rfl (Or.inl rfl) (pe_T0 mk hr rfl))
      (pss_cons (ps_for PassesOwn.never rfl (pi_range1 rfl T.range (pa_cons (pv 0) pa_nil)) (pg_name (i := 2) scN.nd rfl (Or.inl rfl))
        (pss_one (ps_set (i := 1) scN.nd rfl (Or.inl rfl) (pe_T2 mk hr rfl (pa_cons (pe_T0 mk hr rfl) (pa_cons (pv 1) pa_nil))))))
      (pss_one (ps_ret (pv 1)))), ?_⟩
    intro x0 H1 s1 _ h1
    refine ⟨_, rfl, _, rfl, by omega, by omega, for_range (n := ((n : Nat) : Int).toNat) (fun i σ H' => ∃ x a, σ = [some (.int (n : Nat)), some (.ref a), x] ∧ Same H H' ∧ Th C H' a (num i)) ⟨none, x0, rfl, s1, h1⟩ ?_ ?_⟩
    · rintro i σ H2 hi ⟨x, a, rfl, s2, h2⟩
      intro x1 H3 s3 _ h3
      refine ⟨_, rfl, _, _, _, _, rfl, h3, h2.same s3, ?_, fun x2 H4 s4 _ h4 => ?_⟩
      · rw [num_size]
        simp only [Tr.size]
        omega
      · exact ⟨_, x2, rfl, (s2.trans s3).trans s4, h4⟩
    · rintro σ H2 ⟨x, a, rfl, s2, h2⟩
      refine ⟨_, rfl, k a H2 s2 ?_⟩
      have e : ((n : Nat) : Int).toNat = n := by omega
      rw [e] at h2
      exact h2
end
end Js

set_option Elab.async false
set_option linter.all false
set_option maxRecDepth 100000
set_option maxHeartbeats 2000000
namespace Js
open PySem L2
abbrev sRun : Stmt := top 34
def spRun (K : PySem.W.Frag) (C CP CR : Addr) : Sp := fun vs H Q _ => ∃ (a b : Addr) (r : List Dd) (t : Tr) (bud : Nat), vs = [.ref a, .ref b, .int (bud : Nat)] ∧ PgAt K C CP H a r ∧ Th C H b t ∧ t.size ≤ 4000 ∧
  ∀ z H', Same H H' → H z = none → RnAt C CR H' z (runM (planR r) bud 0 (firstN t) 0) → Q (.ref z) H'
theorem runM_size {pl : List Pt} (hpl : ∀ x ∈ pl, ∀ a t, x.1 = .told a t → t.size ≤ 4000) : ∀ (b pt : Nat) (ns : List Tr) (st : Nat), NsOk ns → (runM pl b pt ns st).2.2.size ≤ 4000
  | 0, pt, ns, st, h => by
    cases e : pl[pt]? with
    | none => rw [runM_end e]; exact nmA_le h 0
    | some x => rw [runM_open e]; exact Nat.zero_le _
  | b + 1, pt, ns, st, h => by
    cases e : pl[pt]? with
    | none => rw [runM_end e]; exact nmA_le h 0
    | some x =>
      cases g : x.1.grt ns with
      | true => rw [runM_great e g]; exact Nat.zero_le _
      | false =>
        rw [runM_step e g]
        exact runM_size hpl b _ _ _ (stepN_ok h (hpl x (List.mem_of_getElem? e)) g)
section
variable {P : Program} {w : World} {K : PySem.W.Frag} {mg : Str → Option Value} {base : Heap} {C CP CS CR N fI fR fD : Addr} {fdI fdR fdD : FuncData}
theorem scRu : FnScope ["program", "thing", "budget", "end", "names", "point", "steps"] ["program", "thing", "budget"] (defScope sRun) := ⟨rfl, rfl, rfl, by decide +kernel, rfl, by decide +kernel, by decide +kernel⟩
theorem ok_run {f : Addr} {fd : FuncData} (F : FunD K "run" "run" (defArgs sRun) (defBody sRun) (defScope sRun) [.int 2000] [] f fd) (B : Blt mg) (ml : mg "list" = none) (mgN : mg "TooGreat" = some (.ref N)) (exN : PySem.W.exmOne K (.ref N) (.ref N) = some true) (SL : Spc P w K mg base CP "__len__" 1 ["self"] (spPLen K C CP)) (DF : Def P w K mg base "first_names" 4 ["thing"] (spFirst K C))
    (MR : MkR P w K mg base CR fR fdR) (GD : FnOk P w K mg base (L2N.CX P w) 6 fD fdD ["program", "point", "names"] (spDo K C CP N)) (mgD : mg "do_deed" = some (.ref fD)) (kD : PySem.W.keepIn K (.ref fD) = true) (bD : Binds K fdD ["program", "point", "names"] []) : FnOk P w K mg base CX0 7 f fd ["program", "thing", "budget"] (spRun K C CP CR) := by
  obtain ⟨ds1, hv1, hb1⟩ := MR.b1
  refine F.ok scRu (fun vs H Q E h => ?_) (fun cdv A outer s H vs Q E hr h => ?_)
  · obtain ⟨a, b, r, t, bud, rfl, _⟩ := h
    rfl
  · obtain ⟨a, b, r, t, bud, rfl, ha, hb, hz, k⟩ := h
    have hr2 : Room 2 _ := hr.mono (by decide)
    have hr4 : Room 4 _ := hr.mono (by decide)
    have hr6 : Room 6 _ := hr
    have hrH : ∀ h : Option Value, L2H.RoomH 2 (Around.mark _ h) := fun h => L2H.roomH_mark hr2 h
    refine ⟨_, PSs.nox (pss_cons (ps_set (i := 3) scRu.nd rfl (Or.inl rfl) (pe_callB (call_lenP SL hr2) (by rfl) B.len PySem.boot_len (pa_cons (pv 0) pa_nil))) (pss_cons (ps_set (i := 4) scRu.nd rfl (Or.inl rfl) (pe_callTy call_list_of (by rfl) ml PyProof.Rows.boot_list (pa_cons (pe_def DF hr4 rfl (pa_cons (pv 1) pa_nil)) pa_nil))) (pss_cons (ps_set (i := 5) scRu.nd rfl (Or.inl rfl) pe_int) (pss_cons (ps_set (i := 6) scRu.nd rfl (Or.inl rfl) pe_int) (pss_cons (ps_while PassesOwn.never (pt_cmpR op_ne (pv 5) (pv 3) (nomark _)) (pss_cons (ps_if (pt_cmpR op_eq (pv 6) (pv 2) (nomark _)) (pss_one (ps_ret (pe_obj MR.M MR.G hr2 rfl MR.mgc hb1 hv1 (pa_cons pe_str (pa_cons (pv 6) pa_nil))))) pss_nil) (pss_cons (L2N.ps_try_many (tb := fun W => tAsg (tCallS (spDo K C CP N) (WE W) (tCons (tVar 0) (tCons (tVar 5) (tCons (tVar 4) tNil)))) (gName 5)) (l := [(.ref N, fun _ _ _ => tRet (tObj CR rfL 3 [.non] (tCons (tC (.str "great")) (tCons (tVar 6) tNil))))]) (Wout := fun _ _ _ _ => False) rfl rfl takesN (fun W pn xe tk _ => (pss_one (ps_set (i := 5) scRu.nd rfl (Or.inl rfl) (by exact (pe_callS GD hr6 rfl mgD kD bD (fun σ => L2N.passAt tk σ) (by exact (pa_cons (pv 0) (pa_cons (pv 5) (pa_cons (pv 4) pa_nil))))))))) (.cons ⟨rfl, by decide, Or.inl mgN⟩ (fun a oe cls d pn hz hf => (pss_one (ps_ret (by exact (pe_objH MR.M MR.hot (hrH _) (hot_suite hz hf) rfl MR.mgc hb1 hv1 (pa_cons pe_str (pa_cons (pv 6) pa_nil))))))) .nil)) (pss_one (ps_aug (i := 6) scRu.nd rfl (Or.inl rfl) pe_int ip_add))))) (pss_one (ps_ret (pe_obj MR.M MR.G hr2 rfl MR.mgc MR.b .nil (pa_cons pe_str (pa_cons (pv 6) (pa_cons (pe_ix (r := rIxL K) ix_list (pv 4) pe_int (fun _ _ => rfl)) pa_nil))))))))))), ?_⟩
    have hsl := line4
    refine ⟨_, rfl, a, r, rfl, ha, ?_⟩
    refine ⟨_, rfl, b, t, rfl, hb, fun q us H1 s1 hq hps => ?_⟩
    refine ⟨q, us, rfl, .inr (SqT.of hq), fun l nl => ?_⟩
    have sl := Same.new nl (o := .lst us)
    have hl0 : H l = none := s1.free nl
    have hrun : ∃ o, runM (planR r) bud 0 (firstN t) 0 = o := ⟨_, rfl⟩
    obtain ⟨o, ho⟩ := hrun
    rw [ho] at k
    have told4 : ∀ x ∈ planR r, ∀ (c : Nat) (u : Tr), x.1 = .told c u → u.size ≤ 4000 := by
      obtain ⟨dx, q', pl, ys, _, _, _, h4⟩ := ha.ex
      intro x hx c u e
      obtain ⟨i, hi, ei⟩ := List.getElem_of_mem hx
      have hi2 : i < ys.length := by rw [Paired.length h4]; exact hi
      obtain ⟨x', hx', _, _, dv, _, _, _, hdv⟩ := paired_get h4 (List.getElem?_eq_getElem hi2)
      have e2 : x' = x := by
        have : (planR r)[i]? = some x := by rw [List.getElem?_eq_getElem hi, ei]
        exact Option.some.inj (hx'.symm.trans this)
      subst e2
      rw [e] at hdv
      obtain ⟨_, _, _, _, _, _, z⟩ := hdv
      exact z
    refine ⟨fun m σ H' => ∃ (pt st : Nat) (us : List V) (ns : List Tr), σ = [some (.ref a), some (.ref b), some (.int (bud : Nat)), some (.int ((manyR r : Nat) : Int)), some (.ref l), some (.int (pt : Nat)), some (.int (st : Nat))] ∧ Same H H' ∧ H' l = some (.lst us) ∧ Paired (ThV C H') us ns ∧ NsOk ns ∧ pt ≤ manyR r ∧ st ≤ bud ∧ m = bud - st ∧ runM (planR r) (bud - st) pt ns st = o,
      ⟨_, 0, 0, us, firstN t, rfl, s1.trans sl, upd_same, ths_kt (KT.of sl) hps, firstN_ok t hz, Nat.zero_le _, Nat.zero_le _, rfl, ho⟩, ?_⟩
    rintro m σ H2 ⟨pt, st, us2, ns, rfl, s2, hl2, hps2, hok, hpt, hst, rfl, hrn⟩
    have fin : ∀ (v : V) (z dx : Addr) (H3 : Hp), Same H2 H3 → H2 z = none → H3 z = some (.ins CR dx (rfL [.str (wdS o.1), .int ((o.2.1 : Nat) : Int), v])) → RtV C H3 v o.1 o.2.2 → Q (.ref z) H3 := by
      intro v z dx H3 s3 nz hz3 hv
      exact k z H3 (s2.trans s3) (s2.free nz) ⟨dx, v, hz3, hv⟩
    refine ⟨_, rfl, _, rfl, rfl, _, rfl, ?_⟩
    by_cases hend : pt = manyR r
    · have e1 : (!decide (V.int ((pt : Nat) : Int) = V.int ((manyR r : Nat) : Int))) = false := by rw [hend]; simp
      rw [e1]
      refine iteF ?_
      have hnone : (planR r)[pt]? = none := by rw [List.getElem?_eq_none_iff, planR_len]; omega
      rw [runM_end hnone] at hrn
      obtain ⟨c, hc, hcT⟩ := nms_get hps2 hok (a := 0) (by decide)
      refine ⟨_, rfl, _, rfl, l, _, _, _, rfl, rfl, SqL.of hl2, atI_nat (j := 0) hc, rfl, fun z dx H3 s3 nz hz3 => ?_⟩
      subst hrn
      exact fin (.ref c) z dx H3 s3 nz hz3 (.inl ⟨rfl, ⟨c, rfl, hcT.same s3⟩, nmA_le hok 0⟩)
    · have e1 : (!decide (V.int ((pt : Nat) : Int) = V.int ((manyR r : Nat) : Int))) = true := by
        simp only [Bool.not_eq_true', decide_eq_false_iff_not, V.int.injEq]
        omega
      rw [e1]
      refine iteT ⟨fun σ' H3 => ∃ m', m' < bud - st ∧ _, fun σ' H3 z => z, ?_⟩
      have hlt : pt < (planR r).length := by rw [planR_len]; omega
      obtain ⟨x, hx⟩ : ∃ x, (planR r)[pt]? = some x := ⟨_, List.getElem?_eq_getElem hlt⟩
      refine ⟨_, rfl, _, rfl, rfl, _, rfl, ?_⟩
      by_cases hbd : st = bud
      · rw [decide_eq_true (show V.int ((st : Nat) : Int) = V.int ((bud : Nat) : Int) by rw [hbd])]
        refine iteT ?_
        have e0 : bud - st = 0 := by omega
        rw [e0, runM_open hx] at hrn
        refine ⟨_, rfl, rfl, fun z dx H3 s3 nz hz3 => ?_⟩
        subst hrn
        exact fin .non z dx H3 s3 nz hz3 (.inr ⟨by simp, rfl, rfl⟩)
      · rw [decide_eq_false (show ¬ V.int ((st : Nat) : Int) = V.int ((bud : Nat) : Int) from fun z => hbd (by have := V.int.inj z; omega))]
        refine iteF ?_
        obtain ⟨bb, hbb⟩ : ∃ bb, bud - st = bb + 1 := ⟨bud - st - 1, by omega⟩
        refine ⟨_, rfl, _, rfl, _, rfl, a, l, r, us2, ns, pt, x, rfl, ha.same s2, hl2, hps2, hok, hx, fun hg hok3 us3 H3 kb3 hl3 hps3 => ?_, fun hg dd H3 s3 hdd => ?_⟩
        · rw [hbb, runM_step hx hg] at hrn
          refine ⟨_, rfl, _, _, rfl, rfl, bud - (st + 1), by omega, stepP x ns, st + 1, us3, stepN x ns, rfl, fun c o' h => kb3 _ _ (ne_of_none h hl0) (s2 _ _ h), hl3, hps3, hok3, stepP_le hx ns, by omega, rfl, ?_⟩
          have e2 : bud - (st + 1) = bb := by omega
          rw [e2]
          exact hrn
        · rw [hbb, runM_great hx hg] at hrn
          refine ⟨true, exN, fun _ a0 _ => ?_, fun q => Bool.noConfusion q⟩
          refine ⟨_, rfl, rfl, fun z dx H4 s4 nz hz4 => ?_⟩
          subst hrn
          exact fin .non z dx H4 (s3.trans s4) (s3.free nz) hz4 (.inr ⟨by simp, rfl, rfl⟩)
end
end Js

set_option Elab.async false
set_option linter.all false
set_option maxRecDepth 100000
set_option maxHeartbeats 2000000
namespace Js
open PySem L2
open PySem.Spec PyProof.Rows
abbrev sCutB : Stmt := top 39
abbrev sClosed : Stmt := top 44
abbrev CS := Nat × List Cu
def Cu.key : Cu → NestedKey
  | .any => .none
  | .nil => .tup []
  | .pr a b => .tup [a.key, b.key]
theorem Cu.key_inj : ∀ a b : Cu, a.key = b.key → a = b
  | .any, .any, _ => rfl
  | .any, .nil, h => nomatch h
  | .any, .pr _ _, h => nomatch h
  | .nil, .any, h => nomatch h
  | .nil, .nil, _ => rfl
  | .nil, .pr _ _, h => by simp [Cu.key] at h
  | .pr _ _, .any, h => nomatch h
  | .pr _ _, .nil, h => by simp [Cu.key] at h
  | .pr a b, .pr c e, h => by
    simp only [Cu.key, NestedKey.tup.injEq, List.cons.injEq, and_true] at h
    rw [Cu.key_inj a c h.1, Cu.key_inj b e h.2]
theorem Cu.key_dep : ∀ c : Cu, c.key.depth = c.dep
  | .any => rfl
  | .nil => rfl
  | .pr a b => by
    simp only [Cu.key, NestedKey.depth, NestedKey.depthAll, Cu.key_dep a, Cu.key_dep b, Cu.dep]
    omega
def spK (s : CS) : NestedKey := .tup [.num s.1, .tup (s.2.map Cu.key)]
theorem csK_inj : ∀ a b : List Cu, a.map Cu.key = b.map Cu.key → a = b
  | [], [], _ => rfl
  | [], _ :: _, h => nomatch h
  | _ :: _, [], h => nomatch h
  | x :: xs, y :: ys, h => by
    rw [List.map_cons, List.map_cons, List.cons.injEq] at h
    rw [Cu.key_inj x y h.1, csK_inj xs ys h.2]
theorem spK_inj (a b : CS) (h : spK a = spK b) : a = b := by
  obtain ⟨i, cs⟩ := a
  obtain ⟨j, es⟩ := b
  simp only [spK, NestedKey.tup.injEq, List.cons.injEq, NestedKey.num.injEq, and_true] at h
  obtain ⟨h1, h2⟩ := h
  rw [csK_inj cs es h2, show i = j by omega]
theorem csK_dep {m : Nat} : ∀ cs : List Cu, (∀ c ∈ cs, c.dep ≤ m) → NestedKey.depthAll (cs.map Cu.key) ≤ m
  | [], _ => Nat.zero_le _
  | c :: cs, h => by
    have h1 := csK_dep cs (fun c hc => h c (List.mem_cons_of_mem _ hc))
    have h2 := Cu.key_dep c
    have h3 := h c (List.mem_cons_self ..)
    rw [List.map_cons, NestedKey.depthAll]
    omega
theorem spK_dep {m : Nat} (s : CS) (h : ∀ c ∈ s.2, c.dep ≤ m) : (spK s).depth ≤ m + 2 := by
  have h1 := csK_dep s.2 h
  simp only [spK, NestedKey.depth, NestedKey.depthAll]
  omega
theorem CuAt.nk {K : PySem.W.Frag} {H : Hp} : ∀ {c : Cu} {v : V}, CuAt K H v c → NkV K H v c.key
  | .any, v, h => by
    rw [h.of_any]
    exact .non
  | .nil, v, h => by
    obtain ⟨a, rfl, ha⟩ := h.of_nil
    exact .tup ha .nil
  | .pr x y, v, h => by
    obtain ⟨a, u1, u2, rfl, ha, h1, h2⟩ := h.of_pr
    exact .tup ha (.cons (CuAt.nk (c := x) h1) (.cons (CuAt.nk (c := y) h2) .nil))
theorem cus_nk {K : PySem.W.Frag} {H : Hp} : ∀ {us : List V} {cs : List Cu}, Paired (CuAt K H) us cs → NkAll K H us (cs.map Cu.key)
  | _, _, .nil => .nil
  | _, _, .cons h t => .cons h.nk (cus_nk t)
theorem SpAt.nk {K : PySem.W.Frag} {H : Hp} {v : V} {s : CS} (h : SpAt K H v s) : ∃ T, v = .ref T ∧ NkV K H (.ref T) (spK s) := by
  obtain ⟨T, q, rfl, h1, us, h2, h3⟩ := h
  exact ⟨T, rfl, .tup h1 (.cons (.int _) (.cons (.tup h2 (cus_nk h3)) .nil))⟩
theorem CuAt.tps {K : PySem.W.Frag} {H H' : Hp} (k : TpS K H H') : ∀ {c : Cu} {v : V}, CuAt K H v c → CuAt K H' v c
  | .any, v, h => by
    cases h
    exact .non
  | .nil, v, h => by
    obtain ⟨a, rfl, ha⟩ := h.of_nil
    exact .tup (k _ _ ha) .nil
  | .pr a b, v, h => by
    obtain ⟨p, u1, u2, rfl, ha, h1, h2⟩ := h.of_pr
    exact .tup (k _ _ ha) (.cons (CuAt.tps k (c := a) h1) (.cons (CuAt.tps k (c := b) h2) .nil))
theorem cus_tps {K : PySem.W.Frag} {H H' : Hp} (k : TpS K H H') : ∀ {us : List V} {cs : List Cu}, Paired (CuAt K H) us cs → Paired (CuAt K H') us cs
  | _, _, .nil => .nil
  | _, _, .cons h t => .cons (h.tps k) (cus_tps k t)
theorem SpAt.tps {K : PySem.W.Frag} {H H' : Hp} (k : TpS K H H') {v : V} {s : CS} (h : SpAt K H v s) : SpAt K H' v s := by
  obtain ⟨T, q, e, h1, us, h2, h3⟩ := h
  exact ⟨T, q, e, k _ _ h1, us, k _ _ h2, cus_tps k h3⟩
theorem SpAt.same {K : PySem.W.Frag} {H H' : Hp} (k : Same H H') {v : V} {s : CS} (h : SpAt K H v s) : SpAt K H' v s := h.tps (TpS.of k)
theorem sps_tps {K : PySem.W.Frag} {H H' : Hp} (k : TpS K H H') : ∀ {ws : List V} {xs : List CS}, Paired (SpAt K H) ws xs → Paired (SpAt K H') ws xs
  | _, _, .nil => .nil
  | _, _, .cons h t => .cons (h.tps k) (sps_tps k t)
/-- the closed set: what is found so far, what is added -/
def hasS (F : List CS) (s : CS) : Bool := F.any fun u => decide (spK u = spK s)
def addS (F : List CS) (s : CS) : List CS := if hasS F s then F else F ++ [s]
def clos (st : CS → List CS) (end_ most : Nat) : Nat → List CS → Nat → Option (List CS)
  | 0, F, _ => some F
  | f + 1, F, d => match F[d]? with
    | none => some F
    | some s => if most < F.length ∨ s.1 = end_ then none else clos st end_ most f ((st s).foldl addS F) (d + 1)
def begC (t : Tr) (dep : Nat) : CS := (0, (firstN t).map (cutC dep))
def closM (r : List Dd) (t : Tr) (dep most : Nat) : Option (List CS) := clos (fun s => stepC (planR r) s.1 s.2 dep) (manyR r) most (most + 2) [begC t dep] 0
theorem has_keys (F : List CS) (s : CS) (kvs : List (NestedKey × V)) (h : kvs.map (·.1) = F.map spK) : (valV kvs (spK s)).isSome = hasS F s := by
  rw [← valV_any, hasS]
  induction kvs generalizing F with
  | nil =>
    cases F with
    | nil => rfl
    | cons a t => exact absurd h (fun e => nomatch e)
  | cons p t ih =>
    cases F with
    | nil => exact absurd h (fun e => nomatch e)
    | cons a F =>
      rw [List.map_cons, List.map_cons, List.cons.injEq] at h
      rw [List.any_cons, List.any_cons, ih F h.2, h.1]
theorem addS_len (F : List CS) (s : CS) : (addS F s).length ≤ F.length + 1 := by
  unfold addS
  split
  · omega
  · rw [List.length_append]; exact Nat.le_refl _
theorem addAll_len : ∀ (L F : List CS), (L.foldl addS F).length ≤ F.length + L.length
  | [], F => by rw [List.foldl_nil]; exact Nat.le_refl _
  | s :: L, F => by
    have h1 := addAll_len L (addS F s)
    have h2 := addS_len F s
    rw [List.foldl_cons, List.length_cons]
    omega
theorem addAll_ge : ∀ (L F : List CS), F.length ≤ (L.foldl addS F).length
  | [], F => by rw [List.foldl_nil]; exact Nat.le_refl _
  | s :: L, F => by
    have h1 := addAll_ge L (addS F s)
    have h2 : F.length ≤ (addS F s).length := by
      unfold addS
      split
      · exact Nat.le_refl _
      · rw [List.length_append]; omega
    rw [List.foldl_cons]
    omega
theorem addS_mem {F : List CS} {s u : CS} (h : u ∈ addS F s) : u ∈ F ∨ u = s := by
  unfold addS at h
  split at h
  · exact .inl h
  · rcases List.mem_append.mp h with h | h
    · exact .inl h
    · exact .inr (List.mem_singleton.mp h)
theorem addAll_mem : ∀ (L F : List CS) (u : CS), u ∈ L.foldl addS F → u ∈ F ∨ u ∈ L
  | [], F, u, h => .inl h
  | s :: L, F, u, h => by
    rw [List.foldl_cons] at h
    rcases addAll_mem L _ u h with h | h
    · rcases addS_mem h with h | h
      · exact .inl h
      · exact .inr (h ▸ List.mem_cons_self)
    · exact .inr (List.mem_cons_of_mem _ h)
theorem ddp_mem {L : List CS} {u : CS} (h : u ∈ ddp L) : u ∈ L := by
  unfold ddp at h
  split at h
  · split at h
    · exact List.mem_cons.mpr (.inl (List.mem_singleton.mp h))
    · exact h
  · exact h
theorem ddp_len (L : List CS) : (ddp L).length ≤ L.length := by
  unfold ddp
  split
  · split
    · show 1 ≤ 2
      decide
    · exact Nat.le_refl _
  · exact Nat.le_refl _
theorem stepC_len (pl : List Pt) (pt : Nat) (cs : List Cu) (dep : Nat) : (stepC pl pt cs dep).length ≤ 2 := by
  refine Nat.le_trans (ddp_len _) ?_
  unfold stepC0
  split
  · exact Nat.zero_le _
  · split
    · rw [List.length_map]; exact waysC_len _ _ _
    · rw [List.length_map]; exact mkC_len _ _ _
theorem waysC_mem {c : Cu} {x y u : Nat} (h : u ∈ waysC c x y) : u = x ∨ u = y := by
  cases c <;> simp [waysC] at h
  · exact h
  · exact .inr h
  · exact .inl h
/-- cut stands as they come -/
def SpOk (m dep : Nat) (s : CS) : Prop := s.2.length = 10 ∧ (∀ c ∈ s.2, c.dep ≤ dep) ∧ s.1 ≤ m
theorem ways_get {r : List Dd} {pt : Nat} {x : Pt} (hx : (planR r)[pt]? = some x) {i : Nat} (hi : i < x.2.length) : x.2.getD i 0 ≤ manyR r := by
  obtain ⟨_, hw⟩ := plan_ways hx
  rw [List.getD_eq_getElem?_getD, List.getElem?_eq_getElem hi]
  exact hw _ (List.getElem_mem hi)
theorem stepC_ok {r : List Dd} {s : CS} {dep : Nat} (h : SpOk (manyR r) dep s) : ∀ u ∈ stepC (planR r) s.1 s.2 dep, SpOk (manyR r) dep u := by
  intro u hu
  have hu2 := ddp_mem hu
  unfold stepC0 at hu2
  cases hx : (planR r)[s.1]? with
  | none => rw [hx] at hu2; exact absurd hu2 (fun e => nomatch e)
  | some x =>
    rw [hx] at hu2
    dsimp only at hu2
    obtain ⟨hwl, _⟩ := plan_ways hx
    cases hlk : x.1.look with
    | true =>
      rw [hlk] at hu2 hwl
      rw [if_pos rfl] at hu2 hwl
      obtain ⟨z, hz, rfl⟩ := List.mem_map.mp hu2
      refine ⟨h.1, h.2.1, ?_⟩
      rcases waysC_mem hz with rfl | rfl
      · exact ways_get hx (by omega)
      · exact ways_get hx (by omega)
    | false =>
      rw [hlk] at hu2 hwl
      rw [if_neg Bool.false_ne_true] at hu2 hwl
      obtain ⟨z, hz, rfl⟩ := List.mem_map.mp hu2
      refine ⟨by rw [List.length_set]; exact h.1, fun c hc => ?_, ways_get hx (by omega)⟩
      rcases List.mem_or_eq_of_mem_set hc with h1 | h1
      · exact h.2.1 c h1
      · rw [h1]
        exact dwn_dep dep z
theorem begC_ok (r : List Dd) (t : Tr) (dep : Nat) : SpOk (manyR r) dep (begC t dep) := by
  refine ⟨by simp [begC, firstN], fun c hc => ?_, Nat.zero_le _⟩
  obtain ⟨u, _, rfl⟩ := List.mem_map.mp hc
  exact cutC_dep dep u
/-- what closed tells stands at v -/
def CloAt (K : PySem.W.Frag) (H : Hp) (v : V) (o : Option (List CS)) : Prop := (o = none ∧ v = .non) ∨ ∃ F l ws, o = some F ∧ v = .ref l ∧ H l = some (.lst ws) ∧ Paired (SpAt K H) ws F
theorem CloAt.same {K : PySem.W.Frag} {H H' : Hp} {v : V} {o : Option (List CS)} (s : Same H H') (h : CloAt K H v o) : CloAt K H' v o := by
  rcases h with h | ⟨F, l, ws, h1, h2, h3, h4⟩
  · exact .inl h
  · exact .inr ⟨F, l, ws, h1, h2, s _ _ h3, sps_kt (KT.of s) h4⟩
theorem clo_both {K : PySem.W.Frag} {H : Hp} {o : Option (List CS)} {Q : VK} (k : ∀ v H', Same H H' → CloAt K H' v o → (∀ l, v = .ref l → H l = none) → Q v H') :
    (o = none → ∀ H', Same H H' → Q .non H') ∧ (∀ F, o = some F → ∀ l ws H', Same H H' → H l = none → H' l = some (.lst ws) → Paired (SpAt K H') ws F → Q (.ref l) H') :=
  ⟨fun e H' s => k .non H' s (.inl ⟨e, rfl⟩) (fun _ e => nomatch e), fun F e l ws H' s n h1 h2 => k (.ref l) H' s (.inr ⟨F, l, ws, e, rfl, h1, h2⟩) (fun _ e => by cases e; exact n)⟩
def spCutB (K : PySem.W.Frag) (C : Addr) : Sp := fun vs H Q _ => ∃ (x : Addr) (t : Tr) (dep : Nat), vs = [.ref x, .int (dep : Nat)] ∧ Th C H x t ∧ dep < 5 ∧ ∀ q H', Same H H' → SpAt K H' (.ref q) (begC t dep) → Q (.ref q) H'
def spClosed (K : PySem.W.Frag) (C CP : Addr) : Sp := fun vs H Q _ => ∃ (a x : Addr) (r : List Dd) (t : Tr) (dep most : Nat), vs = [.ref a, .ref x, .int (dep : Nat), .int (most : Nat)] ∧ PgAt K C CP H a r ∧ Th C H x t ∧ dep < 5 ∧ most ≤ 90000 ∧
  ∀ v H', Same H H' → CloAt K H' v (closM r t dep most) → (∀ l, v = .ref l → H l = none) → Q v H'
section
variable {P : Program} {w : World} {K : PySem.W.Frag} {mg : Str → Option Value} {base : Heap} {C CP : Addr}
theorem scCb : FnScope ["thing", "depth", "part"] ["thing", "depth"] (defScope sCutB) := ⟨rfl, rfl, rfl, by decide +kernel, rfl, by decide +kernel, by decide +kernel⟩
theorem scCl : FnScope ["program", "thing", "depth", "most", "first", "found", "seen", "done", "stand"] ["program", "thing", "depth", "most"] (defScope sClosed) := ⟨rfl, rfl, rfl, by decide +kernel, rfl, by decide +kernel, by decide +kernel⟩
theorem ok_cutB {f : Addr} {fd : FuncData} (F : Fun K "cut_begin" "cut_begin" sCutB f fd) (mt : mg "tuple" = none) (DC : Def P w K mg base "cut" 6 ["thing", "depth"] (spCut K C 5)) (DF : Def P w K mg base "first_names" 4 ["thing"] (spFirst K C)) : FnOk P w K mg base CX0 7 f fd ["thing", "depth"] (spCutB K C) := by
  refine F.ok scCb (fun vs H Q E h => ?_) (fun cdv A outer s H vs Q E hr h => ?_)
  · obtain ⟨x, t, dep, rfl, _⟩ := h
    rfl
  · obtain ⟨x, t, dep, rfl, hx, hdep, k⟩ := h
    have hr4 : Room 4 _ := hr.mono (by decide)
    have hr6 : Room 6 _ := hr
    refine ⟨_, pss_one (ps_ret (pe_tup (pa_cons pe_int (pa_cons (pe_callTy call_tuple_of (by rfl) mt PyProof.Rows.boot_tuple (pa_cons (pe_lc (own := [("part", 2)]) (g := gName 2) (tt := tYes) rfl scCb.nd (pi_tup (pe_def DF hr4 rfl (pa_cons (pv 0) pa_nil))) (blkOk_by (N := ["thing", "depth", "part"]) (sc := defScope sCutB) (by decide +kernel)) (fun _ _ _ _ _ => (pg_name (i := 2) scCb.nd rfl (Or.inl rfl))) (fun _ _ _ _ _ => pts_nil) (fun _ _ _ _ _ => (pe_def DC hr6 rfl (pa_cons (pv 2) (pa_cons (pv 1) pa_nil))))) pa_nil)) pa_nil)))), ?_⟩
    have hsl := line4
    refine ⟨_, rfl, x, t, rfl, hx, fun q us H1 s1 hq hus => ?_⟩
    have hul := Paired.length hus
    have hf10 : (firstN t).length = 10 := by simp [firstN]
    refine ⟨q, rfl, ⟨_, SqT.of hq⟩, fun D nD => lc_tup (K := K) (a := q) (xs := us) (fun i H' => ∃ ws, Same H1 H' ∧ H' D = some (.lst ws) ∧ Paired (CuAt K H') ws (((firstN t).map (cutC dep)).take i)) ⟨[], Same.new nD, upd_same, by rw [List.take_zero]; exact .nil⟩ (fun i H' _ z => SqT.of (z.choose_spec.1 _ _ hq)) ?_ ?_⟩
    · rintro i v H2 hv ⟨ws, s2, hD2, hws⟩
      obtain ⟨u, hu, b, rfl, hb⟩ := paired_get hus hv
      refine ⟨rfl, lc_yes ?_⟩
      refine ⟨_, rfl, _, rfl, b, u, dep, rfl, hb.same s2, hdep, fun v2 H3 s3 hv2 => ?_⟩
      have hD3 := s3 _ _ hD2
      have hwl := Paired.length hws
      rw [List.length_take] at hwl
      have kt : KT H3 (upd H3 D (.lst (ws ++ [v2]))) := KT.lst hD3
      have hu' : ((firstN t).map (cutC dep))[i]? = some (cutC dep u) := by rw [List.getElem?_map, hu]; rfl
      refine ⟨_, hD3, by rw [List.length_map] at hwl; omega, ws ++ [v2], (s2.trans s3).set nD, upd_same, ?_⟩
      rw [take_snoc hu']
      refine paired_app (cus_kt ((KT.of s3).trans kt) hws) (.cons ?_ .nil)
      show Dp K _ v2 (cutC dep u).d
      rw [cutC_d]
      exact Dp_cut_kt kt _ _ _ hv2
    · rintro H2 ⟨ws, s2, hD2, hws⟩
      rw [List.take_of_length_le (by rw [List.length_map, hul]; exact Nat.le_refl _)] at hws
      refine ⟨D, ws, rfl, .inl ⟨SqL.of hD2, fun T nT => ?_⟩⟩
      have s3 := Same.new nT (o := .tup ws)
      have e3 : (upd H2 T (.tup ws)) T = some (.tup ws) := upd_same
      revert s3 e3
      generalize upd H2 T (.tup ws) = H3
      intro s3 e3
      refine ⟨by show 2 ≤ sizeLine; decide, fun T4 nT4 => ?_⟩
      have s4 := Same.new nT4 (o := .tup [V.int 0, .ref T])
      have e4 : (upd H3 T4 (.tup [V.int 0, .ref T])) T4 = some (.tup [V.int 0, .ref T]) := upd_same
      revert s4 e4
      generalize upd H3 T4 (.tup [V.int 0, .ref T]) = H4
      intro s4 e4
      exact k T4 H4 (((s1.trans s2).trans s3).trans s4) ⟨T4, T, rfl, SqT.of e4, ws, SqT.of (s4 _ _ e3), cus_kt (KT.of (s3.trans s4)) hws⟩
theorem ok_closed {f : Addr} {fd : FuncData} (F : FunD K "closed" "closed" (defArgs sClosed) (defBody sClosed) (defScope sClosed) [.int 300] [] f fd) (B : Blt mg) (SPL : Spc P w K mg base CP "__len__" 1 ["self"] (spPLen K C CP)) (DCb : Def P w K mg base "cut_begin" 7 ["thing", "depth"] (spCutB K C)) (DCs : Def P w K mg base "cut_steps" 9 ["program", "stand", "depth"] (spCutSt K C CP)) : FnOk P w K mg base CX0 10 f fd ["program", "thing", "depth", "most"] (spClosed K C CP) := by
  refine F.ok scCl (fun vs H Q E h => ?_) (fun cdv A outer s H vs Q E hr h => ?_)
  · obtain ⟨a, x, r, t, dep, most, rfl, _⟩ := h
    rfl
  · obtain ⟨a, x, r, t, dep, most, rfl, ha, hx, hdep, hmo, k⟩ := h
    obtain ⟨kn, ks⟩ := clo_both k
    clear k
    have hr2 : Room 2 _ := hr.mono (by decide)
    have hr7 : Room 7 _ := hr.mono (by decide)
    have hr9 : Room 9 _ := hr
    refine ⟨_, PSs.nox (pss_cons (ps_set (i := 4) scCl.nd rfl (Or.inl rfl) (pe_def DCb hr7 rfl (pa_cons (pv 1) (pa_cons (pv 2) pa_nil)))) (pss_cons (ps_set (i := 5) scCl.nd rfl (Or.inl rfl) (pe_lst (pa_cons (pv 4) pa_nil))) (pss_cons (ps_set (i := 6) scCl.nd rfl (Or.inl rfl) (pe_kone hr.units (pv 4) pe_bl)) (pss_cons (ps_set (i := 7) scCl.nd rfl (Or.inl rfl) pe_int) (pss_cons (ps_while PassesOwn.never (pt_cmpR op_lt (pv 7) (pe_callB call_len_seq (by rfl) B.len PySem.boot_len (pa_cons (pv 5) pa_nil)) (nomark _)) (pss_cons (ps_if (PW.pt (pw_or (pt_cmpR op_gt (pe_callB call_len_seq (by rfl) B.len PySem.boot_len (pa_cons (pv 5) pa_nil)) (pv 3) (nomark _)) (pw_or1 (pt_cmpR op_eq (pe_ix (r := rIxT K) ix_tup (pe_ix (r := rIxL K) ix_list (pv 5) (pv 7) (fun _ _ => rfl)) pe_int (fun _ _ => rfl)) (pe_callB (call_lenP SPL hr2) (by rfl) B.len PySem.boot_len (pa_cons (pv 0) pa_nil)) (nomark _))))) (pss_one (ps_ret pe_non)) pss_nil) (pss_cons (ps_for PassesOwn.never rfl (pi_list (pe_def DCs hr9 rfl (pa_cons (pv 0) (pa_cons (pe_ix (r := rIxL K) ix_list (pv 5) (pv 7) (fun _ _ => rfl)) (pa_cons (pv 2) pa_nil))))) (pg_name (i := 8) scCl.nd rfl (Or.inl rfl)) (pss_one (ps_if (pt_cmp (pc_knotin hr.units (pv 8) (pv 6))) (pss_cons (ps_asg pe_bl (pg_sub (pv 6) (pv 8) (set_kd hr.units))) (pss_one (ps_expr (pe_bm PySem.F.plainAttrs_list PySem.F.slot_list_append PySem.F.type_list_append mt_append (pv 5) (pa_cons (pv 8) pa_nil))))) pss_nil))) (pss_one (ps_aug (i := 7) scCl.nd rfl (Or.inl rfl) pe_int ip_add))))) (pss_one (ps_ret (pv 5)))))))), ?_⟩
    have hsl := line4
    have spl : ∀ {G : Hp} {v : V} {s : CS}, SpAt K G v s → SpOk (manyR r) dep s → ∃ T, v = .ref T ∧ NkV K G (.ref T) (spK s) ∧ (spK s).depth ≤ 8 := by
      intro G v s h ho
      obtain ⟨T, e, hk⟩ := h.nk
      have := spK_dep s ho.2.1
      exact ⟨T, e, hk, by omega⟩
    generalize ho : closM r t dep most = o at kn ks
    refine ⟨_, rfl, _, rfl, x, t, dep, rfl, hx, hdep, fun z0 H1 s1 hz0 => ?_⟩
    refine ⟨_, rfl, by show 1 ≤ sizeLine; decide, fun l nl => ?_⟩
    have s2 := Same.new nl (o := .lst [V.ref z0])
    have hl : (upd H1 l (.lst [V.ref z0])) l = some (.lst [V.ref z0]) := upd_same
    revert s2 hl
    generalize upd H1 l (.lst [V.ref z0]) = H2
    intro s2 hl
    refine fun d o0 nd hd0 => ?_
    have s3 := Same.new nd (o := o0)
    revert s3 hd0
    generalize upd H2 d o0 = H3
    intro hd0 s3
    obtain ⟨T0, e0, hk0, hkd0⟩ := spl (SpAt.same (s2.trans s3) hz0) (begC_ok r t dep)
    obtain rfl : z0 = T0 := V.ref.inj e0
    refine ⟨_, rfl, z0, _, rfl, hd0, hk0, hkd0, fun ob hd1 => ?_⟩
    obtain ⟨φ0, hφ0⟩ := hd0.ext
    have t4 : TpS K H3 (upd H3 d ob) := TpS.ext hφ0
    have hld : l ≠ d := ne_of_none hl nd
    have s4 : Same H2 (upd H3 d ob) := fun b o h => by rw [upd_ne (ne_of_none h nd)]; exact s3 _ _ h
    have nl : H l = none := s1.free nl
    have ndH : H d = none := (s1.trans s2).free nd
    have inv0 : ∃ (F : List CS) (ws : List V) (kvs : List (NestedKey × V)), F = [begC t dep] ∧ Same H (upd H3 d ob) ∧ (upd H3 d ob) l = some (.lst ws) ∧ Paired (SpAt K (upd H3 d ob)) ws F ∧ KdAt P w K (upd H3 d ob) d kvs ∧ kvs.map (·.1) = F.map spK :=
      ⟨_, [V.ref z0], _, rfl, (s1.trans s2).trans s4, s4 _ _ hl, .cons (SpAt.tps t4 (SpAt.same (s2.trans s3) hz0)) .nil, hd1, rfl⟩
    revert inv0
    generalize upd H3 d ob = H4
    rintro ⟨F0, ws0, kvs0, rfl, s04, hl4, hws4, hd4, hkv4⟩
    refine ⟨fun m σ H' => ∃ (dn : Nat) (x8 : Option V) (F : List CS) (ws : List V) (kvs : List (NestedKey × V)), σ = [some (.ref a), some (.ref x), some (.int (dep : Nat)), some (.int (most : Nat)), some (.ref z0), some (.ref l), some (.ref d), some (.int (dn : Nat)), x8] ∧ Same H H' ∧ H' l = some (.lst ws) ∧ Paired (SpAt K H') ws F ∧ KdAt P w K H' d kvs ∧ kvs.map (·.1) = F.map spK ∧ (∀ s ∈ F, SpOk (manyR r) dep s) ∧ F.length ≤ most + 3 ∧ dn ≤ most + 1 ∧ m = most + 2 - dn ∧ clos (fun s => stepC (planR r) s.1 s.2 dep) (manyR r) most (most + 2 - dn) F dn = o,
      ⟨_, 0, none, _, ws0, kvs0, rfl, s04, hl4, hws4, hd4, hkv4, fun s hs => by rw [List.mem_singleton.mp hs]; exact begC_ok r t dep, by show 1 ≤ most + 3; omega, Nat.zero_le _, rfl, ho⟩, ?_⟩
    rintro m σ H5 ⟨dn, x8, F, ws, kvs, rfl, s5, hl5, hws5, hd5, hkv5, hok, hFl, hdn, rfl, hcl⟩
    have hwl := Paired.length hws5
    refine ⟨_, rfl, _, rfl, l, _, rfl, .inl (SqL.of hl5), _, _, rfl, rfl, _, rfl, ?_⟩
    by_cases hlt : dn < ws.length
    rotate_left
    · rw [show decide (((dn : Nat) : Int) < ((ws.length : Nat) : Int)) = false from decide_eq_false (by omega)]
      refine iteF ?_
      have hFn : F[dn]? = none := List.getElem?_eq_none_iff.mpr (by omega)
      obtain ⟨g, hg⟩ : ∃ g, most + 2 - dn = g + 1 := ⟨most + 1 - dn, by omega⟩
      rw [hg, clos, hFn] at hcl
      exact ⟨_, rfl, ks F hcl.symm l ws H5 s5 nl hl5 hws5⟩
    rw [show decide (((dn : Nat) : Int) < ((ws.length : Nat) : Int)) = true from decide_eq_true (by omega)]
    refine iteT ⟨fun σ' H' => ∃ m', m' < most + 2 - dn ∧ _, fun σ' H' z => z, ?_⟩
    obtain ⟨g, hg⟩ : ∃ g, most + 2 - dn = g + 1 := ⟨most + 1 - dn, by omega⟩
    obtain ⟨sp, hsp⟩ : ∃ sp, F[dn]? = some sp := ⟨_, List.getElem?_eq_getElem (by omega)⟩
    obtain ⟨v, hv⟩ : ∃ v, ws[dn]? = some v := ⟨_, List.getElem?_eq_getElem hlt⟩
    obtain ⟨sp', hsp', hsv⟩ := paired_get hws5 hv
    cases Option.some.inj (hsp'.symm.trans hsp)
    obtain ⟨T, q, rfl, hT, hq⟩ := id hsv
    have hso := hok sp (List.mem_of_getElem? hsp)
    rw [hg, clos, hsp] at hcl
    dsimp only at hcl
    refine ⟨_, rfl, l, _, rfl, .inl (SqL.of hl5), _, rfl, _, _, rfl, rfl, _, rfl, ?_⟩
    by_cases hbig : most < F.length
    · rw [show decide (((most : Nat) : Int) < ((ws.length : Nat) : Int)) = true from decide_eq_true (by omega)]
      rw [if_pos (.inl hbig)] at hcl
      exact iteT (iteT (kn hcl.symm H5 s5))
    rw [show decide (((most : Nat) : Int) < ((ws.length : Nat) : Int)) = false from decide_eq_false (by omega)]
    refine iteF ⟨_, rfl, _, rfl, l, _, _, _, rfl, rfl, SqL.of hl5, atI_nat hv, T, _, 0, _, rfl, rfl, hT, at0 _ _, _, rfl, a, r, rfl, ha.same s5, rfl, _, rfl, ?_⟩
    by_cases hend : sp.1 = manyR r
    · rw [decide_eq_true (show V.int ((sp.1 : Nat) : Int) = V.int ((manyR r : Nat) : Int) by rw [hend])]
      rw [if_pos (.inr hend)] at hcl
      exact iteT (kn hcl.symm H5 s5)
    rw [decide_eq_false (show ¬ V.int ((sp.1 : Nat) : Int) = V.int ((manyR r : Nat) : Int) from fun z => hend (by have := V.int.inj z; omega))]
    rw [if_neg (fun z => z.elim hbig hend)] at hcl
    refine iteF ?_
    have hst := stepC_ok (dep := dep) hso
    have hsl2 := stepC_len (planR r) sp.1 sp.2 dep
    revert hcl
    generalize hL : stepC (planR r) sp.1 sp.2 dep = L at hst hsl2
    intro hcl
    refine ⟨_, rfl, _, rfl, _, rfl, l, _, _, _, rfl, rfl, SqL.of hl5, atI_nat hv, _, rfl, a, T, q, r, sp.1, sp.2, dep, rfl, ha.same s5, hT, hq, hso.1, fun c hc => by have := hso.2.1 c hc; omega, hdep, hso.2.2, fun L1 ls H6 s6 nL1 hL1 hls => ?_⟩
    rw [hL] at hls
    have hll := Paired.length hls
    have s06 := s5.trans s6
    have hlL : l ≠ L1 := ne_of_none hl5 nL1
    have hdL : d ≠ L1 := by
      obtain ⟨φ, h⟩ := hd5.ext
      exact ne_of_none h nL1
    refine ⟨L1, rfl, ⟨_, SqL.of hL1⟩, for_list (K := K) (a := L1) (xs := ls) (fun i σ H' => ∃ (x8 : Option V) (ws : List V) (kvs : List (NestedKey × V)), σ = [some (.ref a), some (.ref x), some (.int (dep : Nat)), some (.int (most : Nat)), some (.ref z0), some (.ref l), some (.ref d), some (.int (dn : Nat)), x8] ∧ Same H H' ∧ TpS K H6 H' ∧ H' L1 = some (.lst ls) ∧ H' l = some (.lst ws) ∧ Paired (SpAt K H') ws ((L.take i).foldl addS F) ∧ KdAt P w K H' d kvs ∧ kvs.map (·.1) = ((L.take i).foldl addS F).map spK ∧ (∀ s ∈ (L.take i).foldl addS F, SpOk (manyR r) dep s))
      ⟨x8, ws, kvs, rfl, s06, TpS.refl _ _, hL1, s6 _ _ hl5, sps_kt (KT.of s6) hws5, hd5.same s6, hkv5, hok⟩ (fun i σ H' _ z => by obtain ⟨_, _, _, _, _, _, h, _⟩ := z; exact SqL.of h) ?_ ?_⟩
    · rintro i v7 σ H7 hv7 ⟨y8, ws7, kvs7, rfl, s7, t7, hL7, hl7, hws7, hd7, hkv7, hok7⟩
      obtain ⟨s', hs', hvs⟩ := paired_get hls hv7
      have hso' := hst s' (List.mem_of_getElem? hs')
      obtain ⟨T7, rfl, hk7, hkd7⟩ := spl (hvs.tps t7) hso'
      have etk : (L.take (i + 1)).foldl addS F = addS ((L.take i).foldl addS F) s' := by rw [take_snoc hs', List.foldl_append]; rfl
      have hlen7 := addAll_len (L.take i) F
      have htl : (L.take i).length ≤ 2 := by rw [List.length_take]; omega
      rw [etk]
      revert hws7 hkv7 hok7 hlen7
      generalize (L.take i).foldl addS F = G
      intro hws7 hkv7 hok7 hlen7
      have hwl7 := Paired.length hws7
      have hkl7 : kvs7.length = G.length := by have := congrArg List.length hkv7; rw [List.length_map, List.length_map] at this; exact this
      refine ⟨_, rfl, _, rfl, d, T7, kvs7, spK s', rfl, rfl, hd7, hk7, hkd7, ?_⟩
      rw [has_keys G s' kvs7 hkv7]
      cases hh : hasS G s' with
      | true =>
        refine ⟨_, rfl, iteF ?_⟩
        have ea : addS G s' = G := by unfold addS; rw [hh]; rfl
        rw [ea]
        exact ⟨_, ws7, kvs7, rfl, s7, t7, hL7, hl7, hws7, hd7, hkv7, hok7⟩
      | false =>
        refine ⟨_, rfl, iteT ?_⟩
        have ea : addS G s' = G ++ [s'] := by unfold addS; rw [hh]; rfl
        rw [ea]
        refine ⟨_, rfl, _, rfl, d, T7, kvs7, spK s', rfl, rfl, hd7, hk7, hkd7, by omega, fun ob8 hd8 => ?_⟩
        obtain ⟨φ7, hφ7⟩ := hd7.ext
        have t8 : TpS K H7 (upd H7 d ob8) := TpS.ext hφ7
        have hl8 : (upd H7 d ob8) l = some (.lst ws7) := by rw [upd_ne hld]; exact hl7
        have hL8 : (upd H7 d ob8) L1 = some (.lst ls) := by rw [upd_ne (Ne.symm hdL)]; exact hL7
        have s8 : Same H (upd H7 d ob8) := s7.set ndH
        have hpk : putK kvs7 (spK s') (V.bl true) = kvs7 ++ [(spK s', V.bl true)] := putK_new _ (by
          have := has_keys G s' kvs7 hkv7
          rw [hh] at this
          exact Option.not_isSome_iff_eq_none.mp (by rw [this]; exact Bool.false_ne_true))
        rw [hpk] at hd8
        revert t8 hl8 hL8 s8 hd8
        generalize upd H7 d ob8 = H8
        intro hd8 t8 hl8 hL8 s8
        refine ⟨_, rfl, .inl ⟨rfl, _, SqL.of hl8⟩, _, rfl, l, _, _, rfl, rfl, hl8, by omega, ?_⟩
        have kt : KT H8 (upd H8 l (.lst (ws7 ++ [V.ref T7]))) := KT.lst hl8
        refine ⟨_, ws7 ++ [V.ref T7], kvs7 ++ [(spK s', V.bl true)], rfl, s8.set nl, (t7.trans t8).trans (TpS.kt kt), by rw [upd_ne (Ne.symm hlL)]; exact hL8, upd_same, paired_app (sps_kt kt (sps_tps t8 hws7)) (.cons (((hvs.tps t7).tps t8).kt kt) .nil), hd8.kt kt, by rw [List.map_append, List.map_append, hkv7]; rfl, fun s hs => ?_⟩
        rcases List.mem_append.mp hs with hs | hs
        · exact hok7 s hs
        · rw [List.mem_singleton.mp hs]
          exact hso'
    · rintro σ H7 ⟨y8, ws7, kvs7, rfl, s7, t7, hL7, hl7, hws7, hd7, hkv7, hok7⟩
      rw [List.take_of_length_le (by omega)] at hws7 hkv7 hok7
      have hlen7 := addAll_len L F
      refine ⟨_, rfl, _, _, rfl, rfl, most + 2 - (dn + 1), by omega, dn + 1, y8, _, ws7, kvs7, rfl, s7, hl7, hws7, hd7, hkv7, hok7, by omega, by omega, rfl, ?_⟩
      rw [show most + 2 - (dn + 1) = g by omega]
      exact hcl
end
end Js

set_option Elab.async false
set_option linter.all false
set_option maxRecDepth 100000
set_option maxHeartbeats 2000000
namespace Js
open PySem L2
open PySem.Spec PyProof.Rows
abbrev sEndless : Stmt := top 57
theorem hw_inj {a b : Hw} (h : hwS a = hwS b) : a = b := by
  revert h
  cases a <;> cases b <;> first | exact fun _ => rfl | (intro h; exact absurd h (by decide +kernel))
/-- the first depth at which a closed set comes -/
def firstC (r : List Dd) (t : Tr) : List Nat → Option (Nat × List CS)
  | [] => none
  | d :: ds => match closM r t d 300 with
    | some F => some (d, F)
    | none => firstC r t ds
theorem firstC_none {r : List Dd} {t : Tr} {d : Nat} {ds : List Nat} (h : closM r t d 300 = none) : firstC r t (d :: ds) = firstC r t ds := by rw [firstC, h]
theorem firstC_some {r : List Dd} {t : Tr} {d : Nat} {ds : List Nat} {F : List CS} (h : closM r t d 300 = some F) : firstC r t (d :: ds) = some (d, F) := by rw [firstC, h]
inductive ElO where
  | no
  | again (e l : Nat)
  | closed (d : Nat) (F : List CS)
def elM (r : List Dd) (t : Tr) (o : Hw × Nat × Nat) : ElO :=
  if o.1 = .again then .again o.2.1 o.2.2 else if o.1 = .ended then .no else match firstC r t [1, 2, 3] with
    | some (d, F) => .closed d F
    | none => .no
/-- what endless tells: the list of a closed set is a new one -/
def ElD (K : PySem.W.Frag) (H0 H : Hp) (v : V) (a x : Addr) : ElO → Prop
  | .no => v = .non
  | .again e l => ∃ q, v = .ref q ∧ SqT K H q [.str "again", .ref a, .ref x, .int (e : Nat), .int (l : Nat)]
  | .closed d F => ∃ (q l : Addr) (ws : List V), v = .ref q ∧ SqT K H q [.str "closed", .ref a, .ref x, .int (d : Nat), .ref l] ∧ H0 l = none ∧ H l = some (.lst ws) ∧ Paired (SpAt K H) ws F
def spEndless (K : PySem.W.Frag) (C CP : Addr) : Sp := fun vs H Q _ => ∃ (a x : Addr) (r : List Dd) (t : Tr) (bud : Nat), vs = [.ref a, .ref x, .int (bud : Nat)] ∧ PgAt K C CP H a r ∧ Th C H x t ∧ t.size ≤ 4000 ∧ manyR r ≤ 2000 ∧ bud ≤ 1000000 ∧
  ∀ v H', Same H H' → ElD K H H' v a x (elM r t (howM (planR r) bud [] (0, firstN t))) → Q v H'
section
variable {P : Program} {w : World} {K : PySem.W.Frag} {mg : Str → Option Value} {base : Heap} {C CP : Addr}
theorem scEl : FnScope ["program", "thing", "budget", "word", "early", "late", "depth", "found"] ["program", "thing", "budget"] (defScope sEndless) := ⟨rfl, rfl, rfl, by decide +kernel, rfl, by decide +kernel, by decide +kernel⟩
theorem ok_endless {f : Addr} {fd : FuncData} {aD : Addr} (F : FunD K "endless" "endless" (defArgs sEndless) (defBody sEndless) (defScope sEndless) [.int 2000] [] f fd) (mDp : mg "DEPTHS" = some (.ref aD)) (hDp : ∀ H, SqT K H aD [.int 1, .int 2, .int 3]) {tM : Tok} (mMs : mg "MOST_STANDS" = some (.int 300 tM)) (DHw : Def P w K mg base "how_it_goes" 8 ["program", "thing", "budget"] (spHow K C CP)) (DCl : Def P w K mg base "closed" 10 ["program", "thing", "depth", "most"] (spClosed K C CP)) : FnOk P w K mg base CX0 11 f fd ["program", "thing", "budget"] (spEndless K C CP) := by
  refine F.ok scEl (fun vs H Q E h => ?_) (fun cdv A outer s H vs Q E hr h => ?_)
  · obtain ⟨a, x, r, t, bud, rfl, _⟩ := h
    rfl
  · obtain ⟨a, x, r, t, bud, rfl, ha, hx, htz, hmn, hbud, k⟩ := h
    have hr8 : Room 8 _ := hr.mono (by decide)
    have hr10 : Room 10 _ := hr
    refine ⟨_, PSs.nox (pss_cons (ps_asg (pe_def DHw hr8 rfl (pa_cons (pv 0) (pa_cons (pv 1) (pa_cons (pv 2) pa_nil)))) (pg_tup rfl (pgs_cons (pg_name (i := 3) scEl.nd rfl (Or.inl rfl)) (pgs_cons (pg_name (i := 4) scEl.nd rfl (Or.inl rfl)) (pgs_cons (pg_name (i := 5) scEl.nd rfl (Or.inl rfl)) pgs_nil))))) (pss_cons (ps_if (pt_cmpR op_eq (pv 3) pe_str (nomark _)) (pss_one (ps_ret (pe_tup (pa_cons pe_str (pa_cons (pv 0) (pa_cons (pv 1) (pa_cons (pv 4) (pa_cons (pv 5) pa_nil)))))))) pss_nil) (pss_cons (ps_if (pt_cmpR op_eq (pv 3) pe_str (nomark _)) (pss_one (ps_ret pe_non)) pss_nil) (pss_cons (ps_for PassesOwn.never rfl (pi_tup (pe_glob (v := .ref aD) rfl mDp rfl)) (pg_name (i := 6) scEl.nd rfl (Or.inl rfl)) (pss_cons (ps_set (i := 7) scEl.nd rfl (Or.inl rfl) (pe_def DCl hr10 rfl (pa_cons (pv 0) (pa_cons (pv 1) (pa_cons (pv 6) (pa_cons (pe_glob (v := .int 300) rfl mMs ⟨_, rfl⟩) pa_nil)))))) (pss_one (ps_if (pt_cmp (pc_notN (pv 7))) (pss_one (ps_ret (pe_tup (pa_cons pe_str (pa_cons (pv 0) (pa_cons (pv 1) (pa_cons (pv 6) (pa_cons (pv 7) pa_nil)))))))) pss_nil)))) (pss_one (ps_ret pe_non)))))), ?_⟩
    have hsl := line4
    refine ⟨_, rfl, _, rfl, _, rfl, a, x, r, t, bud, rfl, ha, hx, htz, hmn, hbud, fun q H1 s1 hq => ?_⟩
    revert hq k
    generalize howM (planR r) bud [] (0, firstN t) = o
    intro k hq
    refine ⟨q, _, rfl, hq, rfl, ?_⟩
    refine ⟨_, _, rfl, _, _, rfl, _, _, rfl, rfl, _, rfl, rfl, _, rfl, ?_⟩
    by_cases e : o.1 = .again
    · rw [e]
      refine iteT ⟨_, rfl, _, rfl, _, rfl, _, rfl, ?_⟩
      refine ⟨by show 5 ≤ sizeLine; omega, fun T nT => ?_⟩
      refine k _ _ (s1.trans (Same.new nT)) ?_
      unfold elM
      rw [if_pos e]
      exact ⟨T, rfl, SqT.of upd_same⟩
    have hb : decide (V.str (hwS o.1) = V.str "again") = false := decide_eq_false fun z => e (hw_inj (b := .again) (V.str.inj z))
    rw [hb]
    refine iteF ⟨_, rfl, rfl, _, rfl, ?_⟩
    by_cases e2 : o.1 = .ended
    · rw [e2]
      refine iteT (k _ _ s1 ?_)
      unfold elM
      rw [if_neg e, if_pos e2]
      rfl
    have hb2 : decide (V.str (hwS o.1) = V.str "ended") = false := decide_eq_false fun z => e2 (hw_inj (b := .ended) (V.str.inj z))
    rw [hb2]
    refine iteF ?_
    refine ⟨aD, rfl, ⟨_, hDp _⟩, for_tup (K := K) (a := aD) (xs := [.int 1, .int 2, .int 3]) (fun i σ H' => ∃ x6 x7 : Option V, σ = [some (.ref a), some (.ref x), some (.int (bud : Nat)), some (.str (hwS o.1)), some (.int (o.2.1 : Nat)), some (.int (o.2.2 : Nat)), x6, x7] ∧ Same H H' ∧ firstC r t [1, 2, 3] = firstC r t ([1, 2, 3].drop i)) ⟨none, none, rfl, s1, rfl⟩ (fun i σ H' _ _ => hDp _) ?_ ?_⟩
    · rintro i v σ H2 hi ⟨x6, x7, rfl, s2, hfc⟩
      obtain ⟨dep, rfl, hd0, hd5, hdd⟩ : ∃ dep : Nat, v = .int (dep : Nat) ∧ 0 < dep ∧ dep < 5 ∧ [1, 2, 3].drop i = dep :: [1, 2, 3].drop (i + 1) := by
        match i, hi with
        | 0, hi => exact ⟨1, (Option.some.inj hi).symm, by decide, by decide, rfl⟩
        | 1, hi => exact ⟨2, (Option.some.inj hi).symm, by decide, by decide, rfl⟩
        | 2, hi => exact ⟨3, (Option.some.inj hi).symm, by decide, by decide, rfl⟩
      refine ⟨_, rfl, _, rfl, _, rfl, a, x, r, t, dep, 300, rfl, ha.same s2, hx.same s2, hd5, by decide, fun vf H3 s3 hf hnw => ?_⟩
      rw [hdd] at hfc
      have s03 := s2.trans s3
      revert hf
      cases hcl : closM r t dep 300 with
      | none =>
        intro hf
        rcases hf with ⟨_, rfl⟩ | ⟨_, _, _, q, _⟩
        · refine ⟨_, rfl, _, rfl, iteF ?_⟩
          exact ⟨_, _, rfl, s03, hfc.trans (firstC_none hcl)⟩
        · cases q
      | some F =>
        intro hf
        obtain ⟨lf, wsf, rfl, hlf, hpf⟩ : ∃ lf wsf, vf = .ref lf ∧ H3 lf = some (.lst wsf) ∧ Paired (SpAt K H3) wsf F := by
          rcases hf with ⟨q, _⟩ | ⟨_, lf, wsf, e1, q, h1, h2⟩
          · cases q
          · cases e1
            exact ⟨lf, wsf, q, h1, h2⟩

        refine ⟨_, rfl, _, rfl, iteT ?_⟩
        refine ⟨_, rfl, _, rfl, _, rfl, _, rfl, ?_⟩
        refine ⟨by show 5 ≤ sizeLine; omega, fun T nT => ?_⟩
        refine k _ _ (s03.trans (Same.new nT)) ?_
        unfold elM
        rw [if_neg e, if_neg e2, hfc.trans (firstC_some hcl)]
        exact ⟨T, lf, wsf, rfl, SqT.of upd_same, s2.free (hnw lf rfl), (Same.new nT) _ _ hlf, sps_tps (TpS.of (Same.new nT)) hpf⟩
    · rintro σ H2 ⟨x6, x7, rfl, s2, hfc⟩
      refine k _ _ s2 ?_
      unfold elM
      rw [if_neg e, if_neg e2, hfc]
      rfl
end
end Js

set_option Elab.async false
set_option linter.all false
set_option maxRecDepth 100000
set_option maxHeartbeats 2000000
/-! the first deeds of a row, and the rest of it -/
namespace Js
open PySem PySem.Spec PyProof.Rows L2
theorem DsAt_tkP {K : PySem.W.Frag} {C : Addr} {H : Hp} : ∀ (n : Nat) (r : List Dd) (vs : List V), DsAt K C H vs r → DsAt K C H (vs.take n) (r.take n)
  | 0, r, vs, _ => by rw [List.take_zero, List.take_zero]; rfl
  | n + 1, [], vs, h => by
    have e : vs = [] := h
    subst e
    rfl
  | n + 1, d :: r, vs, h => by
    obtain ⟨v, us, rfl, h1, h2⟩ := h
    exact ⟨v, us.take n, rfl, h1, DsAt_tkP n r us h2⟩
theorem DsAt_drP {K : PySem.W.Frag} {C : Addr} {H : Hp} : ∀ (n : Nat) (r : List Dd) (vs : List V), DsAt K C H vs r → DsAt K C H (vs.drop n) (r.drop n)
  | 0, r, vs, h => by rw [List.drop_zero, List.drop_zero]; exact h
  | n + 1, [], vs, h => by
    have e : vs = [] := h
    subst e
    rfl
  | n + 1, d :: r, vs, h => by
    obtain ⟨v, us, rfl, h1, h2⟩ := h
    exact DsAt_drP n r us h2
theorem tk_leP : ∀ (n : Nat) (r : List Dd), deepR (r.take n) ≤ deepR r ∧ manyR (r.take n) ≤ manyR r
  | 0, r => by rw [List.take_zero, deepR, many_nil]; exact ⟨Nat.zero_le _, Nat.zero_le _⟩
  | n + 1, [] => ⟨Nat.le_refl _, Nat.le_refl _⟩
  | n + 1, d :: r => by
    have h := tk_leP n r
    rw [List.take_succ_cons, deepR, deepR, many_cons, many_cons]
    omega
theorem dr_leP : ∀ (n : Nat) (r : List Dd), deepR (r.drop n) ≤ deepR r ∧ manyR (r.take n) + manyR (r.drop n) = manyR r
  | 0, r => by rw [List.take_zero, List.drop_zero, many_nil]; exact ⟨Nat.le_refl _, by omega⟩
  | n + 1, [] => ⟨Nat.le_refl _, rfl⟩
  | n + 1, d :: r => by
    have h := dr_leP n r
    rw [List.take_succ_cons, List.drop_succ_cons, deepR, many_cons, many_cons]
    omega
theorem dr_leP1 : ∀ (n : Nat) (r : List Dd), manyR (r.drop (n + 1)) ≤ manyR (r.drop n)
  | 0, [] => Nat.le_refl _
  | 0, d :: r => by rw [List.drop_succ_cons, List.drop_zero, List.drop_zero, many_cons]; omega
  | n + 1, [] => Nat.le_refl _
  | n + 1, d :: r => by rw [List.drop_succ_cons, List.drop_succ_cons]; exact dr_leP1 n r
section
variable {X : Cx} {C : Addr}
/-- r[:n] -/
theorem sl_tkP : SlR X (fun x lo hi H Q => ∃ q r, ∃ n : Nat, x = .ref q ∧ lo = none ∧ hi = some (n : Int) ∧ RAt X.K C H q r ∧ ∀ q' H', Same H H' → RAt X.K C H' q' (r.take n) → Q (.ref q') H') := by
  intro pins s σ H x v vl vu lo hi sl Q I rx hs pl pu h
  obtain ⟨q, r, n, rfl, rfl, rfl, ⟨vs, h1, h2⟩, k⟩ := h
  have lv := DsAt.length r vs h2
  have eh : HT.sIx vs.length vs.length (some (n : Int)) = min n vs.length := HT.sIx_nat _ _ _
  refine sl_tupA pins s σ H _ v vl vu _ _ sl Q I rx hs pl pu ⟨q, vs, rfl, h1, fun hw => ?_, fun _ p np => ?_⟩
  · rw [eh] at hw
    refine k q H (Same.refl H) ?_
    rw [List.take_of_length_le (by omega)]
    exact ⟨vs, h1, h2⟩
  · have sn := Same.new np (o := .tup (cutV vs none (some (n : Int))))
    refine k p _ sn ⟨_, SqT.of upd_same, ?_⟩
    have ec : cutV vs none (some (n : Int)) = vs.take n := by
      unfold cutV
      rw [eh, HT.sIx_none, Nat.sub_zero, List.drop_zero, List.take_eq_take_iff]
      omega
    rw [ec] at sn ⊢
    exact DsAt_kt (KT.of sn) _ _ (DsAt_tkP n r vs h2)
/-- r[n:] -/
theorem sl_drP : SlR X (fun x lo hi H Q => ∃ q r, ∃ n : Nat, x = .ref q ∧ lo = some (n : Int) ∧ hi = none ∧ RAt X.K C H q r ∧ ∀ q' H', Same H H' → RAt X.K C H' q' (r.drop n) → Q (.ref q') H') := by
  intro pins s σ H x v vl vu lo hi sl Q I rx hs pl pu h
  obtain ⟨q, r, n, rfl, rfl, rfl, ⟨vs, h1, h2⟩, k⟩ := h
  have lv := DsAt.length r vs h2
  have eh : HT.sIx vs.length 0 (some (n : Int)) = min n vs.length := HT.sIx_nat _ _ _
  refine sl_tupA pins s σ H _ v vl vu _ _ sl Q I rx hs pl pu ⟨q, vs, rfl, h1, fun hw => ?_, fun _ p np => ?_⟩
  · rw [eh] at hw
    refine k q H (Same.refl H) ?_
    by_cases hn : n = 0
    · rw [hn, List.drop_zero]
      exact ⟨vs, h1, h2⟩
    · have hx : vs.length = 0 := by omega
      have e1 : vs = [] := List.length_eq_zero_iff.mp hx
      have e2 : r = [] := List.length_eq_zero_iff.mp (by omega)
      subst e2
      rw [List.drop_nil]
      exact ⟨vs, h1, h2⟩
  · have sn := Same.new np (o := .tup (cutV vs (some (n : Int)) none))
    refine k p _ sn ⟨_, SqT.of upd_same, ?_⟩
    have ec : cutV vs (some (n : Int)) none = vs.drop n := by
      unfold cutV
      rw [eh, HT.sIx_none]
      by_cases hn : n ≤ vs.length
      · rw [Nat.min_eq_left hn, List.take_of_length_le (by rw [List.length_drop]; omega)]
      · rw [Nat.min_eq_right (by omega), List.drop_of_length_le (Nat.le_refl _), List.drop_of_length_le (by omega), List.take_nil]
    rw [ec] at sn ⊢
    exact DsAt_kt (KT.of sn) _ _ (DsAt_drP n r vs h2)
end
end Js

set_option Elab.async false
set_option linter.all false
set_option maxRecDepth 100000
set_option maxHeartbeats 2000000
namespace Js
open PySem L2
open PySem.Spec PyProof.Rows
abbrev sLate : Stmt := top 62
theorem DsAt_appP {K : PySem.W.Frag} {C : Addr} {H : Hp} : ∀ (r u : List Dd) (vs us : List V), DsAt K C H vs r → DsAt K C H us u → DsAt K C H (vs ++ us) (r ++ u)
  | [], u, vs, us, h, g => by
    have e : vs = [] := h
    subst e
    exact g
  | e :: r, u, vs, us, h, g => by
    obtain ⟨v, ws, rfl, h1, h2⟩ := h
    exact ⟨v, ws ++ us, rfl, h1, DsAt_appP r u ws us h2 g⟩
theorem deepR_appP : ∀ (a b : List Dd), deepR (a ++ b) = max (deepR a) (deepR b)
  | [], b => by rw [List.nil_append, deepR, Nat.max_eq_right (Nat.zero_le _)]
  | d :: a, b => by rw [List.cons_append, deepR, deepR_appP a b, deepR, Nat.max_assoc]
theorem len_manyP : ∀ r : List Dd, r.length ≤ manyR r
  | [] => Nat.zero_le _
  | d :: r => by
    have h := len_manyP r
    have h2 := many_pos d
    rw [List.length_cons, many_cons]
    omega
section
variable {X : Cx} {C : Addr}
/-- a row behind a row -/
theorem op_catP : OpR X (binaryOp .Add) (fun x y H Q => ∃ q q2 r u, x = .ref q ∧ y = .ref q2 ∧ RAt X.K C H q r ∧ RAt X.K C H q2 u ∧ r.length + u.length ≤ 100000 ∧ ∀ q' H', Same H H' → RAt X.K C H' q' (r ++ u) → Q (.ref q') H') :=
  OpR.imp op_catA fun x y H Q h => by
    obtain ⟨q, q2, r, u, rfl, rfl, ⟨vs, h1, h2⟩, ⟨us, g1, g2⟩, hl, k⟩ := h
    have lv := DsAt.length r vs h2
    have lu := DsAt.length u us g2
    have hsl := line4
    refine ⟨q, q2, vs, us, rfl, rfl, h1, g1, by omega, fun e0 => ?_, fun _ e1 => ?_, fun _ _ U nU => ?_⟩
    · subst e0
      have er : r = [] := List.length_eq_zero_iff.mp lv.symm
      subst er
      exact k q2 H (Same.refl H) ⟨us, g1, g2⟩
    · subst e1
      have er : u = [] := List.length_eq_zero_iff.mp lu.symm
      subst er
      exact k q H (Same.refl H) (by rw [List.append_nil]; exact ⟨vs, h1, h2⟩)
    · have sU := Same.new nU (o := .tup (vs ++ us))
      exact k U _ sU ⟨_, SqT.of upd_same, DsAt_appP r u vs us (DsAt_kt (KT.of sU) r vs h2) (DsAt_kt (KT.of sU) u us g2)⟩
end
/-- the run that is asked of a bounder -/
def saidR (r : List Dd) (n b : Nat) : Wd × Nat × Tr := runM (planR r) b 0 (firstN (num n)) 0
theorem ElD.same {K : PySem.W.Frag} {H0 H H' : Hp} {v : V} {a x : Addr} {e : ElO} (s : Same H H') (h : ElD K H0 H v a x e) : ElD K H0 H' v a x e := by
  cases e with
  | no => exact h
  | again e l =>
    obtain ⟨q, h1, h2⟩ := h
    exact ⟨q, h1, sqt_kt (KT.of s) h2⟩
  | closed d F =>
    obtain ⟨q, l, ws, h1, h2, h3, h4, h5⟩ := h
    exact ⟨q, l, ws, h1, sqt_kt (KT.of s) h2, h3, s _ _ h4, sps_tps (TpS.of s) h5⟩
theorem ElD.old {K : PySem.W.Frag} {H0 H1 H : Hp} {v : V} {a x : Addr} {e : ElO} (s : Same H0 H1) (h : ElD K H1 H v a x e) : ElD K H0 H v a x e := by
  cases e with
  | no => exact h
  | again e l => exact h
  | closed d F =>
    obtain ⟨q, l, ws, h1, h2, h3, h4, h5⟩ := h
    exact ⟨q, l, ws, h1, h2, s.free h3, h4, h5⟩
def elW : ElO → Str
  | .no => "open"
  | .again _ _ => "silent"
  | .closed _ _ => "silent"
/-- what is found of a bounder that does not end -/
def elR (r : List Dd) (bud : Nat) : ElO := elM r (num (manyR r + 3)) (howM (planR r) bud [] (0, firstN (num (manyR r + 3))))
def LtD (K : PySem.W.Frag) (C : Addr) (H0 H : Hp) (a m : Addr) (r : List Dd) (bud : Nat) (wd : Str) (vp : V) : Prop :=
  ((saidR r (manyR r + 3) bud).1 = .ended → wd = "late" ∧ ∃ q, vp = .ref q ∧ SqT K H q [.str "late", .ref a, .ref m]) ∧
  ((saidR r (manyR r + 3) bud).1 ≠ .ended → ∃ z, Th C H z (num (manyR r + 3)) ∧ ElD K H0 H vp a z (elR r bud) ∧ wd = elW (elR r bud))
def spLate (K : PySem.W.Frag) (C CP : Addr) : Sp := fun vs H Q _ => ∃ (a : Addr) (r : List Dd) (bud : Nat), vs = [.ref a, .int (bud : Nat)] ∧ PgAt K C CP H a r ∧ manyR r ≤ 1990 ∧ bud ≤ 1000000 ∧
  ∀ T m wd vp H', Same H H' → SqT K H' T [.str wd, .ref m, vp] → PgAt K C CP H' m (lateR r (num (manyR r + 3))) → LtD K C H H' a m r bud wd vp → Q (.ref T) H'
theorem late_many (r : List Dd) (z : Tr) : manyR (lateR r z) = manyR r + 3 := by
  unfold lateR behD
  rw [many_cons, many_told, manyR_app, many_cons, many_wh, many_cons, many_take, many_nil]
  omega
theorem late_deep (r : List Dd) (z : Tr) : deepR (lateR r z) = max (deepR r) 1 := by
  unfold lateR behD
  rw [deepR, deepR_appP]
  simp [deepR, Dd.deep]
section
variable {P : Program} {w : World} {K : PySem.W.Frag} {mg : Str → Option Value} {base : Heap} {C CP CR fI fP aB : Addr} {fdI fdP : FuncData} {t3 : Tok}
theorem scLt : FnScope ["bounder", "budget", "size", "made", "paper"] ["bounder", "budget"] (defScope sLate) := ⟨rfl, rfl, rfl, by decide +kernel, rfl, by decide +kernel, by decide +kernel⟩
theorem ok_late {f : Addr} {fd : FuncData} (F : FunD K "late" "late" (defArgs sLate) (defBody sLate) (defScope sLate) [.int 4000] [] f fd) (B : Blt mg) (TP : TxtP K mg CP) (TR : TxtR K mg CR) (mMd : mg "MORE_DEEDS" = some (.int 3 t3)) (mBh : mg "BEHIND" = some (.ref aB)) (hBh : ∀ H, RAt K C H aB behD) (SPL : Spc P w K mg base CP "__len__" 1 ["self"] (spPLen K C CP)) (MP : MakerP P w K mg base C CP fP fdP) (DNu : Def P w K mg base "number" 4 ["n"] (spNumber C)) (DR : Def P w K mg base "run" 7 ["program", "thing", "budget"] (spRun K C CP CR)) (DEl : Def P w K mg base "endless" 11 ["program", "thing", "budget"] (spEndless K C CP)) : FnOk P w K mg base CX0 16 f fd ["bounder", "budget"] (spLate K C CP) := by
  refine F.ok scLt (fun vs H Q E h => ?_) (fun cdv A outer s H vs Q E hr h => ?_)
  · obtain ⟨a, r, bud, rfl, _⟩ := h
    rfl
  · obtain ⟨a, r, bud, rfl, ha, hmn, hbd, k⟩ := h
    have hr2 : Room 2 _ := hr.mono (by decide)
    have hr4 : Room 4 _ := hr.mono (by decide)
    have hr7 : Room 7 _ := hr.mono (by decide)
    have hr11 : Room 11 _ := hr.mono (by decide)
    have hr15 : Room 15 _ := hr
    refine ⟨_, pss_cons (ps_set (i := 2) scLt.nd rfl (Or.inl rfl) (pe_def DNu hr4 rfl (pa_cons (pe_op op_add (pe_callB (call_lenP SPL hr2) (by rfl) B.len PySem.boot_len (pa_cons (pv 0) pa_nil)) (pe_glob (v := .int 3) rfl mMd ⟨_, rfl⟩)) pa_nil))) (pss_cons (ps_set (i := 3) scLt.nd rfl (Or.inl rfl) (pe_P MP hr15 rfl (pa_cons (pe_op (op_catP (C := C)) (pe_op (op_catP (C := C)) (pe_tup (pa_cons (pe_tup (pa_cons pe_str (pa_cons pe_int (pa_cons (pv 2) pa_nil)))) pa_nil)) (pe_fld (pv 0) rfl)) (pe_glob (v := .ref aB) rfl mBh rfl)) pa_nil))) (pss_cons (ps_if (pt_cmpR op_eq (pe_fld (pe_def DR hr7 rfl (pa_cons (pv 0) (pa_cons (pv 2) (pa_cons (pv 1) pa_nil)))) rfl) pe_str (nomark _)) (pss_one (ps_ret (pe_tup (pa_cons pe_str (pa_cons (pv 3) (pa_cons (pe_tup (pa_cons pe_str (pa_cons (pv 0) (pa_cons (pv 3) pa_nil)))) pa_nil)))))) pss_nil) (pss_cons (ps_set (i := 4) scLt.nd rfl (Or.inl rfl) (pe_def DEl hr11 rfl (pa_cons (pv 0) (pa_cons (pv 2) (pa_cons (pv 1) pa_nil))))) (pss_one (ps_ret (pe_tup (pa_cons (pe_ifExp (pt_cmp (pc_isN (pv 4))) pe_str pe_str) (pa_cons (pv 3) (pa_cons (pv 4) pa_nil))))))))), ?_⟩
    have hsl := line4
    have lr := len_manyP r
    have hdp := ha.dp
    obtain ⟨dx, qa, pl, ys, h1, h2, h3, h4⟩ := ha.ex
    refine ⟨_, rfl, a, r, rfl, ha, _, _, rfl, rfl, manyR r + 3, by rw [Int.natCast_add]; rfl, by omega, fun z H1 s1 hz => ?_⟩
    have hzs : (num (manyR r + 3)).size ≤ 4000 := by rw [num_size]; omega
    refine ⟨_, rfl, ?_⟩
    refine ⟨by show 3 ≤ sizeLine; decide, fun T1 nT1 => ?_⟩
    have s2 := Same.new nT1 (o := .tup [V.str "told", .int 0, .ref z])
    have e2 : (upd H1 T1 (.tup [V.str "told", .int 0, .ref z])) T1 = some (.tup [V.str "told", .int 0, .ref z]) := upd_same
    revert s2 e2
    generalize upd H1 T1 (.tup [V.str "told", .int 0, .ref z]) = H2
    intro s2 e2
    refine ⟨by show 1 ≤ sizeLine; decide, fun T2 nT2 => ?_⟩
    have s3 := Same.new nT2 (o := .tup [V.ref T1])
    have e3 : (upd H2 T2 (.tup [V.ref T1])) T2 = some (.tup [V.ref T1]) := upd_same
    revert s3 e3
    generalize upd H2 T2 (.tup [V.ref T1]) = H3
    intro s3 e3
    have d3 : RAt K C H3 T2 [.told 0 (num (manyR r + 3))] := ⟨_, SqT.of e3, _, _, rfl, ⟨T1, z, rfl, SqT.of (s3 _ _ e2), by decide, (hz.same s2).same s3, hzs⟩, rfl⟩
    have s03 := (s1.trans s2).trans s3
    refine ⟨_, rfl, _, _, _, _, _, rfl, s03 _ _ h1, TP.cl, TP.nD, pf_deeds _ _, T2, qa, _, r, rfl, rfl, d3, h2.same s03, by simp only [List.length_cons, List.length_nil]; omega, fun q4 H4 s4 hq4 => ?_⟩
    refine ⟨q4, aB, _, behD, rfl, rfl, hq4, hBh _, by simp only [List.length_cons, List.length_append, List.length_nil, behD]; omega, fun q5 H5 s5 hq5 => ?_⟩
    have hL : [Dd.told 0 (num (manyR r + 3))] ++ r ++ behD = lateR r (num (manyR r + 3)) := by
      unfold lateR
      rw [List.append_assoc]
      rfl
    rw [hL] at hq5
    refine ⟨q5, _, rfl, hq5, by rw [late_deep]; omega, by rw [late_many]; omega, fun m H6 s6 nm hm => ?_⟩
    have s06 := (s03.trans s4).trans (s5.trans s6)
    have hz6 := (hz.same (s2.trans s3)).same (s4.trans (s5.trans s6))
    refine ⟨_, rfl, _, rfl, _, rfl, a, z, r, _, bud, rfl, ha.same s06, hz6, hzs, fun zk H7 s7 _ hk => ?_⟩
    have hk0 := hk
    obtain ⟨dz, vz, hz1, hz2⟩ := hk
    have s07 := s06.trans s7
    refine ⟨_, _, _, _, _, rfl, hz1, TR.cl, TR.nW, rf_word _ _ _, rfl, _, rfl, ?_⟩
    by_cases hen : (saidR r (manyR r + 3) bud).1 = .ended
    · have e1 : decide (V.str (wdS (runM (planR r) bud 0 (firstN (num (manyR r + 3))) 0).1) = V.str ("ended" : Str)) = true := by
        rw [show (runM (planR r) bud 0 (firstN (num (manyR r + 3))) 0).1 = .ended from hen]
        decide +kernel
      rw [e1]
      refine iteT ?_
      refine ⟨_, rfl, _, rfl, _, rfl, ?_⟩
      refine ⟨by show 3 ≤ sizeLine; decide, fun T8 nT8 => ?_⟩
      have s8 := Same.new nT8 (o := .tup [V.str "late", .ref a, .ref m])
      have e8 : (upd H7 T8 (.tup [V.str "late", .ref a, .ref m])) T8 = some (.tup [V.str "late", .ref a, .ref m]) := upd_same
      revert s8 e8
      generalize upd H7 T8 (.tup [V.str "late", .ref a, .ref m]) = H8
      intro s8 e8
      refine ⟨by show 3 ≤ sizeLine; decide, fun T9 nT9 => ?_⟩
      have s9 := Same.new nT9 (o := .tup [V.str "late", .ref m, .ref T8])
      have e9 : (upd H8 T9 (.tup [V.str "late", .ref m, .ref T8])) T9 = some (.tup [V.str "late", .ref m, .ref T8]) := upd_same
      revert s9 e9
      generalize upd H8 T9 (.tup [V.str "late", .ref m, .ref T8]) = H9
      intro s9 e9
      have s69 := (s7.trans s8).trans s9
      exact k T9 m _ _ H9 (s06.trans s69) (SqT.of e9) (hm.same s69) ⟨fun _ => ⟨rfl, T8, rfl, SqT.of (s9 _ _ e8)⟩, fun h => absurd hen h⟩
    · have e1 : decide (V.str (wdS (runM (planR r) bud 0 (firstN (num (manyR r + 3))) 0).1) = V.str ("ended" : Str)) = false := by
        refine decide_eq_false fun e => hen ?_
        have : wdS (saidR r (manyR r + 3) bud).1 = wdS .ended := V.str.inj e
        exact wdS_inj this
      rw [e1]
      refine iteF ?_
      refine ⟨_, rfl, _, rfl, _, rfl, a, z, r, _, bud, rfl, ha.same s07, hz6.same s7, hzs, by omega, by omega, fun v H8 s8 h8 => ?_⟩
      have hE : ElD K H H8 v a z (elR r bud) := h8.old s07
      have hv : (v = .non ∧ elW (elR r bud) = "open") ∨ ∃ q, v = .ref q ∧ elW (elR r bud) = "silent" := by
        revert hE
        cases elR r bud with
        | no => exact fun h => .inl ⟨h, rfl⟩
        | again e l =>
          rintro ⟨q, h, _⟩
          exact .inr ⟨q, h, rfl⟩
        | closed d F =>
          rintro ⟨q, _, _, h, _⟩
          exact .inr ⟨q, h, rfl⟩
      refine ⟨_, rfl, ?_⟩
      rcases hv with ⟨rfl, hw8⟩ | ⟨q, rfl, hw8⟩
      · refine ⟨_, rfl, ?_⟩
        rw [decide_eq_true rfl]
        refine iteT ?_
        refine ⟨_, rfl, _, rfl, ?_⟩
        refine ⟨by show 3 ≤ sizeLine; decide, fun T9 nT9 => ?_⟩
        have s9 := Same.new nT9 (o := .tup [V.str "open", .ref m, .non])
        have e9 : (upd H8 T9 (.tup [V.str "open", .ref m, .non])) T9 = some (.tup [V.str "open", .ref m, .non]) := upd_same
        revert s9 e9
        generalize upd H8 T9 (.tup [V.str "open", .ref m, .non]) = H9
        intro s9 e9
        have s69 := (s7.trans s8).trans s9
        exact k T9 m _ _ H9 (s06.trans s69) (SqT.of e9) (hm.same s69) ⟨fun h => absurd h hen, fun _ => ⟨z, (hz6.same s7).same (s8.trans s9), hE.same s9, hw8.symm⟩⟩
      · refine ⟨_, rfl, ?_⟩
        rw [decide_eq_false (show ¬ V.ref q = V.non from fun e => nomatch e)]
        refine iteF ?_
        refine ⟨_, rfl, _, rfl, ?_⟩
        refine ⟨by show 3 ≤ sizeLine; decide, fun T9 nT9 => ?_⟩
        have s9 := Same.new nT9 (o := .tup [V.str "silent", .ref m, .ref q])
        have e9 : (upd H8 T9 (.tup [V.str "silent", .ref m, .ref q])) T9 = some (.tup [V.str "silent", .ref m, .ref q]) := upd_same
        revert s9 e9
        generalize upd H8 T9 (.tup [V.str "silent", .ref m, .ref q]) = H9
        intro s9 e9
        have s69 := (s7.trans s8).trans s9
        exact k T9 m _ _ H9 (s06.trans s69) (SqT.of e9) (hm.same s69) ⟨fun h => absurd h hen, fun _ => ⟨z, (hz6.same s7).same (s8.trans s9), hE.same s9, hw8.symm⟩⟩
end
end Js

set_option Elab.async false
set_option linter.all false
set_option maxRecDepth 100000
set_option maxHeartbeats 2000000
namespace Js
open PySem L2
abbrev sName : Stmt := top 67
abbrev sDeed : Stmt := top 68
abbrev sDeeds : Stmt := top 69
abbrev sTop : Stmt := top 70
/-! told things are small -/
mutual
def Dd.sm : Dd → Prop
  | .told _ t => t.size ≤ 3
  | .take _ _ _ => True
  | .two _ _ _ _ => True
  | .wh _ r => smR r
  | .iff _ r o => smR r ∧ smR o
def smR : List Dd → Prop
  | [] => True
  | d :: r => d.sm ∧ smR r
end
theorem smR_app : ∀ (a b : List Dd), smR a → smR b → smR (a ++ b)
  | [], _, _, h => h
  | _ :: a, b, h, h2 => ⟨h.1, smR_app a b h.2 h2⟩
theorem smR_tk : ∀ (n : Nat) (a : List Dd), smR a → smR (a.take n)
  | 0, a, _ => by rw [List.take_zero]; trivial
  | n + 1, [], _ => trivial
  | n + 1, d :: a, h => ⟨h.1, smR_tk n a h.2⟩
/-- all but what stands at p and f stays -/
def KC (p f : Addr) (H H' : Hp) : Prop := ∀ a o, a ≠ p → a ≠ f → H a = some o → H' a = some o
theorem KC.refl (p f : Addr) (H : Hp) : KC p f H H := fun _ _ _ _ h => h
theorem KC.of {p f : Addr} {H H' : Hp} (s : Same H H') : KC p f H H' := fun _ _ _ _ h => s _ _ h
theorem KC.kb {p f : Addr} {H H' : Hp} (k : KB p H H') : KC p f H H' := fun _ _ n _ h => k _ _ n h
theorem KC.trans {p f : Addr} {H H1 H2 : Hp} (a : KC p f H H1) (b : KC p f H1 H2) : KC p f H H2 := fun x o n m h => b x o n m (a x o n m h)
theorem KC.set {p f : Addr} {H : Hp} {o : HO} : KC p f H (upd H f o) := fun x u _ m h => by rw [upd_ne m]; exact h
theorem KC.kt {p f : Addr} {H H' : Hp} (k : KC p f H H') {xs ys : List V} (hp : H p = some (.lst xs)) (hf : H f = some (.lst ys)) : KT H H' := fun a o h n => k a o (fun z => by subst z; exact n _ (Option.some.inj (h.symm.trans hp))) (fun z => by subst z; exact n _ (Option.some.inj (h.symm.trans hf))) h
/-- how many deeds are left -/
def Lf (H : Hp) (f : Addr) (l : Nat) : Prop := H f = some (.lst [.int (l : Nat)])
def spName : Sp := fun vs H Q _ => ∃ p, vs = [.ref p] ∧ BagOk H p ∧ ∀ (a : Nat) H', KB p H H' → BagOk H' p → a < 10 → Q (.int (a : Nat)) H'
def spDeed (K : PySem.W.Frag) (C : Addr) (m : Nat) : Sp := fun vs H Q _ => ∃ (p f : Addr) (dp l : Nat), vs = [.ref p, .ref f, .int (dp : Nat)] ∧ BagOk H p ∧ Lf H f l ∧ p ≠ f ∧ dp + m = 5 ∧ l ≤ 1000 ∧
  ∀ v d l' H', KC p f H H' → BagOk H' p → Lf H' f l' → l' ≤ l → DAt K C H' v d → d.deep ≤ m → d.many ≤ 2 * (l - l') + 2 → d.sm → Q v H'
def spDeeds (K : PySem.W.Frag) (C : Addr) (m : Nat) : Sp := fun vs H Q _ => ∃ (p f : Addr) (dp l : Nat), vs = [.ref p, .ref f, .int (dp : Nat)] ∧ BagOk H p ∧ Lf H f l ∧ p ≠ f ∧ dp + m = 6 ∧ 1 ≤ m ∧ l ≤ 1000 ∧
  ∀ q r l' H', KC p f H H' → BagOk H' p → Lf H' f l' → l' ≤ l → RAt K C H' q r → deepR r + 1 ≤ m → manyR r ≤ 2 * (l - l') → smR r → Q (.ref q) H'
theorem name_at (d : Int) (h0 : 0 ≤ d) (h1 : d < 8) : ∃ a : Nat, atI [V.int 0, V.int 0, V.int 0, V.int 1, V.int 1, V.int 2, V.int 2, V.int 3] d = some (.int (a : Nat)) ∧ a < 10 := by
  obtain ⟨n, rfl⟩ := Int.eq_ofNat_of_zero_le h0
  match n, h1 with
  | 0, _ => exact ⟨0, rfl, by decide⟩
  | 1, _ => exact ⟨0, rfl, by decide⟩
  | 2, _ => exact ⟨0, rfl, by decide⟩
  | 3, _ => exact ⟨1, rfl, by decide⟩
  | 4, _ => exact ⟨1, rfl, by decide⟩
  | 5, _ => exact ⟨2, rfl, by decide⟩
  | 6, _ => exact ⟨2, rfl, by decide⟩
  | 7, _ => exact ⟨3, rfl, by decide⟩
  | n + 8, h => exact absurd h (by omega)
/-- one of the four short kinds -/
theorem kind_at (d : Int) (h0 : 0 ≤ d) (h1 : d < 6) : ∃ k : Str, atI [V.str "first", V.str "second", V.str "second", V.str "pair", V.str "pair", V.str "same"] d = some (.str k) ∧ ((∃ s, k = takeS s) ∨ ∃ s, k = twoS s) := by
  obtain ⟨n, rfl⟩ := Int.eq_ofNat_of_zero_le h0
  match n, h1 with
  | 0, _ => exact ⟨_, rfl, .inl ⟨false, rfl⟩⟩
  | 1, _ => exact ⟨_, rfl, .inl ⟨true, rfl⟩⟩
  | 2, _ => exact ⟨_, rfl, .inl ⟨true, rfl⟩⟩
  | 3, _ => exact ⟨_, rfl, .inr ⟨false, rfl⟩⟩
  | 4, _ => exact ⟨_, rfl, .inr ⟨false, rfl⟩⟩
  | 5, _ => exact ⟨_, rfl, .inr ⟨true, rfl⟩⟩
  | n + 6, h => exact absurd h (by omega)
theorem in_take (s : Bool) : inV (.str (takeS s)) [V.str "pair", V.str "same"] = false := by cases s <;> decide +kernel
theorem in_two (s : Bool) : inV (.str (twoS s)) [V.str "pair", V.str "same"] = true := by cases s <;> decide +kernel
theorem DsAt_snoc {K : PySem.W.Frag} {C : Addr} {H : Hp} {v : V} {d : Dd} (hd : DAt K C H v d) : ∀ (r : List Dd) (vs : List V), DsAt K C H vs r → DsAt K C H (vs ++ [v]) (r ++ [d])
  | [], vs, h => by
    have e : vs = [] := h
    subst e
    exact ⟨v, [], rfl, hd, rfl⟩
  | e :: r, vs, h => by
    obtain ⟨u, us, rfl, h1, h2⟩ := h
    exact ⟨u, us ++ [v], rfl, h1, DsAt_snoc hd r us h2⟩
theorem DsAt_app {K : PySem.W.Frag} {C : Addr} {H : Hp} : ∀ (r u : List Dd) (vs us : List V), DsAt K C H vs r → DsAt K C H us u → DsAt K C H (vs ++ us) (r ++ u)
  | [], u, vs, us, h, g => by
    have e : vs = [] := h
    subst e
    exact g
  | e :: r, u, vs, us, h, g => by
    obtain ⟨v, ws, rfl, h1, h2⟩ := h
    exact ⟨v, ws ++ us, rfl, h1, DsAt_app r u ws us h2 g⟩
theorem deepR_app : ∀ (a b : List Dd), deepR (a ++ b) = max (deepR a) (deepR b)
  | [], b => by rw [List.nil_append, deepR, Nat.max_eq_right (Nat.zero_le _)]
  | d :: a, b => by rw [List.cons_append, deepR, deepR_app a b, deepR, Nat.max_assoc]
theorem len_many : ∀ r : List Dd, r.length ≤ manyR r
  | [] => Nat.zero_le _
  | d :: r => by
    have := len_many r
    have := many_pos d
    rw [List.length_cons, many_cons]
    omega
theorem deepR_one (d : Dd) : deepR [d] = d.deep := by rw [deepR, deepR, Nat.max_eq_left (Nat.zero_le _)]
section
variable {P : Program} {w : World} {K : PySem.W.Frag} {mg : Str → Option Value} {base : Heap} {C : Addr}
theorem scNa : FnScope ["_law_bag_here"] ["_law_bag_here"] (defScope sName) := ⟨rfl, rfl, rfl, by decide +kernel, rfl, by decide +kernel, by decide +kernel⟩
theorem ok_name {f : Addr} {fd : FuncData} (F : Fun K "_law_name" "_law_name" sName f fd) (DTk : Def P w K mg base "_law_take" 1 ["_law_bag_here", "_law_many"] spTake) : FnOk P w K mg base CX0 2 f fd ["_law_bag_here"] spName := by
  refine F.ok scNa (fun vs H Q E h => ?_) (fun cdv A outer s H vs Q E hr h => ?_)
  · obtain ⟨p, rfl, _⟩ := h
    rfl
  · obtain ⟨p, rfl, hb, k⟩ := h
    have hr1 : Room 1 _ := hr
    refine ⟨_, pss_cons (ps_if (pt_cmpR op_eq (pe_def DTk hr1 rfl (pa_cons (pv 0) (pa_cons pe_int pa_nil))) pe_int (nomark _)) (pss_one (ps_ret (pe_def DTk hr1 rfl (pa_cons (pv 0) (pa_cons pe_int pa_nil))))) pss_nil) (pss_one (ps_ret (pe_ix (r := rIxL K) ix_list (pe_lst (pa_cons pe_int (pa_cons pe_int (pa_cons pe_int (pa_cons pe_int (pa_cons pe_int (pa_cons pe_int (pa_cons pe_int (pa_cons pe_int pa_nil))))))))) (pe_def DTk hr1 rfl (pa_cons (pv 0) (pa_cons pe_int pa_nil))) (fun _ _ => rfl)))), ?_⟩
    refine ⟨_, rfl, p, 12, rfl, hb, by decide, by decide, fun d H1 k1 b1 h0 h1 => ?_⟩
    refine ⟨rfl, _, rfl, ?_⟩
    by_cases hd : d = 0
    · rw [decide_eq_true (show V.int d = V.int 0 by rw [hd])]
      refine iteT ?_
      refine ⟨_, rfl, p, 10, rfl, b1, by decide, by decide, fun d2 H2 k2 b2 h20 h21 => ?_⟩
      obtain ⟨n, rfl⟩ := Int.eq_ofNat_of_zero_le h20
      exact k n H2 (k1.trans k2) b2 (by omega)
    · rw [decide_eq_false (show ¬ V.int d = V.int 0 from fun z => hd (V.int.inj z))]
      refine iteF ?_
      refine ⟨by show 8 ≤ sizeLine; decide, fun L nL => ?_⟩
      have hLp : L ≠ p := fun z => by
        obtain ⟨bx, hbx⟩ := b1.some
        rw [z, hbx] at nL
        cases nL
      have sL := Same.new nL (o := .lst [V.int 0, V.int 0, V.int 0, V.int 1, V.int 1, V.int 2, V.int 2, V.int 3])
      refine ⟨_, rfl, p, 8, rfl, b1.same sL, by decide, by decide, fun d2 H2 k2 b2 h20 h21 => ?_⟩
      obtain ⟨a, ha, ha10⟩ := name_at d2 h20 h21
      exact ⟨L, _, _, _, rfl, rfl, SqL.of (k2 _ _ hLp upd_same), ha, k a H2 ((k1.trans (KB.of sL)).trans k2) b2 ha10⟩
theorem scDe : FnScope ["_law_bag_here", "_law_left", "_law_deep", "_law_way", "_law_a", "_law_b", "_law_c", "_law_kind", "_law_inner"] ["_law_bag_here", "_law_left", "_law_deep"] (defScope sDeed) := ⟨rfl, rfl, rfl, by decide +kernel, rfl, by decide +kernel, by decide +kernel⟩
theorem ok_deed {f fs : Addr} {fd fds : FuncData} {m : Nat} (F : Fun K "_law_deed" "_law_deed" sDeed f fd) (B : Blt mg) (DTk : Def P w K mg base "_law_take" 1 ["_law_bag_here", "_law_many"] spTake) (DNm : Def P w K mg base "_law_name" 2 ["_law_bag_here"] spName) (DTh : Def P w K mg base "_law_thing" 4 ["_law_bag_here", "_law_many"] (spThing C))
    (Gs : FnOk P w K mg base CX0 (2 * m + 4) fs fds ["_law_bag_here", "_law_left", "_law_deep"] (spDeeds K C m)) (mgs : mg "_law_deeds" = some (.ref fs)) (ks : PySem.W.keepIn K (.ref fs) = true) (bs : Binds K fds ["_law_bag_here", "_law_left", "_law_deep"] []) : FnOk P w K mg base CX0 (2 * m + 5) f fd ["_law_bag_here", "_law_left", "_law_deep"] (spDeed K C m) := by
  refine F.ok scDe (fun vs H Q E h => ?_) (fun cdv A outer s H vs Q E hr h => ?_)
  · obtain ⟨p, f, dp, l, rfl, _⟩ := h
    rfl
  · obtain ⟨p, f, dp, l, rfl, hb, hl, hpf, hdm, hll, k⟩ := h
    have hr1 : Room 1 _ := hr.mono (by omega)
    have hr2 : Room 2 _ := hr.mono (by omega)
    have hr4 : Room 4 _ := hr.mono (by omega)
    refine ⟨_, pss_cons (ps_set (i := 3) scDe.nd rfl (Or.inl rfl) (pe_def DTk hr1 rfl (pa_cons (pv 0) (pa_cons pe_int pa_nil)))) (pss_cons (ps_par3 (i := 4) (j := 5) (l := 6) (by rfl) scDe.nd rfl rfl rfl (by decide) (by decide) (by decide) rfl rfl rfl (pa_cons (pe_def DNm hr2 rfl (pa_cons (pv 0) pa_nil)) (pa_cons (pe_def DNm hr2 rfl (pa_cons (pv 0) pa_nil)) (pa_cons (pe_def DNm hr2 rfl (pa_cons (pv 0) pa_nil)) pa_nil))) (by rfl)) (pss_cons (ps_if (pt_cmpR op_lt (pv 3) pe_int (nomark _)) (pss_one (ps_ret (pe_tup (pa_cons pe_str (pa_cons (pv 4) (pa_cons (pe_def DTh hr4 rfl (pa_cons (pv 0) (pa_cons (pe_def DTk hr1 rfl (pa_cons (pv 0) (pa_cons pe_int pa_nil))) pa_nil))) pa_nil)))))) pss_nil) (pss_cons (ps_if (PW.pt (pw_or (pt_cmpR op_lt (pv 3) pe_int (nomark _)) (pw_or1 (pt_cmpR op_gt (pv 2) pe_int (nomark _))))) (pss_cons (ps_set (i := 7) scDe.nd rfl (Or.inl rfl) (pe_ix (r := rIxL K) ix_list (pe_lst (pa_cons pe_str (pa_cons pe_str (pa_cons pe_str (pa_cons pe_str (pa_cons pe_str (pa_cons pe_str pa_nil))))))) (pe_op op_mod (pv 3) pe_int) (fun _ _ => rfl))) (pss_one (ps_ret (pe_slice sl_tupA (pe_tup (pa_cons (pv 7) (pa_cons (pv 4) (pa_cons (pv 5) (pa_cons (pv 6) pa_nil))))) po_none (po_some (pe_op op_add pe_int (pe_callTy call_int1 (by rfl) B.int PyProof.Rows.boot_int (pa_cons (pe_cmpR op_in_seq (pv 7) (pe_tup (pa_cons pe_str (pa_cons pe_str pa_nil))) rfl) pa_nil)))))))) pss_nil) (pss_cons (ps_set (i := 8) scDe.nd rfl (Or.inl rfl) (pe_call Gs hr rfl mgs ks bs .nil pass0 (pa_cons (pv 0) (pa_cons (pv 1) (pa_cons (pe_op op_add (pv 2) pe_int) pa_nil))))) (pss_cons (ps_if (pt_cmpR op_lt (pv 3) pe_int (nomark _)) (pss_cons (ps_if (pt_cmpR op_gt (pe_def DTk hr1 rfl (pa_cons (pv 0) (pa_cons pe_int pa_nil))) pe_int (nomark _)) (pss_one (ps_set (i := 8) scDe.nd rfl (Or.inl rfl) (pe_op op_catA (pv 8) (pe_tup (pa_cons (pe_tup (pa_cons pe_str (pa_cons (pv 4) (pa_cons (pv 4) pa_nil)))) pa_nil))))) pss_nil) (pss_one (ps_ret (pe_tup (pa_cons pe_str (pa_cons (pv 4) (pa_cons (pv 8) pa_nil))))))) pss_nil) (pss_one (ps_ret (pe_tup (pa_cons pe_str (pa_cons (pv 4) (pa_cons (pv 8) (pa_cons (pe_call Gs hr rfl mgs ks bs .nil pass0 (pa_cons (pv 0) (pa_cons (pv 1) (pa_cons (pe_op op_add (pv 2) pe_int) pa_nil)))) pa_nil)))))))))))), ?_⟩
    have hsl := line4
    refine ⟨_, rfl, p, 12, rfl, hb, by decide, by decide, fun wy H1 k1 b1 h0 h1 => ?_⟩
    refine ⟨_, rfl, p, rfl, b1, fun a H2 k2 b2 ha => ?_⟩
    refine ⟨_, rfl, p, rfl, b2, fun bb H3 k3 b3 hbb => ?_⟩
    refine ⟨_, rfl, p, rfl, b3, fun c H4 k4 b4 hc => ?_⟩
    refine ⟨_, _, _, rfl, ?_⟩
    have kb4 : KB p H H4 := ((k1.trans k2).trans k3).trans k4
    have l4 : Lf H4 f l := kb4 _ _ (Ne.symm hpf) hl
    refine ⟨_, rfl, _, _, rfl, rfl, _, rfl, ?_⟩
    by_cases w2 : wy < 2
    · rw [decide_eq_true w2]
      refine iteT ?_
      refine ⟨_, rfl, _, rfl, _, rfl, p, 4, rfl, b4, by decide, by decide, fun tz H5 k5 b5 t0 t1 => ?_⟩
      obtain ⟨n, rfl⟩ := Int.eq_ofNat_of_zero_le t0
      refine ⟨p, n, rfl, b5, by omega, fun x t H6 k6 b6 hx hxs => ?_⟩
      refine ⟨by show 3 ≤ sizeLine; decide, fun T nT => ?_⟩
      have sT := Same.new nT (o := .tup [.str "told", .int (a : Nat), .ref x])
      have kb6 : KB p H4 H6 := k5.trans k6
      refine k (.ref T) (.told a t) l _ ((KC.kb (kb4.trans kb6)).trans (KC.of sT)) (b6.same sT) (sT _ _ (kb6 _ _ (Ne.symm hpf) l4)) (Nat.le_refl _) ⟨T, x, rfl, SqT.of upd_same, ha, hx.same sT, by omega⟩ (Nat.zero_le _) (by rw [many_told]; omega) (by show t.size ≤ 3; omega)
    · rw [decide_eq_false w2]
      refine iteF ?_
      refine ⟨_, rfl, _, _, rfl, rfl, _, rfl, ?_⟩
      by_cases w8 : wy < 8
      · rw [decide_eq_true w8]
        refine iteT (iteT ?_)
        obtain ⟨kk, hkk, hk2⟩ := kind_at (wy % 6) (by omega) (by omega)
        refine ⟨by show 6 ≤ sizeLine; decide, fun L nL => ?_⟩
        have sL := Same.new nL (o := .lst [V.str "first", V.str "second", V.str "second", V.str "pair", V.str "pair", V.str "same"])
        refine ⟨_, rfl, _, _, rfl, rfl, (show (0 : Int) < 6 by decide), L, _, _, _, rfl, rfl, SqL.of upd_same, hkk, ?_⟩
        revert sL
        generalize upd H4 L (.lst [V.str "first", V.str "second", V.str "second", V.str "pair", V.str "pair", V.str "same"]) = H5
        intro sL
        refine ⟨_, rfl, _, rfl, _, rfl, _, rfl, by show 4 ≤ sizeLine; decide, fun T nT => ?_⟩
        have sT := Same.new nT (o := .tup [.str kk, .int (a : Nat), .int (bb : Nat), .int (c : Nat)])
        have hT : (upd H5 T (.tup [.str kk, .int (a : Nat), .int (bb : Nat), .int (c : Nat)])) T = some (.tup [.str kk, .int (a : Nat), .int (bb : Nat), .int (c : Nat)]) := upd_same
        revert sT hT
        generalize upd H5 T (.tup [.str kk, .int (a : Nat), .int (bb : Nat), .int (c : Nat)]) = H6
        intro sT hT
        refine ⟨_, rfl, by show 2 ≤ sizeLine; decide, fun U nU => ?_⟩
        have sU := Same.new nU (o := .tup [V.str "pair", V.str "same"])
        refine ⟨U, _, rfl, .inr (SqT.of upd_same), rfl, rfl, .inr ⟨_, rfl, _, _, rfl, rfl, _, rfl, T, _, rfl, SqT.of (sU _ _ hT), ?_⟩⟩
        have s47 := (sL.trans sT).trans sU
        have kc7 : KC p f H (upd H6 U (.tup [V.str "pair", V.str "same"])) := (KC.kb kb4).trans (KC.of s47)
        have l7 := s47 _ _ l4
        have b7 := b4.same s47
        rcases hk2 with ⟨s, rfl⟩ | ⟨s, rfl⟩
        · rw [show (if false = true then !inV (.str (takeS s)) [V.str "pair", V.str "same"] else inV (.str (takeS s)) [V.str "pair", V.str "same"]) = false from in_take s]
          refine ⟨fun ⟨_, h2⟩ => absurd h2 (show ¬ ((3 : Nat) = 4) by decide), fun _ z nz => ?_⟩
          have sz := Same.new nz (o := .tup [.str (takeS s), .int (a : Nat), .int (bb : Nat)])
          exact k (.ref z) (.take s a bb) l _ (kc7.trans (KC.of sz)) (b7.same sz) (sz _ _ l7) (Nat.le_refl _) ⟨z, rfl, SqT.of upd_same, ha, hbb⟩ (Nat.zero_le _) (by rw [many_take]; omega) trivial
        · rw [show (if false = true then !inV (.str (twoS s)) [V.str "pair", V.str "same"] else inV (.str (twoS s)) [V.str "pair", V.str "same"]) = true from in_two s]
          refine ⟨fun _ => ?_, fun hn => absurd ⟨rfl, rfl⟩ hn⟩
          exact k (.ref T) (.two s a bb c) l _ kc7 b7 l7 (Nat.le_refl _) ⟨T, rfl, SqT.of (sU _ _ hT), ha, hbb, hc⟩ (Nat.zero_le _) (by rw [many_two]; omega) trivial
      · rw [decide_eq_false w8]
        refine iteF ?_
        refine ⟨_, rfl, _, _, rfl, rfl, _, rfl, ?_⟩
        by_cases w4 : 4 < dp
        · rw [decide_eq_true (show (4 : Int) < ((dp : Nat) : Int) by omega)]
          refine iteT ?_
          obtain ⟨kk, hkk, hk2⟩ := kind_at (wy % 6) (by omega) (by omega)
          refine ⟨by show 6 ≤ sizeLine; decide, fun L nL => ?_⟩
          have sL := Same.new nL (o := .lst [V.str "first", V.str "second", V.str "second", V.str "pair", V.str "pair", V.str "same"])
          refine ⟨_, rfl, _, _, rfl, rfl, (show (0 : Int) < 6 by decide), L, _, _, _, rfl, rfl, SqL.of upd_same, hkk, ?_⟩
          revert sL
          generalize upd H4 L (.lst [V.str "first", V.str "second", V.str "second", V.str "pair", V.str "pair", V.str "same"]) = H5
          intro sL
          refine ⟨_, rfl, _, rfl, _, rfl, _, rfl, by show 4 ≤ sizeLine; decide, fun T nT => ?_⟩
          have sT := Same.new nT (o := .tup [.str kk, .int (a : Nat), .int (bb : Nat), .int (c : Nat)])
          have hT : (upd H5 T (.tup [.str kk, .int (a : Nat), .int (bb : Nat), .int (c : Nat)])) T = some (.tup [.str kk, .int (a : Nat), .int (bb : Nat), .int (c : Nat)]) := upd_same
          revert sT hT
          generalize upd H5 T (.tup [.str kk, .int (a : Nat), .int (bb : Nat), .int (c : Nat)]) = H6
          intro sT hT
          refine ⟨_, rfl, by show 2 ≤ sizeLine; decide, fun U nU => ?_⟩
          have sU := Same.new nU (o := .tup [V.str "pair", V.str "same"])
          refine ⟨U, _, rfl, .inr (SqT.of upd_same), rfl, rfl, .inr ⟨_, rfl, _, _, rfl, rfl, _, rfl, T, _, rfl, SqT.of (sU _ _ hT), ?_⟩⟩
          have s47 := (sL.trans sT).trans sU
          have kc7 : KC p f H (upd H6 U (.tup [V.str "pair", V.str "same"])) := (KC.kb kb4).trans (KC.of s47)
          have l7 := s47 _ _ l4
          have b7 := b4.same s47
          rcases hk2 with ⟨s, rfl⟩ | ⟨s, rfl⟩
          · rw [show (if false = true then !inV (.str (takeS s)) [V.str "pair", V.str "same"] else inV (.str (takeS s)) [V.str "pair", V.str "same"]) = false from in_take s]
            refine ⟨fun ⟨_, h2⟩ => absurd h2 (show ¬ ((3 : Nat) = 4) by decide), fun _ z nz => ?_⟩
            have sz := Same.new nz (o := .tup [.str (takeS s), .int (a : Nat), .int (bb : Nat)])
            exact k (.ref z) (.take s a bb) l _ (kc7.trans (KC.of sz)) (b7.same sz) (sz _ _ l7) (Nat.le_refl _) ⟨z, rfl, SqT.of upd_same, ha, hbb⟩ (Nat.zero_le _) (by rw [many_take]; omega) trivial
          · rw [show (if false = true then !inV (.str (twoS s)) [V.str "pair", V.str "same"] else inV (.str (twoS s)) [V.str "pair", V.str "same"]) = true from in_two s]
            refine ⟨fun _ => ?_, fun hn => absurd ⟨rfl, rfl⟩ hn⟩
            exact k (.ref T) (.two s a bb c) l _ kc7 b7 l7 (Nat.le_refl _) ⟨T, rfl, SqT.of (sU _ _ hT), ha, hbb, hc⟩ (Nat.zero_le _) (by rw [many_two]; omega) trivial
        · rw [decide_eq_false (show ¬ (4 : Int) < ((dp : Nat) : Int) by omega)]
          refine iteF ?_
          refine ⟨_, rfl, _, rfl, _, rfl, _, _, rfl, rfl, p, f, dp + 1, l, rfl, b4, l4, hpf, by omega, by omega, hll, fun q r l1 H5 kc5 b5 lf5 hl5 hr5 hd5 hm5 hs5 => ?_⟩
          have kc45 : KC p f H H5 := (KC.kb kb4).trans kc5
          refine ⟨_, rfl, _, _, rfl, rfl, _, rfl, ?_⟩
          by_cases w10 : wy < 10
          · rw [decide_eq_true w10]
            refine iteT ?_
            refine ⟨_, rfl, p, 5, rfl, b5, by decide, by decide, fun d5 H6 k6 b6 d50 d51 => ?_⟩
            refine ⟨_, _, rfl, rfl, _, rfl, ?_⟩
            obtain ⟨bx, hbx⟩ := b5.some
            have hr6 : RAt K C H6 q r := hr5.kt (k6.kt hbx)
            have lf6 : Lf H6 f l1 := k6 _ _ (Ne.symm hpf) lf5
            have kc6 : KC p f H H6 := kc45.trans (KC.kb k6)
            by_cases h5 : 0 < d5
            · rw [decide_eq_true h5]
              refine iteT ?_
              obtain ⟨vs, hq, hvs⟩ := hr6
              refine ⟨_, rfl, _, rfl, _, rfl, by show 3 ≤ sizeLine; decide, fun T1 n1 => ?_⟩
              have s7 := Same.new n1 (o := .tup [V.str "second", .int (a : Nat), .int (a : Nat)])
              have hT1 : (upd H6 T1 (.tup [V.str "second", .int (a : Nat), .int (a : Nat)])) T1 = some (.tup [V.str "second", .int (a : Nat), .int (a : Nat)]) := upd_same
              revert s7 hT1
              generalize upd H6 T1 (.tup [V.str "second", .int (a : Nat), .int (a : Nat)]) = H7
              intro s7 hT1
              refine ⟨by show 1 ≤ sizeLine; decide, fun T2 n2 => ?_⟩
              have s8 := Same.new n2 (o := .tup [V.ref T1])
              have hT2 : (upd H7 T2 (.tup [V.ref T1])) T2 = some (.tup [V.ref T1]) := upd_same
              revert s8 hT2
              generalize upd H7 T2 (.tup [V.ref T1]) = H8
              intro s8 hT2
              have s68 := s7.trans s8
              have dsec : DAt K C H8 (.ref T1) (.take true a a) := ⟨T1, rfl, SqT.of (s8 _ _ hT1), ha, ha⟩
              have hvs8 := DsAt_kt (KT.of s68) r vs hvs
              have hq8 := sqt_kt (KT.of s68) hq
              have lr := len_many r
              have lv := DsAt.length r vs hvs
              have cont : ∀ (q2 : Addr) (H9 : Hp), Same H8 H9 → RAt K C H9 q2 (r ++ [.take true a a]) → (tRet (tTup (tCons (tC (.str "while")) (tCons (tVar 4) (tCons (tVar 8) tNil)))) { nx := fun _ H' => Q .non H', rt := Q } [some (.ref p), some (.ref f), some (.int (dp : Nat)), some (.int wy), some (.int (a : Nat)), some (.int (bb : Nat)), some (.int (c : Nat)), none, some (.ref q2)] H9) := by
                intro q2 H9 s9 hr9
                refine ⟨_, rfl, _, rfl, by show 3 ≤ sizeLine; decide, fun T3 n3 => ?_⟩
                have sT := Same.new n3 (o := .tup [V.str "while", .int (a : Nat), .ref q2])
                have s69 := (s68.trans s9).trans sT
                obtain ⟨vs9, h91, h92⟩ := hr9.same sT
                refine k (.ref T3) (.wh a (r ++ [.take true a a])) l1 _ (kc6.trans (KC.of s69)) (b6.same s69) (s69 _ _ lf6) hl5 ⟨T3, q2, vs9, rfl, SqT.of upd_same, ha, h91, h92⟩ ?_ ?_ (by exact smR_app r [.take true a a] hs5 ⟨trivial, trivial⟩)
                · rw [Dd.deep, deepR_app, deepR_one]
                  have : max (deepR r) (Dd.take true a a).deep = deepR r := Nat.max_eq_left (Nat.zero_le _)
                  omega
                · rw [many_wh, manyR_app, manyR_one, many_take]
                  omega
              refine ⟨q, T2, vs, _, rfl, rfl, hq8, SqT.of hT2, by simp only [List.length_cons, List.length_nil]; omega, fun e0 => ?_, fun _ e1 => (by cases e1), fun _ _ U nU => ?_⟩
              · subst e0
                have er : r = [] := List.length_eq_zero_iff.mp lv.symm
                refine cont T2 H8 (Same.refl H8) ?_
                rw [er]
                exact ⟨_, SqT.of hT2, _, _, rfl, dsec, rfl⟩
              · have sU := Same.new nU (o := .tup (vs ++ [V.ref T1]))
                exact cont U _ sU ⟨_, SqT.of upd_same, DsAt_snoc (DAt_kt (KT.of sU) _ _ dsec) r vs (DsAt_kt (KT.of sU) r vs hvs8)⟩
            · rw [decide_eq_false h5]
              refine iteF ?_
              refine ⟨_, rfl, _, rfl, by show 3 ≤ sizeLine; decide, fun T3 n3 => ?_⟩
              have sT := Same.new n3 (o := .tup [V.str "while", .int (a : Nat), .ref q])
              obtain ⟨vs9, h91, h92⟩ := hr6.same sT
              refine k (.ref T3) (.wh a r) l1 _ (kc6.trans (KC.of sT)) (b6.same sT) (sT _ _ lf6) hl5 ⟨T3, q, vs9, rfl, SqT.of upd_same, ha, h91, h92⟩ (by rw [Dd.deep]; omega) (by rw [many_wh]; omega) hs5
          · rw [decide_eq_false w10]
            refine iteF ?_
            refine ⟨_, rfl, _, rfl, _, rfl, _, rfl, _, rfl, _, _, rfl, rfl, p, f, dp + 1, l1, rfl, b5, lf5, hpf, by omega, by omega, by omega, fun q2 r2 l2 H6 kc6 b6 lf6 hl6 hr6 hd6 hm6 hs6 => ?_⟩
            refine ⟨by show 4 ≤ sizeLine; decide, fun T3 n3 => ?_⟩
            have sT := Same.new n3 (o := .tup [V.str "if", .int (a : Nat), .ref q, .ref q2])
            obtain ⟨bx, hbx⟩ := b5.some
            obtain ⟨vs9, h91, h92⟩ := (hr5.kt (kc6.kt hbx lf5)).same sT
            obtain ⟨vs8, h81, h82⟩ := hr6.same sT
            refine k (.ref T3) (.iff a r r2) l2 _ ((kc45.trans kc6).trans (KC.of sT)) (b6.same sT) (sT _ _ lf6) (Nat.le_trans hl6 hl5) ⟨T3, q, vs9, q2, vs8, rfl, SqT.of upd_same, ha, h91, h92, h81, h82⟩ ?_ ?_ ⟨hs5, hs6⟩
            · rw [Dd.deep]
              have : max (deepR r) (deepR r2) ≤ m - 1 := Nat.max_le.mpr ⟨by omega, by omega⟩
              omega
            · rw [many_iff]
              omega
theorem scDs : FnScope ["_law_bag_here", "_law_left", "_law_deep", "_law_found", "_law_turn"] ["_law_bag_here", "_law_left", "_law_deep"] (defScope sDeeds) := ⟨rfl, rfl, rfl, by decide +kernel, rfl, by decide +kernel, by decide +kernel⟩
theorem ok_deedsS {f fe : Addr} {fd fde : FuncData} {m : Nat} (F : Fun K "_law_deeds" "_law_deeds" sDeeds f fd) (B : Blt mg) (G : FrmC K w mg) (DTk : Def P w K mg base "_law_take" 1 ["_law_bag_here", "_law_many"] spTake)
    (Gd : FnOk P w K mg base CX0 (2 * m + 5) fe fde ["_law_bag_here", "_law_left", "_law_deep"] (spDeed K C m)) (mgd : mg "_law_deed" = some (.ref fe)) (kd : PySem.W.keepIn K (.ref fe) = true) (bd : Binds K fde ["_law_bag_here", "_law_left", "_law_deep"] []) : FnOk P w K mg base CX0 (2 * m + 6) f fd ["_law_bag_here", "_law_left", "_law_deep"] (spDeeds K C (m + 1)) := by
  refine F.ok scDs (fun vs H Q E h => ?_) (fun cdv A outer s H vs Q E hr h => ?_)
  · obtain ⟨p, f, dp, l, rfl, _⟩ := h
    rfl
  · obtain ⟨p, f, dp, l, rfl, hb, hl, hpf, hdm, _, hll, k⟩ := h
    have hr1 : Room 1 _ := hr.mono (by omega)
    refine ⟨_, pss_cons (ps_set (i := 3) scDs.nd rfl (Or.inl rfl) (pe_lst pa_nil)) (pss_cons (ps_for PassesOwn.never rfl (pi_range1 rfl B.range (pa_cons (pe_def DTk hr1 rfl (pa_cons (pv 0) (pa_cons pe_int pa_nil))) pa_nil)) (pg_name (i := 4) scDs.nd rfl (Or.inl rfl)) (pss_one (ps_if (pt_cmpR op_gt (pe_ix (r := rIxL K) ix_list (pv 1) pe_int (fun _ _ => rfl)) pe_int (nomark _)) (pss_cons (ps_asg (pe_op op_sub (pe_ix (r := rIxL K) ix_list (pv 1) pe_int (fun _ _ => rfl)) pe_int) (pg_sub (pv 1) pe_int set_list)) (pss_one (ps_expr (pe_bm PySem.F.plainAttrs_list PySem.F.slot_list_append PySem.F.type_list_append mt_append (pv 3) (pa_cons (pe_call Gd hr rfl mgd kd bd .nil pass0 (pa_cons (pv 0) (pa_cons (pv 1) (pa_cons (pv 2) pa_nil)))) pa_nil))))) pss_nil))) (pss_one (ps_ret (pe_callTy call_tuple_of (by rfl) G.mt PyProof.Rows.boot_tuple (pa_cons (pv 3) pa_nil))))), ?_⟩
    have hsl := line4
    refine ⟨Nat.zero_le _, fun fl nfl => ?_⟩
    have s1 : Same H (upd H fl (.lst [])) := Same.new nfl
    have hfl1 : (upd H fl (.lst [])) fl = some (.lst []) := upd_same
    have hflp : fl ≠ p := fun z => by
      obtain ⟨bx, hbx⟩ := hb.some
      rw [z, hbx] at nfl
      cases nfl
    have hflf : fl ≠ f := fun z => by
      rw [z] at nfl
      have := nfl.symm.trans hl
      cases this
    revert s1 hfl1
    generalize upd H fl (.lst []) = H1
    intro s1 hfl1
    refine ⟨_, rfl, p, 6, rfl, hb.same s1, by decide, by decide, fun n6 H2 k2 b2 n0 n1 => ?_⟩
    have kc2 : KC p f H H2 := (KC.of s1).trans (KC.kb k2)
    refine ⟨n6, rfl, by omega, by omega, for_range (n := n6.toNat) (fun i σ H' => ∃ (x4 : Option V) (us : List V) (r : List Dd) (l' : Nat), σ = [some (.ref p), some (.ref f), some (.int (dp : Nat)), some (.ref fl), x4] ∧ KC p f H H' ∧ BagOk H' p ∧ Lf H' f l' ∧ l' ≤ l ∧ H' fl = some (.lst us) ∧ DsAt K C H' us r ∧ deepR r ≤ m ∧ manyR r ≤ 2 * (l - l') ∧ r.length ≤ i ∧ smR r)
      ⟨none, [], [], l, rfl, kc2, b2, k2 _ _ (Ne.symm hpf) (s1 _ _ hl), Nat.le_refl _, k2 _ _ hflp hfl1, rfl, Nat.zero_le _, by rw [many_nil]; omega, Nat.le_refl _, trivial⟩ ?_ ?_⟩
    · rintro i σ H3 hi ⟨x4, us, r, l1, rfl, kc3, b3, lf3, hl3, hfl3, hus, hdr, hmr, hri, hsm⟩
      refine ⟨_, rfl, f, _, _, _, rfl, rfl, SqL.of lf3, at0 _ _, _, _, rfl, rfl, _, rfl, ?_⟩
      by_cases h1 : 0 < l1
      · rw [decide_eq_true (show (0 : Int) < ((l1 : Nat) : Int) by omega)]
        refine iteT ?_
        refine ⟨_, rfl, f, _, _, _, rfl, rfl, SqL.of lf3, at0 _ _, _, _, rfl, rfl, _, rfl, f, _, _, 0, rfl, rfl, lf3, rfl, ?_⟩
        have e4 : [V.int ((l1 : Nat) : Int)].set 0 (V.int (((l1 : Nat) : Int) - 1)) = [V.int (((l1 - 1 : Nat)) : Int)] := by
          rw [show (((l1 - 1 : Nat)) : Int) = ((l1 : Nat) : Int) - 1 by omega]
          rfl
        rw [e4]
        have lf4 : Lf (upd H3 f (.lst [V.int (((l1 - 1 : Nat)) : Int)])) f (l1 - 1) := upd_same
        have kc4 : KC p f H3 (upd H3 f (.lst [V.int (((l1 - 1 : Nat)) : Int)])) := KC.set
        obtain ⟨bx, hbx⟩ := b3.some
        have kt4 : KT H3 (upd H3 f (.lst [V.int (((l1 - 1 : Nat)) : Int)])) := kc4.kt hbx lf3
        have b4 : BagOk (upd H3 f (.lst [V.int (((l1 - 1 : Nat)) : Int)])) p := by
          obtain ⟨x0, x1', pr, x3', hx, rest⟩ := b3.ex
          exact ⟨⟨x0, x1', pr, x3', by rw [upd_ne hpf]; exact hx, rest⟩⟩
        have hfl4 : (upd H3 f (.lst [V.int (((l1 - 1 : Nat)) : Int)])) fl = some (.lst us) := by rw [upd_ne hflf]; exact hfl3
        revert lf4 kc4 kt4 b4 hfl4
        generalize upd H3 f (.lst [V.int (((l1 - 1 : Nat)) : Int)]) = H4
        intro lf4 kc4 kt4 b4 hfl4
        refine ⟨_, rfl, .inl ⟨rfl, _, SqL.of hfl4⟩, _, rfl, _, rfl, _, rfl, p, f, dp, l1 - 1, rfl, b4, lf4, hpf, by omega, by omega, fun v d l2 H5 kc5 b5 lf5 hl5 hdv hdd hdm2 hds => ?_⟩
        have hfl5 := kc5 _ _ hflp hflf hfl4
        have lus := DsAt.length r us hus
        refine ⟨fl, _, _, rfl, rfl, hfl5, by omega, ?_⟩
        obtain ⟨by_, hby⟩ := b4.some
        have kt5 : KT H4 H5 := kc5.kt hby lf4
        have kt6 : KT H5 (upd H5 fl (.lst (us ++ [v]))) := KT.lst hfl5
        refine ⟨_, us ++ [v], r ++ [d], l2, rfl, fun a o na nf ha => ?_, ?_, ?_, by omega, upd_same, DsAt_snoc (DAt_kt kt6 d v hdv) r us (DsAt_kt kt6 r us (DsAt_kt kt5 r us (DsAt_kt kt4 r us hus))), ?_, ?_, (by rw [List.length_append]; simp only [List.length_cons, List.length_nil]; omega), smR_app r [d] hsm ⟨hds, trivial⟩⟩
        · rw [upd_ne (ne_of_none ha nfl)]
          exact kc5 _ _ na nf (kc4 _ _ na nf (kc3 _ _ na nf ha))
        · obtain ⟨x0, x1', pr, x3', hx, rest⟩ := b5.ex
          exact ⟨⟨x0, x1', pr, x3', by rw [upd_ne (Ne.symm hflp)]; exact hx, rest⟩⟩
        · show (upd H5 fl (.lst (us ++ [v]))) f = _
          rw [upd_ne (Ne.symm hflf)]
          exact lf5
        · rw [deepR_app, deepR_one]
          exact Nat.max_le.mpr ⟨hdr, hdd⟩
        · rw [manyR_app, manyR_one]
          omega
      · rw [decide_eq_false (show ¬ (0 : Int) < ((l1 : Nat) : Int) by omega)]
        refine iteF ?_
        exact ⟨_, us, r, l1, rfl, kc3, b3, lf3, hl3, hfl3, hus, hdr, hmr, by omega, hsm⟩
    · rintro σ H3 ⟨x4, us, r, l1, rfl, kc3, b3, lf3, hl3, hfl3, hus, hdr, hmr, hri, hsm⟩
      refine ⟨_, rfl, fl, _, rfl, .inl ⟨SqL.of hfl3, fun q nq => ?_⟩⟩
      have sq := Same.new nq (o := .tup us)
      exact k q r l1 _ (kc3.trans (KC.of sq)) (b3.same sq) (sq _ _ lf3) hl3 ⟨us, SqT.of upd_same, DsAt_kt (KT.of sq) r us hus⟩ (by omega) hmr hsm
theorem ok_deeds0 {f : Addr} {fd : FuncData} (F : Fun K "_law_deeds" "_law_deeds" sDeeds f fd) : FnOk P w K mg base CX0 4 f fd ["_law_bag_here", "_law_left", "_law_deep"] (spDeeds K C 0) := by
  refine F.ok scDs (fun vs H Q E h => ?_) (fun cdv A outer s H vs Q E hr h => ?_)
  · obtain ⟨p, f, dp, l, rfl, _⟩ := h
    rfl
  · obtain ⟨p, f, dp, l, _, _, _, _, _, h, _⟩ := h
    exact absurd h (Nat.not_succ_le_zero _)
theorem ok_deeds {f fe : Addr} {fd fde : FuncData} (F : Fun K "_law_deeds" "_law_deeds" sDeeds f fd) (Fe : Fun K "_law_deed" "_law_deed" sDeed fe fde) (B : Blt mg) (G : FrmC K w mg) (DTk : Def P w K mg base "_law_take" 1 ["_law_bag_here", "_law_many"] spTake) (DNm : Def P w K mg base "_law_name" 2 ["_law_bag_here"] spName) (DTh : Def P w K mg base "_law_thing" 4 ["_law_bag_here", "_law_many"] (spThing C))
    (mgf : mg "_law_deeds" = some (.ref f)) (bf : Binds K fd ["_law_bag_here", "_law_left", "_law_deep"] []) (mge : mg "_law_deed" = some (.ref fe)) (be : Binds K fde ["_law_bag_here", "_law_left", "_law_deep"] []) : ∀ m, FnOk P w K mg base CX0 (2 * m + 4) f fd ["_law_bag_here", "_law_left", "_law_deep"] (spDeeds K C m)
  | 0 => ok_deeds0 F
  | m + 1 => ok_deedsS F B G DTk (ok_deed Fe B DTk DNm DTh (ok_deeds F Fe B G DTk DNm DTh mgf bf mge be m) mgf F.kp bf) mge Fe.kp be
def spTop (K : PySem.W.Frag) (C : Addr) : Sp := fun vs H Q _ => ∃ (p : Addr) (n : Nat), vs = [.ref p, .int (n : Nat)] ∧ BagOk H p ∧ n ≤ 1000 ∧ ∀ q r H', KB p H H' → BagOk H' p → RAt K C H' q r → deepR r ≤ 4 → manyR r ≤ 2 * n → smR r → Q (.ref q) H'
theorem scTo : FnScope ["_law_bag_here", "_law_many", "_law_left"] ["_law_bag_here", "_law_many"] (defScope sTop) := ⟨rfl, rfl, rfl, by decide +kernel, rfl, by decide +kernel, by decide +kernel⟩
theorem ok_top {f : Addr} {fd : FuncData} (F : Fun K "_law_top" "_law_top" sTop f fd) (DDs : Def P w K mg base "_law_deeds" 14 ["_law_bag_here", "_law_left", "_law_deep"] (spDeeds K C 5)) : FnOk P w K mg base CX0 15 f fd ["_law_bag_here", "_law_many"] (spTop K C) := by
  refine F.ok scTo (fun vs H Q E h => ?_) (fun cdv A outer s H vs Q E hr h => ?_)
  · obtain ⟨p, n, rfl, _⟩ := h
    rfl
  · obtain ⟨p, n, rfl, hb, hn, k⟩ := h
    refine ⟨_, pss_cons (ps_set (i := 2) scTo.nd rfl (Or.inl rfl) (pe_lst (pa_cons (pv 1) pa_nil))) (pss_one (ps_ret (pe_op op_catA (pe_def (k := 14) DDs hr rfl (pa_cons (pv 0) (pa_cons (pv 2) (pa_cons pe_int pa_nil)))) (pe_def (k := 14) DDs hr rfl (pa_cons (pv 0) (pa_cons (pv 2) (pa_cons pe_int pa_nil))))))), ?_⟩
    have hsl := line4
    refine ⟨_, rfl, by show 1 ≤ sizeLine; decide, fun f nf => ?_⟩
    have hpf : p ≠ f := fun z => by
      obtain ⟨bx, hbx⟩ := hb.some
      rw [← z, hbx] at nf
      cases nf
    have s1 : Same H (upd H f (.lst [.int (n : Nat)])) := Same.new nf
    have l1 : Lf (upd H f (.lst [.int (n : Nat)])) f n := upd_same
    revert s1 l1
    generalize upd H f (.lst [.int (n : Nat)]) = H1
    intro s1 l1
    refine ⟨_, rfl, _, rfl, p, f, 1, n, rfl, hb.same s1, l1, hpf, rfl, by decide, hn, fun q r m1 H2 kc2 b2 l2 hl2 hr2 hd2 hm2 hs2 => ?_⟩
    refine ⟨_, rfl, _, rfl, p, f, 1, m1, rfl, b2, l2, hpf, rfl, by decide, by omega, fun q2 r2 m2 H3 kc3 b3 l3 hl3 hr3 hd3 hm3 hs3 => ?_⟩
    obtain ⟨bx, hbx⟩ := b2.some
    obtain ⟨vs, h1, h2⟩ := hr2.kt (kc3.kt hbx l2)
    obtain ⟨us, g1, g2⟩ := hr3
    have kb3 : KB p H H3 := fun a o na ha => kc3 _ _ na (ne_of_none ha nf) (kc2 _ _ na (ne_of_none ha nf) (s1 _ _ ha))
    have lv := DsAt.length r vs h2
    have lu := DsAt.length r2 us g2
    have lr := len_many r
    have lr2 := len_many r2
    have hdd : deepR (r ++ r2) ≤ 4 := by
      rw [deepR_app]
      exact Nat.max_le.mpr ⟨by omega, by omega⟩
    have hmm : manyR (r ++ r2) ≤ 2 * n := by
      rw [manyR_app]
      omega
    refine ⟨q, q2, vs, us, rfl, rfl, h1, g1, by omega, fun e0 => ?_, fun _ e1 => ?_, fun _ _ U nU => ?_⟩
    · subst e0
      have er : r = [] := List.length_eq_zero_iff.mp lv.symm
      subst er
      exact k q2 r2 H3 kb3 b3 ⟨us, g1, g2⟩ (by simpa using hdd) (by simpa using hmm) hs3
    · subst e1
      have er : r2 = [] := List.length_eq_zero_iff.mp lu.symm
      subst er
      exact k q r H3 kb3 b3 ⟨vs, h1, h2⟩ (by simpa using hdd) (by simpa using hmm) hs2
    · have sU := Same.new nU (o := .tup (vs ++ us))
      exact k U (r ++ r2) _ (kb3.trans (KB.of sU)) (b3.same sU) ⟨_, SqT.of upd_same, DsAt_app r r2 vs us (DsAt_kt (KT.of sU) r vs h2) (DsAt_kt (KT.of sU) r2 us g2)⟩ hdd hmm (smR_app r r2 hs2 hs3)
end
end Js

set_option Elab.async false
set_option linter.all false
set_option maxRecDepth 100000
set_option maxHeartbeats 4000000
/-! a tuple taken once, or not at all -/
namespace L2
open PySem PySem.Spec PyProof.Rows
theorem tuple_mul1 (l : Addr) (items : Array Value) (n : Nat) (dd : Option Addr) (sl : Array (Option Value)) (u : Tok) :
    Meets (Builtin.«tuple.__mul__» ⟨[.ref l, .int 1 u], []⟩) (fun _ R s => s.heap.get? l = some { cls := .type "tuple", dict := dd, data := .seq items n, slots := sl } ∧ R (.ok (.ret (Value.ref l))) s) :=
  .of_wp fun prog w A R s h => by
    obtain ⟨hp, g, d, tk, os⟩ := s
    obtain ⟨hl, h⟩ := h
    have f1 := AutoSeq1.idx_int
    wp_walk using wpAny_loadPart' hl
    exact ⟨_, rfl, h⟩
theorem tuple_mul0 (l : Addr) (items : Array Value) (n : Nat) (dd : Option Addr) (sl : Array (Option Value)) (u : Tok) (hi : items.isEmpty = false) :
    Meets (Builtin.«tuple.__mul__» ⟨[.ref l, .int 0 u], []⟩) (fun _ R s => s.heap.get? l = some { cls := .type "tuple", dict := dd, data := .seq items n, slots := sl } ∧
      R (.ok (.ret (Value.ref s.heap.objs.size))) { s with heap := s.heap.push { cls := Value.type "tuple", data := Data.seq #[] }, toks := s.toks }) :=
  .of_wp fun prog w A R s h => by
    obtain ⟨hp, g, d, tk, os⟩ := s
    obtain ⟨hl, h⟩ := h
    have f1 := AutoSeq1.idx_int
    wp_walk using wpAny_loadPart' hl
    exact ⟨_, rfl, h⟩
def rRep01 (K : PySem.W.Frag) : R2 := fun x y H Q => ∃ l k xs, x = .ref l ∧ y = .int k ∧ SqT K H l xs ∧ xs ≠ [] ∧ ((k = 1 ∧ Q (.ref l) H) ∨ (k = 0 ∧ ∀ p, H p = none → Q (.ref p) (upd H p (.tup []))))
section
variable {X : Cx}
theorem op_rep01 : OpR X (binaryOp .Mult) (rRep01 X.K) := by
  intro pins s σ H x y v u Q I rx ry h
  obtain ⟨l, k, xs, rfl, rfl, hT, hne, q⟩ := h
  cases rx
  obtain ⟨t, rfl⟩ := ry
  obtain ⟨its, r, ⟨⟨cls, dd, data, sl⟩, ho, hc, n, hd⟩, hs⟩ := I.tuple hT
  simp only at hc hd
  subst hc hd
  have hle : its.length = xs.length := r.length.symm
  have hn : its ≠ [] := fun e => hne (by
    rw [e] at hle
    exact List.eq_nil_of_length_eq_zero hle.symm)
  have hi : its.toArray.isEmpty = false := by
    cases its with
    | nil => exact absurd rfl hn
    | cons a b => rfl
  rcases q with ⟨rfl, q⟩ | ⟨rfl, q⟩
  · refine wpAny_binaryOp_repeat_ref (T := "tuple") (U := "int") (by decide) ⟨_, ho, rfl⟩ (fun s' => typeIs_int s' 1 t) noFill_tuple_mul F.fills_int_mul F.slot_int_rmul repeat_tuple F.slot_int_index.lookup
      (call_meets F.slot_int_rmul (typeIs_int s 1 t) F.entry_int_rmul (F.args_int_rmul_2 _ _) (int_rmul_tuple 1 t l its.toArray n dd sl)
        ⟨ho, rfl, ⟨_, ho, rfl⟩, call_meets F.slot_tuple_mul ⟨_, ho, rfl⟩ F.entry_tuple_mul (F.args_tuple_mul_2 _ _) (tuple_mul1 l its.toArray n dd sl t) ⟨ho, ?_⟩⟩)
    exact ⟨.ref l, H, I, rfl, q⟩
  · refine wpAny_binaryOp_repeat_ref (T := "tuple") (U := "int") (by decide) ⟨_, ho, rfl⟩ (fun s' => typeIs_int s' 0 t) noFill_tuple_mul F.fills_int_mul F.slot_int_rmul repeat_tuple F.slot_int_index.lookup
      (call_meets F.slot_int_rmul (typeIs_int s 0 t) F.entry_int_rmul (F.args_int_rmul_2 _ _) (int_rmul_tuple 0 t l its.toArray n dd sl)
        ⟨ho, rfl, ⟨_, ho, rfl⟩, call_meets F.slot_tuple_mul ⟨_, ho, rfl⟩ F.entry_tuple_mul (F.args_tuple_mul_2 _ _) (tuple_mul0 l its.toArray n dd sl t hi) ⟨ho, ?_⟩⟩)
    refine ⟨.ref s.heap.objs.size, _, I.laid (t' := s.toks) (o := .tup []) (fun b ob q => Heap.get?_push_of_some _ q) (Nat.le_refl _) ?_, rfl, q _ (I.hok.fresh (Nat.le_refl _))⟩
    exact ⟨Nat.zero_le _, _, .nil, IsTup.new _ _⟩
end
end L2

set_option Elab.async false
set_option linter.all false
set_option maxRecDepth 100000
set_option maxHeartbeats 2000000
/-! a row of one deed, taken any number of times -/
namespace Js
open PySem L2
theorem DsAt_repP {K : PySem.W.Frag} {C : Addr} {H : Hp} {v : V} {d : Dd} (h : DAt K C H v d) : ∀ n : Nat, DsAt K C H (List.replicate n v) (List.replicate n d)
  | 0 => rfl
  | n + 1 => ⟨v, _, rfl, h, DsAt_repP h n⟩
theorem flat_oneP (v : V) : ∀ n : Nat, (List.replicate n [v]).flatten = List.replicate n v
  | 0 => rfl
  | n + 1 => by rw [List.replicate_succ, List.flatten_cons, flat_oneP v n]; rfl
section
variable {X : Cx} {C : Addr}
/-- (d,) * n, n from 1 on -/
theorem op_rep1R : OpR X (binaryOp .Mult) (fun x y H Q => ∃ q d n, x = .ref q ∧ y = .int n ∧ RAt X.K C H q [d] ∧ 1 ≤ n ∧ n ≤ 1000 ∧ ∀ q' H', Same H H' → RAt X.K C H' q' (List.replicate n.toNat d) → Q (.ref q') H') := by
  intro pins s σ H x y v u Q I rx ry h
  obtain ⟨q, d, n, rfl, rfl, ⟨vs, h1, h2⟩, h3, h4, k⟩ := h
  obtain ⟨w, ws, rfl, h5, h6⟩ := h2
  have e : ws = [] := h6
  subst e
  by_cases e : n = 1
  · subst e
    exact op_rep01 pins s σ H _ _ v u Q I rx ry ⟨q, 1, [w], rfl, rfl, h1, by simp, .inl ⟨rfl, k q H (Same.refl H) ⟨[w], h1, w, [], rfl, h5, rfl⟩⟩⟩
  · refine op_repT pins s σ H _ _ v u Q I rx ry ⟨q, n, [w], rfl, rfl, h1, by simp, by omega, h4, by simp, fun p np => ?_⟩
    rw [flat_oneP]
    have s := Same.new np (o := .tup (List.replicate n.toNat w))
    exact k p _ s ⟨_, SqT.of upd_same, DsAt_repP (DAt_kt (KT.of s) d w h5) _⟩
end
end Js

set_option Elab.async false
set_option linter.all false
set_option maxRecDepth 100000
set_option maxHeartbeats 2000000
namespace Js
open PySem L2
open PySem.Spec PyProof.Rows
abbrev sBo6 : Stmt := top 71
abbrev sLo6 : Stmt := top 72
abbrev sLr6 : Stmt := top 73
def goesR : List Dd := [.two false 1 2 1, .two false 1 2 1, .take true 0 0]
def twiceR : List Dd := [.told 1 .nil, .wh 0 goesR, .two false 0 1 1]
def spBo6 (K : PySem.W.Frag) (C CP : Addr) : Sp := fun vs H Q _ => ∃ p, vs = [.ref p] ∧ BagOk H p ∧ ∀ z r H', KB p H H' → BagOk H' p → PgAt K C CP H' z r → manyR r ≤ 60 → Q (.ref z) H'
section
variable {P : Program} {w : World} {K : PySem.W.Frag} {mg : Str → Option Value} {base : Heap} {C CP fI fP : Addr} {fdI fdP : FuncData}
theorem scBo6 : FnScope ["_law_bag_here", "_law_way", "_law_good", "_law_goes", "_law_twice"] ["_law_bag_here"] (defScope sBo6) := ⟨rfl, rfl, rfl, by decide +kernel, rfl, by decide +kernel, by decide +kernel⟩
theorem ok_bo6 {f : Addr} {fd : FuncData} (F : Fun K "_law_bounder" "_law_bounder" sBo6 f fd) (mk : Maker P w K mg base C fI fdI) (MP : MakerP P w K mg base C CP fP fdP) (DTk : Def P w K mg base "_law_take" 1 ["_law_bag_here", "_law_many"] spTake) (DTo : Def P w K mg base "_law_top" 15 ["_law_bag_here", "_law_many"] (spTop K C)) (DNu : Def P w K mg base "number" 4 ["n"] (spNumber C)) : FnOk P w K mg base CX0 16 f fd ["_law_bag_here"] (spBo6 K C CP) := by
  refine F.ok scBo6 (fun vs H Q E h => ?_) (fun cdv A outer s H vs Q E hr h => ?_)
  · obtain ⟨p, rfl, _⟩ := h
    rfl
  · obtain ⟨p, rfl, hb, k⟩ := h
    have hr1 : Room 1 _ := hr.mono (by decide)
    have hr3 : Room 3 _ := hr.mono (by decide)
    have hr4 : Room 4 _ := hr.mono (by decide)
    have hr15 : Room 15 _ := hr
    refine ⟨_, pss_cons (ps_set (i := 1) scBo6.nd rfl (Or.inl rfl) (pe_def DTk hr1 rfl (pa_cons (pv 0) (pa_cons pe_int pa_nil)))) (pss_cons (ps_set (i := 2) scBo6.nd rfl (Or.inl rfl) (pe_T2 mk hr3 rfl (pa_cons (pe_T0 mk hr3 rfl) (pa_cons (pe_T0 mk hr3 rfl) pa_nil)))) (pss_cons (ps_set (i := 3) scBo6.nd rfl (Or.inl rfl) (pe_tup (pa_cons (pe_tup (pa_cons pe_str (pa_cons pe_int (pa_cons pe_int (pa_cons pe_int pa_nil))))) (pa_cons (pe_tup (pa_cons pe_str (pa_cons pe_int (pa_cons pe_int (pa_cons pe_int pa_nil))))) (pa_cons (pe_tup (pa_cons pe_str (pa_cons pe_int (pa_cons pe_int pa_nil)))) pa_nil))))) (pss_cons (ps_set (i := 4) scBo6.nd rfl (Or.inl rfl) (pe_tup (pa_cons (pe_tup (pa_cons pe_str (pa_cons pe_int (pa_cons (pe_T0 mk hr3 rfl) pa_nil)))) (pa_cons (pe_tup (pa_cons pe_str (pa_cons pe_int (pa_cons (pv 3) pa_nil)))) (pa_cons (pe_tup (pa_cons pe_str (pa_cons pe_int (pa_cons pe_int (pa_cons pe_int pa_nil))))) pa_nil))))) (pss_cons (ps_if (pt_cmpR op_eq (pv 1) pe_int (nomark _)) (pss_one (ps_ret (pe_P MP hr15 rfl (pa_cons (pe_op (op_catP (C := C)) (pe_tup (pa_cons (pe_tup (pa_cons pe_str (pa_cons pe_int (pa_cons (pe_def DNu hr4 rfl (pa_cons (pe_def DTk hr1 rfl (pa_cons (pv 0) (pa_cons pe_int pa_nil))) pa_nil)) pa_nil)))) pa_nil)) (pe_def DTo hr15 rfl (pa_cons (pv 0) (pa_cons pe_int pa_nil)))) pa_nil)))) pss_nil) (pss_cons (ps_if (pt_cmpR op_eq (pv 1) pe_int (nomark _)) (pss_one (ps_ret (pe_P MP hr15 rfl (pa_cons (pe_op (op_catP (C := C)) (pe_slice (sl_tkP (C := C)) (pv 4) po_none (po_some pe_int)) (pe_tup (pa_cons (pe_tup (pa_cons pe_str (pa_cons pe_int (pa_cons pe_int (pa_cons pe_int pa_nil))))) (pa_cons (pe_tup (pa_cons pe_str (pa_cons pe_int (pa_cons pe_int pa_nil)))) pa_nil)))) pa_nil)))) pss_nil) (pss_cons (ps_if (pt_cmpR op_eq (pv 1) pe_int (nomark _)) (pss_one (ps_ret (pe_P MP hr15 rfl (pa_cons (pe_tup (pa_cons (pe_tup (pa_cons pe_str (pa_cons pe_int (pa_cons (pv 2) pa_nil)))) (pa_cons (pe_tup (pa_cons pe_str (pa_cons pe_int (pa_cons (pe_def DTo hr15 rfl (pa_cons (pv 0) (pa_cons pe_int pa_nil))) pa_nil)))) pa_nil))) pa_nil)))) pss_nil) (pss_cons (ps_if (pt_cmpR op_eq (pv 1) pe_int (nomark _)) (pss_one (ps_ret (pe_P MP hr15 rfl (pa_cons (pv 4) pa_nil)))) pss_nil) (pss_one (ps_ret (pe_P MP hr15 rfl (pa_cons (pe_def DTo hr15 rfl (pa_cons (pv 0) (pa_cons pe_int pa_nil))) pa_nil))))))))))), ?_⟩
    have hsl := line4
    have gh1 := hb
    refine ⟨_, rfl, p, 6, rfl, gh1, by decide, by decide, fun wy h1 kh1 bh1 wy0 wy1 => ?_⟩
    refine fun x1 h2 sh2 _ hx1 => ?_
    refine fun x2 h3 sh3 _ hx2 => ?_
    refine ⟨x1, x2, .nil, .nil, rfl, hx1.same sh3, hx2, (by decide), fun gd h4 sh4 _ hgd => ?_⟩
    refine ⟨by show 4 ≤ sizeLine; decide, fun A1 nA1 => ?_⟩
    have sh5 := Same.new nA1 (o := .tup [V.str "pair", .int ((1 : Nat) : Int), .int ((2 : Nat) : Int), .int ((1 : Nat) : Int)])
    have eh5 : (upd h4 A1 (.tup [V.str "pair", .int ((1 : Nat) : Int), .int ((2 : Nat) : Int), .int ((1 : Nat) : Int)])) A1 = some (.tup [V.str "pair", .int ((1 : Nat) : Int), .int ((2 : Nat) : Int), .int ((1 : Nat) : Int)]) := upd_same
    revert sh5 eh5
    generalize upd h4 A1 (.tup [V.str "pair", .int ((1 : Nat) : Int), .int ((2 : Nat) : Int), .int ((1 : Nat) : Int)]) = h5
    intro sh5 eh5
    refine ⟨by show 4 ≤ sizeLine; decide, fun A2 nA2 => ?_⟩
    have sh6 := Same.new nA2 (o := .tup [V.str "pair", .int ((1 : Nat) : Int), .int ((2 : Nat) : Int), .int ((1 : Nat) : Int)])
    have eh6 : (upd h5 A2 (.tup [V.str "pair", .int ((1 : Nat) : Int), .int ((2 : Nat) : Int), .int ((1 : Nat) : Int)])) A2 = some (.tup [V.str "pair", .int ((1 : Nat) : Int), .int ((2 : Nat) : Int), .int ((1 : Nat) : Int)]) := upd_same
    revert sh6 eh6
    generalize upd h5 A2 (.tup [V.str "pair", .int ((1 : Nat) : Int), .int ((2 : Nat) : Int), .int ((1 : Nat) : Int)]) = h6
    intro sh6 eh6
    refine ⟨by show 3 ≤ sizeLine; decide, fun A3 nA3 => ?_⟩
    have sh7 := Same.new nA3 (o := .tup [V.str "second", .int ((0 : Nat) : Int), .int ((0 : Nat) : Int)])
    have eh7 : (upd h6 A3 (.tup [V.str "second", .int ((0 : Nat) : Int), .int ((0 : Nat) : Int)])) A3 = some (.tup [V.str "second", .int ((0 : Nat) : Int), .int ((0 : Nat) : Int)]) := upd_same
    revert sh7 eh7
    generalize upd h6 A3 (.tup [V.str "second", .int ((0 : Nat) : Int), .int ((0 : Nat) : Int)]) = h7
    intro sh7 eh7
    refine ⟨by show 3 ≤ sizeLine; decide, fun A4 nA4 => ?_⟩
    have sh8 := Same.new nA4 (o := .tup [V.ref A1, V.ref A2, V.ref A3])
    have eh8 : (upd h7 A4 (.tup [V.ref A1, V.ref A2, V.ref A3])) A4 = some (.tup [V.ref A1, V.ref A2, V.ref A3]) := upd_same
    revert sh8 eh8
    generalize upd h7 A4 (.tup [V.ref A1, V.ref A2, V.ref A3]) = h8
    intro sh8 eh8
    refine fun x3 h9 sh9 _ hx3 => ?_
    refine ⟨by show 3 ≤ sizeLine; decide, fun B1 nB1 => ?_⟩
    have sh10 := Same.new nB1 (o := .tup [V.str "told", .int ((1 : Nat) : Int), .ref x3])
    have eh10 : (upd h9 B1 (.tup [V.str "told", .int ((1 : Nat) : Int), .ref x3])) B1 = some (.tup [V.str "told", .int ((1 : Nat) : Int), .ref x3]) := upd_same
    revert sh10 eh10
    generalize upd h9 B1 (.tup [V.str "told", .int ((1 : Nat) : Int), .ref x3]) = h10
    intro sh10 eh10
    refine ⟨_, rfl, by show 3 ≤ sizeLine; decide, fun B2 nB2 => ?_⟩
    have sh11 := Same.new nB2 (o := .tup [V.str "while", .int ((0 : Nat) : Int), .ref A4])
    have eh11 : (upd h10 B2 (.tup [V.str "while", .int ((0 : Nat) : Int), .ref A4])) B2 = some (.tup [V.str "while", .int ((0 : Nat) : Int), .ref A4]) := upd_same
    revert sh11 eh11
    generalize upd h10 B2 (.tup [V.str "while", .int ((0 : Nat) : Int), .ref A4]) = h11
    intro sh11 eh11
    refine ⟨by show 4 ≤ sizeLine; decide, fun B3 nB3 => ?_⟩
    have sh12 := Same.new nB3 (o := .tup [V.str "pair", .int ((0 : Nat) : Int), .int ((1 : Nat) : Int), .int ((1 : Nat) : Int)])
    have eh12 : (upd h11 B3 (.tup [V.str "pair", .int ((0 : Nat) : Int), .int ((1 : Nat) : Int), .int ((1 : Nat) : Int)])) B3 = some (.tup [V.str "pair", .int ((0 : Nat) : Int), .int ((1 : Nat) : Int), .int ((1 : Nat) : Int)]) := upd_same
    revert sh12 eh12
    generalize upd h11 B3 (.tup [V.str "pair", .int ((0 : Nat) : Int), .int ((1 : Nat) : Int), .int ((1 : Nat) : Int)]) = h12
    intro sh12 eh12
    refine ⟨by show 3 ≤ sizeLine; decide, fun B4 nB4 => ?_⟩
    have sh13 := Same.new nB4 (o := .tup [V.ref B1, V.ref B2, V.ref B3])
    have eh13 : (upd h12 B4 (.tup [V.ref B1, V.ref B2, V.ref B3])) B4 = some (.tup [V.ref B1, V.ref B2, V.ref B3]) := upd_same
    revert sh13 eh13
    generalize upd h12 B4 (.tup [V.ref B1, V.ref B2, V.ref B3]) = h13
    intro sh13 eh13
    have hgo : DsAt K C h13 [V.ref A1, V.ref A2, V.ref A3] goesR := ⟨_, _, rfl, ⟨A1, rfl, sqt_kt ((((((((KT.of sh6).trans (KT.of sh7)).trans (KT.of sh8)).trans (KT.of sh9)).trans (KT.of sh10)).trans (KT.of sh11)).trans (KT.of sh12)).trans (KT.of sh13)) (SqT.of eh5), by decide, by decide, by decide⟩, _, _, rfl, ⟨A2, rfl, sqt_kt (((((((KT.of sh7).trans (KT.of sh8)).trans (KT.of sh9)).trans (KT.of sh10)).trans (KT.of sh11)).trans (KT.of sh12)).trans (KT.of sh13)) (SqT.of eh6), by decide, by decide, by decide⟩, _, _, rfl, ⟨A3, rfl, sqt_kt ((((((KT.of sh8).trans (KT.of sh9)).trans (KT.of sh10)).trans (KT.of sh11)).trans (KT.of sh12)).trans (KT.of sh13)) (SqT.of eh7), by decide, by decide⟩, rfl⟩
    have htw : RAt K C h13 B4 twiceR := ⟨_, SqT.of eh13, _, _, rfl, ⟨B1, x3, rfl, sqt_kt (((KT.of sh11).trans (KT.of sh12)).trans (KT.of sh13)) (SqT.of eh10), by decide, (hx3).kt ((((KT.of sh10).trans (KT.of sh11)).trans (KT.of sh12)).trans (KT.of sh13)), by decide⟩, _, _, rfl, ⟨B2, A4, _, rfl, sqt_kt ((KT.of sh12).trans (KT.of sh13)) (SqT.of eh11), by decide, sqt_kt (((((KT.of sh9).trans (KT.of sh10)).trans (KT.of sh11)).trans (KT.of sh12)).trans (KT.of sh13)) (SqT.of eh8), hgo⟩, _, _, rfl, ⟨B3, rfl, sqt_kt (KT.of sh13) (SqT.of eh12), by decide, by decide, by decide⟩, rfl⟩
    have bC := bh1.same (((((((((((sh2.trans sh3).trans sh4).trans sh5).trans sh6).trans sh7).trans sh8).trans sh9).trans sh10).trans sh11).trans sh12).trans sh13)
    have kC := (((((((((((((kh1).trans (KB.of sh2)).trans (KB.of sh3)).trans (KB.of sh4)).trans (KB.of sh5)).trans (KB.of sh6)).trans (KB.of sh7)).trans (KB.of sh8)).trans (KB.of sh9)).trans (KB.of sh10)).trans (KB.of sh11)).trans (KB.of sh12)).trans (KB.of sh13))
    refine ⟨_, rfl, rfl, _, rfl, ?_⟩
    by_cases w0 : wy = 0
    · subst w0
      rw [decide_eq_true rfl]
      refine iteT ⟨_, rfl, p, 60, rfl, bC, by decide, by decide, fun d1 G1 k1 b1 d10 d11 => ?_⟩
      obtain ⟨n1, rfl⟩ := Int.eq_ofNat_of_zero_le d10
      refine ⟨n1, rfl, by omega, fun z G2 t2 hz => ⟨by show 3 ≤ sizeLine; decide, fun T1 nT1 => ?_⟩⟩
      have t3 := Same.new nT1 (o := .tup [V.str "told", .int ((0 : Nat) : Int), .ref z])
      have f3 : (upd G2 T1 (.tup [V.str "told", .int ((0 : Nat) : Int), .ref z])) T1 = some (.tup [V.str "told", .int ((0 : Nat) : Int), .ref z]) := upd_same
      revert t3 f3
      generalize upd G2 T1 (.tup [V.str "told", .int ((0 : Nat) : Int), .ref z]) = G3
      intro t3 f3
      refine ⟨by show 1 ≤ sizeLine; decide, fun T2 nT2 => ?_⟩
      have t4 := Same.new nT2 (o := .tup [V.ref T1])
      have f4 : (upd G3 T2 (.tup [V.ref T1])) T2 = some (.tup [V.ref T1]) := upd_same
      revert t4 f4
      generalize upd G3 T2 (.tup [V.ref T1]) = G4
      intro t4 f4
      have hT2 : RAt K C G4 T2 [.told 0 (num n1)] := ⟨_, SqT.of f4, _, _, rfl, ⟨T1, z, rfl, SqT.of (t4 _ _ f3), by decide, hz.same (t3.trans t4), by rw [num_size]; omega⟩, rfl⟩
      have t24 := (t2.trans t3).trans t4
      refine ⟨_, rfl, p, 3, rfl, b1.same t24, by decide, fun q r G5 k5 b5 hq hd hm _ => ?_⟩
      have lr := len_manyP r
      refine ⟨T2, q, _, r, rfl, rfl, hT2.kt ((b1.same t24).kt k5), hq, by show 1 + r.length ≤ 100000; omega, fun q6 G6 t6 hq6 => ?_⟩
      refine ⟨q6, _, rfl, hq6, by rw [deepR_appP]; simp only [deepR, Dd.deep]; omega, by rw [manyR_app, manyR_one, many_told]; omega, fun m G7 t7 _ hm7 => ?_⟩
      exact k m _ G7 (kC.trans (((k1.trans (KB.of t24)).trans k5).trans (KB.of (t6.trans t7)))) (b5.same (t6.trans t7)) hm7 (by rw [manyR_app, manyR_one, many_told]; omega)
    rw [decide_eq_false (fun z => w0 (V.int.inj z))]
    refine iteF ⟨_, rfl, rfl, _, rfl, ?_⟩
    by_cases w1 : wy = 1
    · subst w1
      rw [decide_eq_true rfl]
      refine iteT ⟨_, rfl, _, rfl, B4, twiceR, 2, rfl, rfl, rfl, htw, fun q1 G1 t1 hq1 => ⟨by show 4 ≤ sizeLine; decide, fun T1 nT1 => ?_⟩⟩
      have t2 := Same.new nT1 (o := .tup [V.str "pair", .int ((3 : Nat) : Int), .int ((1 : Nat) : Int), .int ((2 : Nat) : Int)])
      have f2 : (upd G1 T1 (.tup [V.str "pair", .int ((3 : Nat) : Int), .int ((1 : Nat) : Int), .int ((2 : Nat) : Int)])) T1 = some (.tup [V.str "pair", .int ((3 : Nat) : Int), .int ((1 : Nat) : Int), .int ((2 : Nat) : Int)]) := upd_same
      revert t2 f2
      generalize upd G1 T1 (.tup [V.str "pair", .int ((3 : Nat) : Int), .int ((1 : Nat) : Int), .int ((2 : Nat) : Int)]) = G2
      intro t2 f2
      refine ⟨by show 3 ≤ sizeLine; decide, fun T2 nT2 => ?_⟩
      have t3 := Same.new nT2 (o := .tup [V.str "first", .int ((0 : Nat) : Int), .int ((3 : Nat) : Int)])
      have f3 : (upd G2 T2 (.tup [V.str "first", .int ((0 : Nat) : Int), .int ((3 : Nat) : Int)])) T2 = some (.tup [V.str "first", .int ((0 : Nat) : Int), .int ((3 : Nat) : Int)]) := upd_same
      revert t3 f3
      generalize upd G2 T2 (.tup [V.str "first", .int ((0 : Nat) : Int), .int ((3 : Nat) : Int)]) = G3
      intro t3 f3
      refine ⟨by show 2 ≤ sizeLine; decide, fun T3 nT3 => ?_⟩
      have t4 := Same.new nT3 (o := .tup [V.ref T1, V.ref T2])
      have f4 : (upd G3 T3 (.tup [V.ref T1, V.ref T2])) T3 = some (.tup [V.ref T1, V.ref T2]) := upd_same
      revert t4 f4
      generalize upd G3 T3 (.tup [V.ref T1, V.ref T2]) = G4
      intro t4 f4
      have hT3 : RAt K C G4 T3 [.two false 3 1 2, .take false 0 3] := ⟨_, SqT.of f4, _, _, rfl, ⟨T1, rfl, SqT.of ((t3.trans t4) _ _ f2), by decide, by decide, by decide⟩, _, _, rfl, ⟨T2, rfl, SqT.of (t4 _ _ f3), by decide, by decide⟩, rfl⟩
      refine ⟨q1, T3, _, _, rfl, rfl, hq1.same ((t2.trans t3).trans t4), hT3, by decide, fun q6 G6 t6 hq6 => ?_⟩
      refine ⟨q6, _, rfl, hq6, by decide, by decide, fun m G7 t7 _ hm7 => ?_⟩
      have tt := ((t1.trans t2).trans t3).trans (t4.trans (t6.trans t7))
      exact k m _ G7 (kC.trans (KB.of tt)) (bC.same tt) hm7 (by decide)
    rw [decide_eq_false (fun z => w1 (V.int.inj z))]
    refine iteF ⟨_, rfl, rfl, _, rfl, ?_⟩
    by_cases w2 : wy = 2
    · subst w2
      rw [decide_eq_true rfl]
      refine iteT ⟨_, rfl, by show 3 ≤ sizeLine; decide, fun T1 nT1 => ?_⟩
      have t2 := Same.new nT1 (o := .tup [V.str "told", .int ((4 : Nat) : Int), .ref gd])
      have f2 : (upd h13 T1 (.tup [V.str "told", .int ((4 : Nat) : Int), .ref gd])) T1 = some (.tup [V.str "told", .int ((4 : Nat) : Int), .ref gd]) := upd_same
      revert t2 f2
      generalize upd h13 T1 (.tup [V.str "told", .int ((4 : Nat) : Int), .ref gd]) = G1
      intro t2 f2
      refine ⟨_, rfl, p, 3, rfl, bC.same t2, by decide, fun q r G2 k2 b2 hq hd hm _ => ⟨by show 3 ≤ sizeLine; decide, fun T2 nT2 => ?_⟩⟩
      have kt2 := (bC.same t2).kt k2
      have t3 := Same.new nT2 (o := .tup [V.str "while", .int ((4 : Nat) : Int), .ref q])
      have f3 : (upd G2 T2 (.tup [V.str "while", .int ((4 : Nat) : Int), .ref q])) T2 = some (.tup [V.str "while", .int ((4 : Nat) : Int), .ref q]) := upd_same
      revert t3 f3
      generalize upd G2 T2 (.tup [V.str "while", .int ((4 : Nat) : Int), .ref q]) = G3
      intro t3 f3
      refine ⟨by show 2 ≤ sizeLine; decide, fun T3 nT3 => ?_⟩
      have t4 := Same.new nT3 (o := .tup [V.ref T1, V.ref T2])
      have f4 : (upd G3 T3 (.tup [V.ref T1, V.ref T2])) T3 = some (.tup [V.ref T1, V.ref T2]) := upd_same
      revert t4 f4
      generalize upd G3 T3 (.tup [V.ref T1, V.ref T2]) = G4
      intro t4 f4
      obtain ⟨vr, hr1', hr2'⟩ := hq.same (t3.trans t4)
      have hT3 : RAt K C G4 T3 [.told 4 yesT, .wh 4 r] := ⟨_, SqT.of f4, _, _, rfl, ⟨T1, gd, rfl, sqt_kt (kt2.trans (KT.of (t3.trans t4))) (SqT.of f2), by decide, ((((hgd).kt (((((((((KT.of sh5).trans (KT.of sh6)).trans (KT.of sh7)).trans (KT.of sh8)).trans (KT.of sh9)).trans (KT.of sh10)).trans (KT.of sh11)).trans (KT.of sh12)).trans (KT.of sh13))).same t2).kt kt2).same (t3.trans t4), by decide⟩, _, _, rfl, ⟨T2, q, vr, rfl, SqT.of (t4 _ _ f3), by decide, hr1', hr2'⟩, rfl⟩
      refine ⟨T3, _, rfl, hT3, by simp only [deepR, Dd.deep]; omega, by rw [many_cons, manyR_one, many_told, many_wh]; omega, fun m G7 t7 _ hm7 => ?_⟩
      exact k m _ G7 (kC.trans (((KB.of t2).trans k2).trans (KB.of ((t3.trans t4).trans t7)))) (b2.same ((t3.trans t4).trans t7)) hm7 (by rw [many_cons, manyR_one, many_told, many_wh]; omega)
    rw [decide_eq_false (fun z => w2 (V.int.inj z))]
    refine iteF ⟨_, rfl, rfl, _, rfl, ?_⟩
    by_cases w3 : wy = 3
    · subst w3
      rw [decide_eq_true rfl]
      refine iteT ⟨_, rfl, B4, _, rfl, htw, by decide, by decide, fun m G7 t7 _ hm7 => ?_⟩
      exact k m _ G7 (kC.trans (KB.of t7)) (bC.same t7) hm7 (by decide)
    rw [decide_eq_false (fun z => w3 (V.int.inj z))]
    refine iteF ⟨_, rfl, p, 10, rfl, bC, by decide, fun q r G2 k2 b2 hq hd hm _ => ⟨q, r, rfl, hq, by omega, by omega, fun m G7 t7 _ hm7 => ?_⟩⟩
    exact k m _ G7 (kC.trans (k2.trans (KB.of t7))) (b2.same t7) hm7 (by omega)
end
end Js

set_option Elab.async false
set_option linter.all false
set_option maxRecDepth 100000
set_option maxHeartbeats 2000000
namespace Js
open PySem L2
open PySem.Spec PyProof.Rows
def inLo : List Dd := [.told 2 (num 97), .wh 2 [.take true 2 2], .take true 1 1]
def ahLo : List Dd := [.told 1 (num 20), .wh 1 inLo, .told 1 (num 17), .wh 1 [.take true 1 1]]
def loR (n : Nat) : List Dd := ahLo ++ List.replicate n (.take false 3 3)
def leLr : List Dd := [.told 3 (num 48), .wh 3 [.take true 3 3], .take true 2 2]
def inLr : List Dd := [.told 2 (num 9), .wh 2 leLr, .take true 1 1]
def ahLr : List Dd := [.told 1 (num 11), .wh 1 inLr, .told 1 (num 25), .wh 1 [.take true 1 1]]
def lrR (n : Nat) : List Dd := ahLr ++ List.replicate n (.take false 3 3)
theorem atI_neg1 {ws : List V} {v : V} (h : ws[ws.length - 1]? = some v) : atI ws (-1) = some v := by
  have hl := (List.getElem?_eq_some_iff.mp h).1
  have e := take_snoc h
  rw [show ws.length - 1 + 1 = ws.length by omega, List.take_length] at e
  rw [e]
  exact atI_last _ _
def spLo6 (K : PySem.W.Frag) (C : Addr) : Sp := fun vs H Q _ => ∃ n : Nat, vs = [.int (n : Nat)] ∧ 1 ≤ n ∧ n ≤ 100 ∧ ∀ q H', Same H H' → RAt K C H' q (loR n) → Q (.ref q) H'
def spLr6 (K : PySem.W.Frag) (C : Addr) : Sp := fun vs H Q _ => ∃ n : Nat, vs = [.int (n : Nat)] ∧ 1 ≤ n ∧ n ≤ 100 ∧ ∀ q H', Same H H' → RAt K C H' q (lrR n) → Q (.ref q) H'
section
variable {P : Program} {w : World} {K : PySem.W.Frag} {mg : Str → Option Value} {base : Heap} {C CP fI fP : Addr} {fdI fdP : FuncData}
theorem scLo6 : FnScope ["_law_more", "_law_some", "_law_turn", "_law_inner", "_law_ahead"] ["_law_more"] (defScope sLo6) := ⟨rfl, rfl, rfl, by decide +kernel, rfl, by decide +kernel, by decide +kernel⟩
theorem scLr6 : FnScope ["_law_more", "_law_some", "_law_turn", "_law_least", "_law_inner", "_law_ahead"] ["_law_more"] (defScope sLr6) := ⟨rfl, rfl, rfl, by decide +kernel, rfl, by decide +kernel, by decide +kernel⟩
theorem ok_lo6 {f : Addr} {fd : FuncData} (F : Fun K "_law_long" "_law_long" sLo6 f fd) (B : Blt mg) (mk : Maker P w K mg base C fI fdI) : FnOk P w K mg base CX0 4 f fd ["_law_more"] (spLo6 K C) := by
  refine F.ok scLo6 (fun vs H Q E h => ?_) (fun cdv A outer s H vs Q E hr h => ?_)
  · obtain ⟨n, rfl, _⟩ := h
    rfl
  · obtain ⟨n, rfl, hn1, hn2, k⟩ := h
    have hr3 : Room 3 _ := hr
    refine ⟨_, pss_cons (ps_set (i := 1) scLo6.nd rfl (Or.inl rfl) (pe_lst (pa_cons (pe_T0 mk hr3 rfl) pa_nil))) (pss_cons (ps_for PassesOwn.never rfl (pi_range1 rfl B.range (pa_cons pe_int pa_nil)) (pg_name (i := 2) scLo6.nd rfl (Or.inl rfl)) (pss_one (ps_expr (pe_bm PySem.F.plainAttrs_list PySem.F.slot_list_append PySem.F.type_list_append mt_append (pv 1) (pa_cons (pe_T2 mk hr3 rfl (pa_cons (pe_T0 mk hr3 rfl) (pa_cons (pe_ix (r := rIxL K) ix_list (pv 1) (pe_un un_neg pe_int) (fun _ _ => rfl)) pa_nil))) pa_nil))))) (pss_cons (ps_set (i := 3) scLo6.nd rfl (Or.inl rfl) (pe_tup (pa_cons (pe_tup (pa_cons pe_str (pa_cons pe_int (pa_cons (pe_ix (r := rIxL K) ix_list (pv 1) pe_int (fun _ _ => rfl)) pa_nil)))) (pa_cons (pe_tup (pa_cons pe_str (pa_cons pe_int (pa_cons (pe_tup (pa_cons (pe_tup (pa_cons pe_str (pa_cons pe_int (pa_cons pe_int pa_nil)))) pa_nil)) pa_nil)))) (pa_cons (pe_tup (pa_cons pe_str (pa_cons pe_int (pa_cons pe_int pa_nil)))) pa_nil))))) (pss_cons (ps_set (i := 4) scLo6.nd rfl (Or.inl rfl) (pe_tup (pa_cons (pe_tup (pa_cons pe_str (pa_cons pe_int (pa_cons (pe_ix (r := rIxL K) ix_list (pv 1) pe_int (fun _ _ => rfl)) pa_nil)))) (pa_cons (pe_tup (pa_cons pe_str (pa_cons pe_int (pa_cons (pv 3) pa_nil)))) (pa_cons (pe_tup (pa_cons pe_str (pa_cons pe_int (pa_cons (pe_ix (r := rIxL K) ix_list (pv 1) pe_int (fun _ _ => rfl)) pa_nil)))) (pa_cons (pe_tup (pa_cons pe_str (pa_cons pe_int (pa_cons (pe_tup (pa_cons (pe_tup (pa_cons pe_str (pa_cons pe_int (pa_cons pe_int pa_nil)))) pa_nil)) pa_nil)))) pa_nil)))))) (pss_one (ps_ret (pe_op (op_catP (C := C)) (pv 4) (pe_op (op_rep1R (C := C)) (pe_tup (pa_cons (pe_tup (pa_cons pe_str (pa_cons pe_int (pa_cons pe_int pa_nil)))) pa_nil)) (pv 0)))))))), ?_⟩
    have hsl := line4
    refine fun x0 h1 sh1 _ hx0 => ?_
    refine ⟨by show 1 ≤ sizeLine; decide, fun L nL => ?_⟩
    have sh2 := Same.new nL (o := .lst [V.ref x0])
    have eh2 : (upd h1 L (.lst [V.ref x0])) L = some (.lst [V.ref x0]) := upd_same
    revert sh2 eh2
    generalize upd h1 L (.lst [V.ref x0]) = h2
    intro sh2 eh2
    refine ⟨97, rfl, by decide, by decide, for_range (n := 97) (fun i σ H' => ∃ (x2 : Option V) (ws : List V), σ = [some (.int (n : Nat)), some (.ref L), x2, none, none] ∧ Same H H' ∧ H' L = some (.lst ws) ∧ ws.length = i + 1 ∧ ∀ j, j < i + 1 → ∃ v, ws[j]? = some (.ref v) ∧ Th C H' v (num j)) ⟨none, [V.ref x0], rfl, (sh1.trans sh2), eh2, rfl, fun j hj => ?_⟩ ?_ ?_⟩
    · have e : j = 0 := by omega
      subst e
      exact ⟨x0, rfl, (hx0).kt (KT.of sh2)⟩
    · rintro i σ G0 hi ⟨x2, ws, rfl, s0, hL0, hwl, hw⟩
      obtain ⟨vl, hvl, htl⟩ := hw i (by omega)
      have hlast : atI ws (-1) = some (.ref vl) := atI_neg1 (by rw [hwl]; exact hvl)
      refine ⟨_, rfl, .inl ⟨rfl, _, SqL.of hL0⟩, fun y G1 t1 _ hy => ⟨_, rfl, _, rfl, L, _, _, _, rfl, rfl, SqL.of (t1 _ _ hL0), hlast, y, vl, .nil, num i, rfl, hy, htl.same t1, by rw [num_size]; show 1 + 0 + i ≤ 4000; omega, fun z G2 t2 _ hz => ?_⟩⟩
      have hL2 := (t1.trans t2) _ _ hL0
      have kl := KT.lst (o := .lst (ws ++ [V.ref z])) hL2
      refine ⟨L, _, _, rfl, rfl, hL2, by omega, _, ws ++ [.ref z], rfl, ((s0.trans t1).trans t2).set (sh1.free nL), upd_same, by rw [List.length_append]; simp only [List.length_cons, List.length_nil]; omega, fun j hj => ?_⟩
      by_cases hji : j < i + 1
      · obtain ⟨v, hv, ht⟩ := hw j hji
        exact ⟨v, by rw [List.getElem?_append_left (by omega)]; exact hv, ht.kt ((KT.of (t1.trans t2)).trans kl)⟩
      · have e : j = i + 1 := by omega
        subst e
        refine ⟨z, ?_, hz.kt kl⟩
        rw [List.getElem?_append_right (by omega), hwl, Nat.sub_self]
        rfl
    rintro σ G0 ⟨x2, ws, rfl, s0, hL0, hwl, hw⟩
    have getL : ∀ j, j < 98 → ∃ v, atI ws ((j : Nat) : Int) = some (.ref v) ∧ Th C G0 v (num j) := fun j hj => by
      obtain ⟨v, hv, ht⟩ := hw j hj
      exact ⟨v, atI_nat hv, ht⟩
    obtain ⟨vA1, haA1, htA1⟩ := getL 97 (by decide)
    refine ⟨_, rfl, L, _, _, _, rfl, rfl, SqL.of ((Same.refl _) _ _ hL0), haA1, by show 3 ≤ sizeLine; decide, fun A1 nA1 => ?_⟩
    have sg1 := Same.new nA1 (o := .tup [V.str "told", .int ((2 : Nat) : Int), .ref vA1])
    have eg1 : (upd G0 A1 (.tup [V.str "told", .int ((2 : Nat) : Int), .ref vA1])) A1 = some (.tup [V.str "told", .int ((2 : Nat) : Int), .ref vA1]) := upd_same
    revert sg1 eg1
    generalize upd G0 A1 (.tup [V.str "told", .int ((2 : Nat) : Int), .ref vA1]) = g1
    intro sg1 eg1
    refine ⟨by show 3 ≤ sizeLine; decide, fun A2 nA2 => ?_⟩
    have sg2 := Same.new nA2 (o := .tup [V.str "second", .int ((2 : Nat) : Int), .int ((2 : Nat) : Int)])
    have eg2 : (upd g1 A2 (.tup [V.str "second", .int ((2 : Nat) : Int), .int ((2 : Nat) : Int)])) A2 = some (.tup [V.str "second", .int ((2 : Nat) : Int), .int ((2 : Nat) : Int)]) := upd_same
    revert sg2 eg2
    generalize upd g1 A2 (.tup [V.str "second", .int ((2 : Nat) : Int), .int ((2 : Nat) : Int)]) = g2
    intro sg2 eg2
    refine ⟨by show 1 ≤ sizeLine; decide, fun A3 nA3 => ?_⟩
    have sg3 := Same.new nA3 (o := .tup [V.ref A2])
    have eg3 : (upd g2 A3 (.tup [V.ref A2])) A3 = some (.tup [V.ref A2]) := upd_same
    revert sg3 eg3
    generalize upd g2 A3 (.tup [V.ref A2]) = g3
    intro sg3 eg3
    refine ⟨by show 3 ≤ sizeLine; decide, fun A4 nA4 => ?_⟩
    have sg4 := Same.new nA4 (o := .tup [V.str "while", .int ((2 : Nat) : Int), .ref A3])
    have eg4 : (upd g3 A4 (.tup [V.str "while", .int ((2 : Nat) : Int), .ref A3])) A4 = some (.tup [V.str "while", .int ((2 : Nat) : Int), .ref A3]) := upd_same
    revert sg4 eg4
    generalize upd g3 A4 (.tup [V.str "while", .int ((2 : Nat) : Int), .ref A3]) = g4
    intro sg4 eg4
    refine ⟨by show 3 ≤ sizeLine; decide, fun A5 nA5 => ?_⟩
    have sg5 := Same.new nA5 (o := .tup [V.str "second", .int ((1 : Nat) : Int), .int ((1 : Nat) : Int)])
    have eg5 : (upd g4 A5 (.tup [V.str "second", .int ((1 : Nat) : Int), .int ((1 : Nat) : Int)])) A5 = some (.tup [V.str "second", .int ((1 : Nat) : Int), .int ((1 : Nat) : Int)]) := upd_same
    revert sg5 eg5
    generalize upd g4 A5 (.tup [V.str "second", .int ((1 : Nat) : Int), .int ((1 : Nat) : Int)]) = g5
    intro sg5 eg5
    refine ⟨by show 3 ≤ sizeLine; decide, fun A6 nA6 => ?_⟩
    have sg6 := Same.new nA6 (o := .tup [V.ref A1, V.ref A4, V.ref A5])
    have eg6 : (upd g5 A6 (.tup [V.ref A1, V.ref A4, V.ref A5])) A6 = some (.tup [V.ref A1, V.ref A4, V.ref A5]) := upd_same
    revert sg6 eg6
    generalize upd g5 A6 (.tup [V.ref A1, V.ref A4, V.ref A5]) = g6
    intro sg6 eg6
    have hI : RAt K C g6 A6 inLo := ⟨_, SqT.of eg6, _, _, rfl, ⟨A1, vA1, rfl, sqt_kt (((((KT.of sg2).trans (KT.of sg3)).trans (KT.of sg4)).trans (KT.of sg5)).trans (KT.of sg6)) (SqT.of eg1), by decide, (htA1).kt ((((((KT.of sg1).trans (KT.of sg2)).trans (KT.of sg3)).trans (KT.of sg4)).trans (KT.of sg5)).trans (KT.of sg6)), by rw [num_size]; decide⟩, _, _, rfl, ⟨A4, A3, _, rfl, sqt_kt ((KT.of sg5).trans (KT.of sg6)) (SqT.of eg4), by decide, sqt_kt (((KT.of sg4).trans (KT.of sg5)).trans (KT.of sg6)) (SqT.of eg3), ⟨_, _, rfl, ⟨A2, rfl, sqt_kt ((((KT.of sg3).trans (KT.of sg4)).trans (KT.of sg5)).trans (KT.of sg6)) (SqT.of eg2), by decide, by decide⟩, rfl⟩⟩, _, _, rfl, ⟨A5, rfl, sqt_kt (KT.of sg6) (SqT.of eg5), by decide, by decide⟩, rfl⟩
    obtain ⟨vC1, haC1, htC1⟩ := getL 20 (by decide)
    refine ⟨_, rfl, L, _, _, _, rfl, rfl, SqL.of ((((((sg1.trans sg2).trans sg3).trans sg4).trans sg5).trans sg6) _ _ hL0), haC1, by show 3 ≤ sizeLine; decide, fun C1 nC1 => ?_⟩
    have sg7 := Same.new nC1 (o := .tup [V.str "told", .int ((1 : Nat) : Int), .ref vC1])
    have eg7 : (upd g6 C1 (.tup [V.str "told", .int ((1 : Nat) : Int), .ref vC1])) C1 = some (.tup [V.str "told", .int ((1 : Nat) : Int), .ref vC1]) := upd_same
    revert sg7 eg7
    generalize upd g6 C1 (.tup [V.str "told", .int ((1 : Nat) : Int), .ref vC1]) = g7
    intro sg7 eg7
    refine ⟨_, rfl, by show 3 ≤ sizeLine; decide, fun C2 nC2 => ?_⟩
    have sg8 := Same.new nC2 (o := .tup [V.str "while", .int ((1 : Nat) : Int), .ref A6])
    have eg8 : (upd g7 C2 (.tup [V.str "while", .int ((1 : Nat) : Int), .ref A6])) C2 = some (.tup [V.str "while", .int ((1 : Nat) : Int), .ref A6]) := upd_same
    revert sg8 eg8
    generalize upd g7 C2 (.tup [V.str "while", .int ((1 : Nat) : Int), .ref A6]) = g8
    intro sg8 eg8
    obtain ⟨vC3, haC3, htC3⟩ := getL 17 (by decide)
    refine ⟨_, rfl, L, _, _, _, rfl, rfl, SqL.of ((((((((sg1.trans sg2).trans sg3).trans sg4).trans sg5).trans sg6).trans sg7).trans sg8) _ _ hL0), haC3, by show 3 ≤ sizeLine; decide, fun C3 nC3 => ?_⟩
    have sg9 := Same.new nC3 (o := .tup [V.str "told", .int ((1 : Nat) : Int), .ref vC3])
    have eg9 : (upd g8 C3 (.tup [V.str "told", .int ((1 : Nat) : Int), .ref vC3])) C3 = some (.tup [V.str "told", .int ((1 : Nat) : Int), .ref vC3]) := upd_same
    revert sg9 eg9
    generalize upd g8 C3 (.tup [V.str "told", .int ((1 : Nat) : Int), .ref vC3]) = g9
    intro sg9 eg9
    refine ⟨by show 3 ≤ sizeLine; decide, fun C4 nC4 => ?_⟩
    have sg10 := Same.new nC4 (o := .tup [V.str "second", .int ((1 : Nat) : Int), .int ((1 : Nat) : Int)])
    have eg10 : (upd g9 C4 (.tup [V.str "second", .int ((1 : Nat) : Int), .int ((1 : Nat) : Int)])) C4 = some (.tup [V.str "second", .int ((1 : Nat) : Int), .int ((1 : Nat) : Int)]) := upd_same
    revert sg10 eg10
    generalize upd g9 C4 (.tup [V.str "second", .int ((1 : Nat) : Int), .int ((1 : Nat) : Int)]) = g10
    intro sg10 eg10
    refine ⟨by show 1 ≤ sizeLine; decide, fun C5 nC5 => ?_⟩
    have sg11 := Same.new nC5 (o := .tup [V.ref C4])
    have eg11 : (upd g10 C5 (.tup [V.ref C4])) C5 = some (.tup [V.ref C4]) := upd_same
    revert sg11 eg11
    generalize upd g10 C5 (.tup [V.ref C4]) = g11
    intro sg11 eg11
    refine ⟨by show 3 ≤ sizeLine; decide, fun C6 nC6 => ?_⟩
    have sg12 := Same.new nC6 (o := .tup [V.str "while", .int ((1 : Nat) : Int), .ref C5])
    have eg12 : (upd g11 C6 (.tup [V.str "while", .int ((1 : Nat) : Int), .ref C5])) C6 = some (.tup [V.str "while", .int ((1 : Nat) : Int), .ref C5]) := upd_same
    revert sg12 eg12
    generalize upd g11 C6 (.tup [V.str "while", .int ((1 : Nat) : Int), .ref C5]) = g12
    intro sg12 eg12
    refine ⟨by show 4 ≤ sizeLine; decide, fun C7 nC7 => ?_⟩
    have sg13 := Same.new nC7 (o := .tup [V.ref C1, V.ref C2, V.ref C3, V.ref C6])
    have eg13 : (upd g12 C7 (.tup [V.ref C1, V.ref C2, V.ref C3, V.ref C6])) C7 = some (.tup [V.ref C1, V.ref C2, V.ref C3, V.ref C6]) := upd_same
    revert sg13 eg13
    generalize upd g12 C7 (.tup [V.ref C1, V.ref C2, V.ref C3, V.ref C6]) = g13
    intro sg13 eg13
    obtain ⟨vi, hi1, hi2⟩ := (hI).kt (((((((KT.of sg7).trans (KT.of sg8)).trans (KT.of sg9)).trans (KT.of sg10)).trans (KT.of sg11)).trans (KT.of sg12)).trans (KT.of sg13))
    have hR : RAt K C g13 C7 ahLo := ⟨_, SqT.of eg13, _, _, rfl, ⟨C1, vC1, rfl, sqt_kt ((((((KT.of sg8).trans (KT.of sg9)).trans (KT.of sg10)).trans (KT.of sg11)).trans (KT.of sg12)).trans (KT.of sg13)) (SqT.of eg7), by decide, (htC1).kt (((((((((((((KT.of sg1).trans (KT.of sg2)).trans (KT.of sg3)).trans (KT.of sg4)).trans (KT.of sg5)).trans (KT.of sg6)).trans (KT.of sg7)).trans (KT.of sg8)).trans (KT.of sg9)).trans (KT.of sg10)).trans (KT.of sg11)).trans (KT.of sg12)).trans (KT.of sg13)), by rw [num_size]; decide⟩, _, _, rfl, ⟨C2, A6, vi, rfl, sqt_kt (((((KT.of sg9).trans (KT.of sg10)).trans (KT.of sg11)).trans (KT.of sg12)).trans (KT.of sg13)) (SqT.of eg8), by decide, hi1, hi2⟩, _, _, rfl, ⟨C3, vC3, rfl, sqt_kt ((((KT.of sg10).trans (KT.of sg11)).trans (KT.of sg12)).trans (KT.of sg13)) (SqT.of eg9), by decide, (htC3).kt (((((((((((((KT.of sg1).trans (KT.of sg2)).trans (KT.of sg3)).trans (KT.of sg4)).trans (KT.of sg5)).trans (KT.of sg6)).trans (KT.of sg7)).trans (KT.of sg8)).trans (KT.of sg9)).trans (KT.of sg10)).trans (KT.of sg11)).trans (KT.of sg12)).trans (KT.of sg13)), by rw [num_size]; decide⟩, _, _, rfl, ⟨C6, C5, _, rfl, sqt_kt (KT.of sg13) (SqT.of eg12), by decide, sqt_kt ((KT.of sg12).trans (KT.of sg13)) (SqT.of eg11), ⟨_, _, rfl, ⟨C4, rfl, sqt_kt (((KT.of sg11).trans (KT.of sg12)).trans (KT.of sg13)) (SqT.of eg10), by decide, by decide⟩, rfl⟩⟩, rfl⟩
    refine ⟨_, rfl, by show 3 ≤ sizeLine; decide, fun Z1 nZ1 => ?_⟩
    have sg14 := Same.new nZ1 (o := .tup [V.str "first", .int ((3 : Nat) : Int), .int ((3 : Nat) : Int)])
    have eg14 : (upd g13 Z1 (.tup [V.str "first", .int ((3 : Nat) : Int), .int ((3 : Nat) : Int)])) Z1 = some (.tup [V.str "first", .int ((3 : Nat) : Int), .int ((3 : Nat) : Int)]) := upd_same
    revert sg14 eg14
    generalize upd g13 Z1 (.tup [V.str "first", .int ((3 : Nat) : Int), .int ((3 : Nat) : Int)]) = g14
    intro sg14 eg14
    refine ⟨by show 1 ≤ sizeLine; decide, fun Z2 nZ2 => ?_⟩
    have sg15 := Same.new nZ2 (o := .tup [V.ref Z1])
    have eg15 : (upd g14 Z2 (.tup [V.ref Z1])) Z2 = some (.tup [V.ref Z1]) := upd_same
    revert sg15 eg15
    generalize upd g14 Z2 (.tup [V.ref Z1]) = g15
    intro sg15 eg15
    have hZ : RAt K C g15 Z2 [.take false 3 3] := ⟨_, SqT.of eg15, _, _, rfl, ⟨Z1, rfl, sqt_kt (KT.of sg15) (SqT.of eg14), by decide, by decide⟩, rfl⟩
    refine ⟨_, rfl, Z2, _, _, rfl, rfl, hZ, by omega, by omega, fun q8 g16 sg16 hq8 => ?_⟩
    refine ⟨C7, q8, ahLo, _, rfl, rfl, (hR).kt (((KT.of sg14).trans (KT.of sg15)).trans (KT.of sg16)), hq8, by rw [List.length_replicate]; show 4 + n ≤ 100000; omega, fun q9 g17 sg17 hq9 => ?_⟩
    exact k q9 _ (s0.trans ((((((((((((((((sg1.trans sg2).trans sg3).trans sg4).trans sg5).trans sg6).trans sg7).trans sg8).trans sg9).trans sg10).trans sg11).trans sg12).trans sg13).trans sg14).trans sg15).trans sg16).trans sg17)) hq9
theorem ok_lr6 {f : Addr} {fd : FuncData} (F : Fun K "_law_longer" "_law_longer" sLr6 f fd) (B : Blt mg) (mk : Maker P w K mg base C fI fdI) : FnOk P w K mg base CX0 4 f fd ["_law_more"] (spLr6 K C) := by
  refine F.ok scLr6 (fun vs H Q E h => ?_) (fun cdv A outer s H vs Q E hr h => ?_)
  · obtain ⟨n, rfl, _⟩ := h
    rfl
  · obtain ⟨n, rfl, hn1, hn2, k⟩ := h
    have hr3 : Room 3 _ := hr
    refine ⟨_, pss_cons (ps_set (i := 1) scLr6.nd rfl (Or.inl rfl) (pe_lst (pa_cons (pe_T0 mk hr3 rfl) pa_nil))) (pss_cons (ps_for PassesOwn.never rfl (pi_range1 rfl B.range (pa_cons pe_int pa_nil)) (pg_name (i := 2) scLr6.nd rfl (Or.inl rfl)) (pss_one (ps_expr (pe_bm PySem.F.plainAttrs_list PySem.F.slot_list_append PySem.F.type_list_append mt_append (pv 1) (pa_cons (pe_T2 mk hr3 rfl (pa_cons (pe_T0 mk hr3 rfl) (pa_cons (pe_ix (r := rIxL K) ix_list (pv 1) (pe_un un_neg pe_int) (fun _ _ => rfl)) pa_nil))) pa_nil))))) (pss_cons (ps_set (i := 3) scLr6.nd rfl (Or.inl rfl) (pe_tup (pa_cons (pe_tup (pa_cons pe_str (pa_cons pe_int (pa_cons (pe_ix (r := rIxL K) ix_list (pv 1) pe_int (fun _ _ => rfl)) pa_nil)))) (pa_cons (pe_tup (pa_cons pe_str (pa_cons pe_int (pa_cons (pe_tup (pa_cons (pe_tup (pa_cons pe_str (pa_cons pe_int (pa_cons pe_int pa_nil)))) pa_nil)) pa_nil)))) (pa_cons (pe_tup (pa_cons pe_str (pa_cons pe_int (pa_cons pe_int pa_nil)))) pa_nil))))) (pss_cons (ps_set (i := 4) scLr6.nd rfl (Or.inl rfl) (pe_tup (pa_cons (pe_tup (pa_cons pe_str (pa_cons pe_int (pa_cons (pe_ix (r := rIxL K) ix_list (pv 1) pe_int (fun _ _ => rfl)) pa_nil)))) (pa_cons (pe_tup (pa_cons pe_str (pa_cons pe_int (pa_cons (pv 3) pa_nil)))) (pa_cons (pe_tup (pa_cons pe_str (pa_cons pe_int (pa_cons pe_int pa_nil)))) pa_nil))))) (pss_cons (ps_set (i := 5) scLr6.nd rfl (Or.inl rfl) (pe_tup (pa_cons (pe_tup (pa_cons pe_str (pa_cons pe_int (pa_cons (pe_ix (r := rIxL K) ix_list (pv 1) pe_int (fun _ _ => rfl)) pa_nil)))) (pa_cons (pe_tup (pa_cons pe_str (pa_cons pe_int (pa_cons (pv 4) pa_nil)))) (pa_cons (pe_tup (pa_cons pe_str (pa_cons pe_int (pa_cons (pe_ix (r := rIxL K) ix_list (pv 1) pe_int (fun _ _ => rfl)) pa_nil)))) (pa_cons (pe_tup (pa_cons pe_str (pa_cons pe_int (pa_cons (pe_tup (pa_cons (pe_tup (pa_cons pe_str (pa_cons pe_int (pa_cons pe_int pa_nil)))) pa_nil)) pa_nil)))) pa_nil)))))) (pss_one (ps_ret (pe_op (op_catP (C := C)) (pv 5) (pe_op (op_rep1R (C := C)) (pe_tup (pa_cons (pe_tup (pa_cons pe_str (pa_cons pe_int (pa_cons pe_int pa_nil)))) pa_nil)) (pv 0))))))))), ?_⟩
    have hsl := line4
    refine fun x0 h1 sh1 _ hx0 => ?_
    refine ⟨by show 1 ≤ sizeLine; decide, fun L nL => ?_⟩
    have sh2 := Same.new nL (o := .lst [V.ref x0])
    have eh2 : (upd h1 L (.lst [V.ref x0])) L = some (.lst [V.ref x0]) := upd_same
    revert sh2 eh2
    generalize upd h1 L (.lst [V.ref x0]) = h2
    intro sh2 eh2
    refine ⟨48, rfl, by decide, by decide, for_range (n := 48) (fun i σ H' => ∃ (x2 : Option V) (ws : List V), σ = [some (.int (n : Nat)), some (.ref L), x2, none, none, none] ∧ Same H H' ∧ H' L = some (.lst ws) ∧ ws.length = i + 1 ∧ ∀ j, j < i + 1 → ∃ v, ws[j]? = some (.ref v) ∧ Th C H' v (num j)) ⟨none, [V.ref x0], rfl, (sh1.trans sh2), eh2, rfl, fun j hj => ?_⟩ ?_ ?_⟩
    · have e : j = 0 := by omega
      subst e
      exact ⟨x0, rfl, (hx0).kt (KT.of sh2)⟩
    · rintro i σ G0 hi ⟨x2, ws, rfl, s0, hL0, hwl, hw⟩
      obtain ⟨vl, hvl, htl⟩ := hw i (by omega)
      have hlast : atI ws (-1) = some (.ref vl) := atI_neg1 (by rw [hwl]; exact hvl)
      refine ⟨_, rfl, .inl ⟨rfl, _, SqL.of hL0⟩, fun y G1 t1 _ hy => ⟨_, rfl, _, rfl, L, _, _, _, rfl, rfl, SqL.of (t1 _ _ hL0), hlast, y, vl, .nil, num i, rfl, hy, htl.same t1, by rw [num_size]; show 1 + 0 + i ≤ 4000; omega, fun z G2 t2 _ hz => ?_⟩⟩
      have hL2 := (t1.trans t2) _ _ hL0
      have kl := KT.lst (o := .lst (ws ++ [V.ref z])) hL2
      refine ⟨L, _, _, rfl, rfl, hL2, by omega, _, ws ++ [.ref z], rfl, ((s0.trans t1).trans t2).set (sh1.free nL), upd_same, by rw [List.length_append]; simp only [List.length_cons, List.length_nil]; omega, fun j hj => ?_⟩
      by_cases hji : j < i + 1
      · obtain ⟨v, hv, ht⟩ := hw j hji
        exact ⟨v, by rw [List.getElem?_append_left (by omega)]; exact hv, ht.kt ((KT.of (t1.trans t2)).trans kl)⟩
      · have e : j = i + 1 := by omega
        subst e
        refine ⟨z, ?_, hz.kt kl⟩
        rw [List.getElem?_append_right (by omega), hwl, Nat.sub_self]
        rfl
    rintro σ G0 ⟨x2, ws, rfl, s0, hL0, hwl, hw⟩
    have getL : ∀ j, j < 49 → ∃ v, atI ws ((j : Nat) : Int) = some (.ref v) ∧ Th C G0 v (num j) := fun j hj => by
      obtain ⟨v, hv, ht⟩ := hw j hj
      exact ⟨v, atI_nat hv, ht⟩
    obtain ⟨vE1, haE1, htE1⟩ := getL 48 (by decide)
    refine ⟨_, rfl, L, _, _, _, rfl, rfl, SqL.of ((Same.refl _) _ _ hL0), haE1, by show 3 ≤ sizeLine; decide, fun E1 nE1 => ?_⟩
    have sg1 := Same.new nE1 (o := .tup [V.str "told", .int ((3 : Nat) : Int), .ref vE1])
    have eg1 : (upd G0 E1 (.tup [V.str "told", .int ((3 : Nat) : Int), .ref vE1])) E1 = some (.tup [V.str "told", .int ((3 : Nat) : Int), .ref vE1]) := upd_same
    revert sg1 eg1
    generalize upd G0 E1 (.tup [V.str "told", .int ((3 : Nat) : Int), .ref vE1]) = g1
    intro sg1 eg1
    refine ⟨by show 3 ≤ sizeLine; decide, fun E2 nE2 => ?_⟩
    have sg2 := Same.new nE2 (o := .tup [V.str "second", .int ((3 : Nat) : Int), .int ((3 : Nat) : Int)])
    have eg2 : (upd g1 E2 (.tup [V.str "second", .int ((3 : Nat) : Int), .int ((3 : Nat) : Int)])) E2 = some (.tup [V.str "second", .int ((3 : Nat) : Int), .int ((3 : Nat) : Int)]) := upd_same
    revert sg2 eg2
    generalize upd g1 E2 (.tup [V.str "second", .int ((3 : Nat) : Int), .int ((3 : Nat) : Int)]) = g2
    intro sg2 eg2
    refine ⟨by show 1 ≤ sizeLine; decide, fun E3 nE3 => ?_⟩
    have sg3 := Same.new nE3 (o := .tup [V.ref E2])
    have eg3 : (upd g2 E3 (.tup [V.ref E2])) E3 = some (.tup [V.ref E2]) := upd_same
    revert sg3 eg3
    generalize upd g2 E3 (.tup [V.ref E2]) = g3
    intro sg3 eg3
    refine ⟨by show 3 ≤ sizeLine; decide, fun E4 nE4 => ?_⟩
    have sg4 := Same.new nE4 (o := .tup [V.str "while", .int ((3 : Nat) : Int), .ref E3])
    have eg4 : (upd g3 E4 (.tup [V.str "while", .int ((3 : Nat) : Int), .ref E3])) E4 = some (.tup [V.str "while", .int ((3 : Nat) : Int), .ref E3]) := upd_same
    revert sg4 eg4
    generalize upd g3 E4 (.tup [V.str "while", .int ((3 : Nat) : Int), .ref E3]) = g4
    intro sg4 eg4
    refine ⟨by show 3 ≤ sizeLine; decide, fun E5 nE5 => ?_⟩
    have sg5 := Same.new nE5 (o := .tup [V.str "second", .int ((2 : Nat) : Int), .int ((2 : Nat) : Int)])
    have eg5 : (upd g4 E5 (.tup [V.str "second", .int ((2 : Nat) : Int), .int ((2 : Nat) : Int)])) E5 = some (.tup [V.str "second", .int ((2 : Nat) : Int), .int ((2 : Nat) : Int)]) := upd_same
    revert sg5 eg5
    generalize upd g4 E5 (.tup [V.str "second", .int ((2 : Nat) : Int), .int ((2 : Nat) : Int)]) = g5
    intro sg5 eg5
    refine ⟨by show 3 ≤ sizeLine; decide, fun E6 nE6 => ?_⟩
    have sg6 := Same.new nE6 (o := .tup [V.ref E1, V.ref E4, V.ref E5])
    have eg6 : (upd g5 E6 (.tup [V.ref E1, V.ref E4, V.ref E5])) E6 = some (.tup [V.ref E1, V.ref E4, V.ref E5]) := upd_same
    revert sg6 eg6
    generalize upd g5 E6 (.tup [V.ref E1, V.ref E4, V.ref E5]) = g6
    intro sg6 eg6
    have hJ : RAt K C g6 E6 leLr := ⟨_, SqT.of eg6, _, _, rfl, ⟨E1, vE1, rfl, sqt_kt (((((KT.of sg2).trans (KT.of sg3)).trans (KT.of sg4)).trans (KT.of sg5)).trans (KT.of sg6)) (SqT.of eg1), by decide, (htE1).kt ((((((KT.of sg1).trans (KT.of sg2)).trans (KT.of sg3)).trans (KT.of sg4)).trans (KT.of sg5)).trans (KT.of sg6)), by rw [num_size]; decide⟩, _, _, rfl, ⟨E4, E3, _, rfl, sqt_kt ((KT.of sg5).trans (KT.of sg6)) (SqT.of eg4), by decide, sqt_kt (((KT.of sg4).trans (KT.of sg5)).trans (KT.of sg6)) (SqT.of eg3), ⟨_, _, rfl, ⟨E2, rfl, sqt_kt ((((KT.of sg3).trans (KT.of sg4)).trans (KT.of sg5)).trans (KT.of sg6)) (SqT.of eg2), by decide, by decide⟩, rfl⟩⟩, _, _, rfl, ⟨E5, rfl, sqt_kt (KT.of sg6) (SqT.of eg5), by decide, by decide⟩, rfl⟩
    obtain ⟨vA1, haA1, htA1⟩ := getL 9 (by decide)
    refine ⟨_, rfl, L, _, _, _, rfl, rfl, SqL.of ((((((sg1.trans sg2).trans sg3).trans sg4).trans sg5).trans sg6) _ _ hL0), haA1, by show 3 ≤ sizeLine; decide, fun A1 nA1 => ?_⟩
    have sg7 := Same.new nA1 (o := .tup [V.str "told", .int ((2 : Nat) : Int), .ref vA1])
    have eg7 : (upd g6 A1 (.tup [V.str "told", .int ((2 : Nat) : Int), .ref vA1])) A1 = some (.tup [V.str "told", .int ((2 : Nat) : Int), .ref vA1]) := upd_same
    revert sg7 eg7
    generalize upd g6 A1 (.tup [V.str "told", .int ((2 : Nat) : Int), .ref vA1]) = g7
    intro sg7 eg7
    refine ⟨_, rfl, by show 3 ≤ sizeLine; decide, fun A4 nA4 => ?_⟩
    have sg8 := Same.new nA4 (o := .tup [V.str "while", .int ((2 : Nat) : Int), .ref E6])
    have eg8 : (upd g7 A4 (.tup [V.str "while", .int ((2 : Nat) : Int), .ref E6])) A4 = some (.tup [V.str "while", .int ((2 : Nat) : Int), .ref E6]) := upd_same
    revert sg8 eg8
    generalize upd g7 A4 (.tup [V.str "while", .int ((2 : Nat) : Int), .ref E6]) = g8
    intro sg8 eg8
    refine ⟨by show 3 ≤ sizeLine; decide, fun A5 nA5 => ?_⟩
    have sg9 := Same.new nA5 (o := .tup [V.str "second", .int ((1 : Nat) : Int), .int ((1 : Nat) : Int)])
    have eg9 : (upd g8 A5 (.tup [V.str "second", .int ((1 : Nat) : Int), .int ((1 : Nat) : Int)])) A5 = some (.tup [V.str "second", .int ((1 : Nat) : Int), .int ((1 : Nat) : Int)]) := upd_same
    revert sg9 eg9
    generalize upd g8 A5 (.tup [V.str "second", .int ((1 : Nat) : Int), .int ((1 : Nat) : Int)]) = g9
    intro sg9 eg9
    refine ⟨by show 3 ≤ sizeLine; decide, fun A6 nA6 => ?_⟩
    have sg10 := Same.new nA6 (o := .tup [V.ref A1, V.ref A4, V.ref A5])
    have eg10 : (upd g9 A6 (.tup [V.ref A1, V.ref A4, V.ref A5])) A6 = some (.tup [V.ref A1, V.ref A4, V.ref A5]) := upd_same
    revert sg10 eg10
    generalize upd g9 A6 (.tup [V.ref A1, V.ref A4, V.ref A5]) = g10
    intro sg10 eg10
    obtain ⟨vj, hj1, hj2⟩ := (hJ).kt ((((KT.of sg7).trans (KT.of sg8)).trans (KT.of sg9)).trans (KT.of sg10))
    have hI : RAt K C g10 A6 inLr := ⟨_, SqT.of eg10, _, _, rfl, ⟨A1, vA1, rfl, sqt_kt (((KT.of sg8).trans (KT.of sg9)).trans (KT.of sg10)) (SqT.of eg7), by decide, (htA1).kt ((((((((((KT.of sg1).trans (KT.of sg2)).trans (KT.of sg3)).trans (KT.of sg4)).trans (KT.of sg5)).trans (KT.of sg6)).trans (KT.of sg7)).trans (KT.of sg8)).trans (KT.of sg9)).trans (KT.of sg10)), by rw [num_size]; decide⟩, _, _, rfl, ⟨A4, E6, vj, rfl, sqt_kt ((KT.of sg9).trans (KT.of sg10)) (SqT.of eg8), by decide, hj1, hj2⟩, _, _, rfl, ⟨A5, rfl, sqt_kt (KT.of sg10) (SqT.of eg9), by decide, by decide⟩, rfl⟩
    obtain ⟨vC1, haC1, htC1⟩ := getL 11 (by decide)
    refine ⟨_, rfl, L, _, _, _, rfl, rfl, SqL.of ((((((((((sg1.trans sg2).trans sg3).trans sg4).trans sg5).trans sg6).trans sg7).trans sg8).trans sg9).trans sg10) _ _ hL0), haC1, by show 3 ≤ sizeLine; decide, fun C1 nC1 => ?_⟩
    have sg11 := Same.new nC1 (o := .tup [V.str "told", .int ((1 : Nat) : Int), .ref vC1])
    have eg11 : (upd g10 C1 (.tup [V.str "told", .int ((1 : Nat) : Int), .ref vC1])) C1 = some (.tup [V.str "told", .int ((1 : Nat) : Int), .ref vC1]) := upd_same
    revert sg11 eg11
    generalize upd g10 C1 (.tup [V.str "told", .int ((1 : Nat) : Int), .ref vC1]) = g11
    intro sg11 eg11
    refine ⟨_, rfl, by show 3 ≤ sizeLine; decide, fun C2 nC2 => ?_⟩
    have sg12 := Same.new nC2 (o := .tup [V.str "while", .int ((1 : Nat) : Int), .ref A6])
    have eg12 : (upd g11 C2 (.tup [V.str "while", .int ((1 : Nat) : Int), .ref A6])) C2 = some (.tup [V.str "while", .int ((1 : Nat) : Int), .ref A6]) := upd_same
    revert sg12 eg12
    generalize upd g11 C2 (.tup [V.str "while", .int ((1 : Nat) : Int), .ref A6]) = g12
    intro sg12 eg12
    obtain ⟨vC3, haC3, htC3⟩ := getL 25 (by decide)
    refine ⟨_, rfl, L, _, _, _, rfl, rfl, SqL.of ((((((((((((sg1.trans sg2).trans sg3).trans sg4).trans sg5).trans sg6).trans sg7).trans sg8).trans sg9).trans sg10).trans sg11).trans sg12) _ _ hL0), haC3, by show 3 ≤ sizeLine; decide, fun C3 nC3 => ?_⟩
    have sg13 := Same.new nC3 (o := .tup [V.str "told", .int ((1 : Nat) : Int), .ref vC3])
    have eg13 : (upd g12 C3 (.tup [V.str "told", .int ((1 : Nat) : Int), .ref vC3])) C3 = some (.tup [V.str "told", .int ((1 : Nat) : Int), .ref vC3]) := upd_same
    revert sg13 eg13
    generalize upd g12 C3 (.tup [V.str "told", .int ((1 : Nat) : Int), .ref vC3]) = g13
    intro sg13 eg13
    refine ⟨by show 3 ≤ sizeLine; decide, fun C4 nC4 => ?_⟩
    have sg14 := Same.new nC4 (o := .tup [V.str "second", .int ((1 : Nat) : Int), .int ((1 : Nat) : Int)])
    have eg14 : (upd g13 C4 (.tup [V.str "second", .int ((1 : Nat) : Int), .int ((1 : Nat) : Int)])) C4 = some (.tup [V.str "second", .int ((1 : Nat) : Int), .int ((1 : Nat) : Int)]) := upd_same
    revert sg14 eg14
    generalize upd g13 C4 (.tup [V.str "second", .int ((1 : Nat) : Int), .int ((1 : Nat) : Int)]) = g14
    intro sg14 eg14
    refine ⟨by show 1 ≤ sizeLine; decide, fun C5 nC5 => ?_⟩
    have sg15 := Same.new nC5 (o := .tup [V.ref C4])
    have eg15 : (upd g14 C5 (.tup [V.ref C4])) C5 = some (.tup [V.ref C4]) := upd_same
    revert sg15 eg15
    generalize upd g14 C5 (.tup [V.ref C4]) = g15
    intro sg15 eg15
    refine ⟨by show 3 ≤ sizeLine; decide, fun C6 nC6 => ?_⟩
    have sg16 := Same.new nC6 (o := .tup [V.str "while", .int ((1 : Nat) : Int), .ref C5])
    have eg16 : (upd g15 C6 (.tup [V.str "while", .int ((1 : Nat) : Int), .ref C5])) C6 = some (.tup [V.str "while", .int ((1 : Nat) : Int), .ref C5]) := upd_same
    revert sg16 eg16
    generalize upd g15 C6 (.tup [V.str "while", .int ((1 : Nat) : Int), .ref C5]) = g16
    intro sg16 eg16
    refine ⟨by show 4 ≤ sizeLine; decide, fun C7 nC7 => ?_⟩
    have sg17 := Same.new nC7 (o := .tup [V.ref C1, V.ref C2, V.ref C3, V.ref C6])
    have eg17 : (upd g16 C7 (.tup [V.ref C1, V.ref C2, V.ref C3, V.ref C6])) C7 = some (.tup [V.ref C1, V.ref C2, V.ref C3, V.ref C6]) := upd_same
    revert sg17 eg17
    generalize upd g16 C7 (.tup [V.ref C1, V.ref C2, V.ref C3, V.ref C6]) = g17
    intro sg17 eg17
    obtain ⟨vi, hi1, hi2⟩ := (hI).kt (((((((KT.of sg11).trans (KT.of sg12)).trans (KT.of sg13)).trans (KT.of sg14)).trans (KT.of sg15)).trans (KT.of sg16)).trans (KT.of sg17))
    have hR : RAt K C g17 C7 ahLr := ⟨_, SqT.of eg17, _, _, rfl, ⟨C1, vC1, rfl, sqt_kt ((((((KT.of sg12).trans (KT.of sg13)).trans (KT.of sg14)).trans (KT.of sg15)).trans (KT.of sg16)).trans (KT.of sg17)) (SqT.of eg11), by decide, (htC1).kt (((((((((((((((((KT.of sg1).trans (KT.of sg2)).trans (KT.of sg3)).trans (KT.of sg4)).trans (KT.of sg5)).trans (KT.of sg6)).trans (KT.of sg7)).trans (KT.of sg8)).trans (KT.of sg9)).trans (KT.of sg10)).trans (KT.of sg11)).trans (KT.of sg12)).trans (KT.of sg13)).trans (KT.of sg14)).trans (KT.of sg15)).trans (KT.of sg16)).trans (KT.of sg17)), by rw [num_size]; decide⟩, _, _, rfl, ⟨C2, A6, vi, rfl, sqt_kt (((((KT.of sg13).trans (KT.of sg14)).trans (KT.of sg15)).trans (KT.of sg16)).trans (KT.of sg17)) (SqT.of eg12), by decide, hi1, hi2⟩, _, _, rfl, ⟨C3, vC3, rfl, sqt_kt ((((KT.of sg14).trans (KT.of sg15)).trans (KT.of sg16)).trans (KT.of sg17)) (SqT.of eg13), by decide, (htC3).kt (((((((((((((((((KT.of sg1).trans (KT.of sg2)).trans (KT.of sg3)).trans (KT.of sg4)).trans (KT.of sg5)).trans (KT.of sg6)).trans (KT.of sg7)).trans (KT.of sg8)).trans (KT.of sg9)).trans (KT.of sg10)).trans (KT.of sg11)).trans (KT.of sg12)).trans (KT.of sg13)).trans (KT.of sg14)).trans (KT.of sg15)).trans (KT.of sg16)).trans (KT.of sg17)), by rw [num_size]; decide⟩, _, _, rfl, ⟨C6, C5, _, rfl, sqt_kt (KT.of sg17) (SqT.of eg16), by decide, sqt_kt ((KT.of sg16).trans (KT.of sg17)) (SqT.of eg15), ⟨_, _, rfl, ⟨C4, rfl, sqt_kt (((KT.of sg15).trans (KT.of sg16)).trans (KT.of sg17)) (SqT.of eg14), by decide, by decide⟩, rfl⟩⟩, rfl⟩
    refine ⟨_, rfl, by show 3 ≤ sizeLine; decide, fun Z1 nZ1 => ?_⟩
    have sg18 := Same.new nZ1 (o := .tup [V.str "first", .int ((3 : Nat) : Int), .int ((3 : Nat) : Int)])
    have eg18 : (upd g17 Z1 (.tup [V.str "first", .int ((3 : Nat) : Int), .int ((3 : Nat) : Int)])) Z1 = some (.tup [V.str "first", .int ((3 : Nat) : Int), .int ((3 : Nat) : Int)]) := upd_same
    revert sg18 eg18
    generalize upd g17 Z1 (.tup [V.str "first", .int ((3 : Nat) : Int), .int ((3 : Nat) : Int)]) = g18
    intro sg18 eg18
    refine ⟨by show 1 ≤ sizeLine; decide, fun Z2 nZ2 => ?_⟩
    have sg19 := Same.new nZ2 (o := .tup [V.ref Z1])
    have eg19 : (upd g18 Z2 (.tup [V.ref Z1])) Z2 = some (.tup [V.ref Z1]) := upd_same
    revert sg19 eg19
    generalize upd g18 Z2 (.tup [V.ref Z1]) = g19
    intro sg19 eg19
    have hZ : RAt K C g19 Z2 [.take false 3 3] := ⟨_, SqT.of eg19, _, _, rfl, ⟨Z1, rfl, sqt_kt (KT.of sg19) (SqT.of eg18), by decide, by decide⟩, rfl⟩
    refine ⟨_, rfl, Z2, _, _, rfl, rfl, hZ, by omega, by omega, fun q8 g20 sg20 hq8 => ?_⟩
    refine ⟨C7, q8, ahLr, _, rfl, rfl, (hR).kt (((KT.of sg18).trans (KT.of sg19)).trans (KT.of sg20)), hq8, by rw [List.length_replicate]; show 4 + n ≤ 100000; omega, fun q9 g21 sg21 hq9 => ?_⟩
    exact k q9 _ (s0.trans ((((((((((((((((((((sg1.trans sg2).trans sg3).trans sg4).trans sg5).trans sg6).trans sg7).trans sg8).trans sg9).trans sg10).trans sg11).trans sg12).trans sg13).trans sg14).trans sg15).trans sg16).trans sg17).trans sg18).trans sg19).trans sg20).trans sg21)) hq9
end
end Js

set_option Elab.async false
set_option linter.all false
set_option maxRecDepth 100000
set_option maxHeartbeats 2000000
namespace Js
open PySem L2
/-! the stands of a run, as a list -/
def stdM (pl : List Pt) : Nat → Nat × List Tr → List (Nat × List Tr)
  | 0, s => [s]
  | k + 1, s => s :: (match stM pl s with
    | none => []
    | some u => stdM pl k u)
theorem stdM_none {pl : List Pt} {s : Nat × List Tr} (k : Nat) (h : stM pl s = none) : stdM pl k s = [s] := by
  cases k with
  | zero => rfl
  | succ k => rw [stdM, h]
theorem stdM_some {pl : List Pt} {s u : Nat × List Tr} (k : Nat) (h : stM pl s = some u) : stdM pl (k + 1) s = s :: stdM pl k u := by
  rw [stdM, h]
end Js

set_option Elab.async false
set_option linter.all false
set_option maxRecDepth 100000
set_option maxHeartbeats 2000000
namespace Js
open PySem L2
open PySem.Spec PyProof.Rows
/-! what is cut covers what is -/
def covers : Cu → Tr → Prop
  | .any, _ => True
  | .nil, t => t = .nil
  | .pr a b, .pr l r => covers a l ∧ covers b r
  | .pr _ _, .nil => False
theorem covers_cut : ∀ (n : Nat) (t : Tr), covers (cutC n t) t
  | 0, .nil => trivial
  | 0, .pr _ _ => trivial
  | _ + 1, .nil => rfl
  | n + 1, .pr l r => ⟨covers_cut n l, covers_cut n r⟩
theorem covers_dwn : ∀ (n : Nat) (c : Cu) (t : Tr), covers c t → covers (dwn n c) t
  | 0, .any, _, _ => trivial
  | 0, .nil, _, _ => trivial
  | 0, .pr _ _, _, _ => trivial
  | _ + 1, .any, _, _ => trivial
  | _ + 1, .nil, _, h => h
  | n + 1, .pr a b, .pr l r, h => ⟨covers_dwn n a l h.1, covers_dwn n b r h.2⟩
  | _ + 1, .pr _ _, .nil, h => h
theorem covers_hd (s : Bool) (c : Cu) (t : Tr) (h : covers c t) : covers (hdC s c) (if s then t.tail else t.head) := by
  cases c with
  | any => cases s <;> trivial
  | nil =>
    have e : t = .nil := h
    subst e
    cases s <;> rfl
  | pr a b =>
    cases t with
    | nil => exact h.elim
    | pr l r =>
      cases s
      · exact h.1
      · exact h.2
theorem same3_ok : ∀ (c e : Cu) (t u : Tr), covers c t → covers e u → (same3 c e = some true → t = u) ∧ (same3 c e = some false → t ≠ u)
  | .any, e, t, u, _, _ => ⟨fun h => (by cases e <;> cases h), fun h => (by cases e <;> cases h)⟩
  | .nil, .any, t, u, _, _ => ⟨(fun h => nomatch h), (fun h => nomatch h)⟩
  | .nil, .nil, t, u, h1, h2 => ⟨fun _ => h1.trans h2.symm, (fun h => nomatch h)⟩
  | .nil, .pr a b, t, .pr l r, h1, _ => ⟨(fun h => nomatch h), fun _ e => by rw [show t = .nil from h1] at e; cases e⟩
  | .nil, .pr a b, t, .nil, _, h2 => h2.elim
  | .pr a b, .any, t, u, _, _ => ⟨(fun h => nomatch h), (fun h => nomatch h)⟩
  | .pr a b, .nil, .pr l r, u, _, h2 => ⟨(fun h => nomatch h), fun _ e => by rw [show u = .nil from h2] at e; cases e⟩
  | .pr a b, .nil, .nil, u, h1, _ => h1.elim
  | .pr a b, .pr c d, .nil, u, h1, _ => h1.elim
  | .pr a b, .pr c d, .pr l r, .nil, _, h2 => h2.elim
  | .pr a b, .pr c d, .pr l r, .pr l' r', h1, h2 => by
    obtain ⟨p1, p2⟩ := same3_ok a c l l' h1.1 h2.1
    obtain ⟨q1, q2⟩ := same3_ok b d r r' h1.2 h2.2
    rw [same3]
    revert p1 p2 q1 q2
    generalize same3 a c = x
    generalize same3 b d = y
    intro p1 p2 q1 q2
    rcases x with _ | ⟨_ | _⟩ <;> rcases y with _ | ⟨_ | _⟩ <;> refine ⟨fun h => ?_, fun h => ?_⟩ <;> first | (exfalso; cases h; done) | (intro e; cases e; exact p2 rfl rfl) | (intro e; cases e; exact q2 rfl rfl) | (rw [p1 rfl, q1 rfl])
theorem nm_cov {cs : List Cu} {ns : List Tr} (h : Paired covers cs ns) (a : Nat) : covers (nmC cs a) (nmA ns a) := by
  rw [nmC, nmA, List.getD_eq_getElem?_getD, List.getD_eq_getElem?_getD]
  have hl := Paired.length h
  by_cases hi : a < cs.length
  · obtain ⟨t, e, ht⟩ := paired_get h (List.getElem?_eq_getElem hi)
    rw [e, List.getElem?_eq_getElem hi]
    exact ht
  · rw [List.getElem?_eq_none_iff.mpr (by omega)]
    exact trivial
theorem made_cov {cs : List Cu} {ns : List Tr} (h : Paired covers cs ns) (dep : Nat) (d : Dd) (hl : d.look = false) : ∃ c ∈ mkC cs dep d, covers c (d.made ns) := by
  cases d with
  | wh a r => cases hl
  | iff a r o => cases hl
  | told a t => exact ⟨_, List.mem_singleton.mpr rfl, covers_cut dep t⟩
  | take s a b =>
    have := covers_hd s _ _ (nm_cov h b)
    cases s
    · exact ⟨_, List.mem_singleton.mpr rfl, this⟩
    · exact ⟨_, List.mem_singleton.mpr rfl, this⟩
  | two s a b e =>
    have h1 := nm_cov h b
    have h2 := nm_cov h e
    cases s with
    | false => exact ⟨_, List.mem_singleton.mpr rfl, h1, h2⟩
    | true =>
      obtain ⟨p1, p2⟩ := same3_ok _ _ _ _ h1 h2
      show ∃ c ∈ sameC (same3 (nmC cs b) (nmC cs e)), covers c (if nmA ns b = nmA ns e then yesT else .nil)
      revert p1 p2
      generalize same3 (nmC cs b) (nmC cs e) = x
      intro p1 p2
      rcases x with _ | ⟨_ | _⟩
      · by_cases he : nmA ns b = nmA ns e
        · rw [if_pos he]
          exact ⟨yesC, List.mem_cons_self, rfl, rfl⟩
        · rw [if_neg he]
          exact ⟨.nil, List.mem_cons_of_mem _ List.mem_cons_self, rfl⟩
      · rw [if_neg (p2 rfl)]
        exact ⟨.nil, List.mem_cons_self, rfl⟩
      · rw [if_pos (p1 rfl)]
        exact ⟨yesC, List.mem_cons_self, rfl, rfl⟩
theorem Cu.eqv_eq : ∀ a b : Cu, PyData.eqv a.d b.d = true → a = b
  | .any, .any, _ => rfl
  | .any, .nil, h => nomatch h
  | .any, .pr _ _, h => nomatch h
  | .nil, .any, h => nomatch h
  | .nil, .nil, _ => rfl
  | .nil, .pr _ _, h => nomatch h
  | .pr _ _, .any, h => nomatch h
  | .pr _ _, .nil, h => nomatch h
  | .pr a b, .pr c e, h => by
    simp only [Cu.d, PyData.eqv, PyData.eqvAll, Bool.and_true, Bool.and_eq_true] at h
    rw [Cu.eqv_eq a c h.1, Cu.eqv_eq b e h.2]
theorem csD_eqv : ∀ a b : List Cu, PyData.eqvAll (a.map Cu.d) (b.map Cu.d) = true → a = b
  | [], [], _ => rfl
  | [], _ :: _, h => nomatch h
  | _ :: _, [], h => nomatch h
  | x :: xs, y :: ys, h => by
    simp only [List.map_cons, PyData.eqvAll, Bool.and_eq_true] at h
    rw [Cu.eqv_eq x y h.1, csD_eqv xs ys h.2]
theorem spD_eqv (a b : CS) (h : PyData.eqv (spD a) (spD b) = true) : a = b := by
  obtain ⟨i, cs⟩ := a
  obtain ⟨j, es⟩ := b
  simp only [spD, PyData.eqv, PyData.eqvAll, Bool.and_true, Bool.and_eq_true, beq_iff_eq, decide_eq_true_eq] at h
  have hij : i = j := by omega
  rw [hij, csD_eqv cs es h.2]
theorem mem_ddp {L : List CS} {u : CS} (h : u ∈ L) : u ∈ ddp L := by
  unfold ddp
  split
  · rename_i a b
    split
    · rename_i he
      have e := spD_eqv a b he
      subst e
      rcases List.mem_cons.mp h with h | h
      · exact List.mem_singleton.mpr h
      · exact h
    · exact h
  · exact h
/-- a step is covered -/
theorem step_cov {pl : List Pt} {cs : List Cu} {dep : Nat} {s u : Nat × List Tr} (h : Paired covers cs s.2) (hu : stM pl s = some u) : ∃ z ∈ stepC pl s.1 cs dep, z.1 = u.1 ∧ Paired covers z.2 u.2 := by
  unfold stM at hu
  cases hx : pl[s.1]? with
  | none => rw [hx] at hu; cases hu
  | some x =>
    rw [hx] at hu
    dsimp only at hu
    split at hu
    · cases hu
    · cases Option.some.inj hu
      have e0 : stepC0 pl s.1 cs dep = if x.1.look then (waysC (nmC cs x.1.nm1) (x.2.getD 0 0) (x.2.getD 1 0)).map (fun w => (w, cs)) else (mkC cs dep x.1).map (fun c => (x.2.getD 0 0, cs.set x.1.nm1 (dwn dep c))) := by
        unfold stepC0
        rw [hx]
      suffices hs : ∃ z ∈ stepC0 pl s.1 cs dep, z.1 = stepP x s.2 ∧ Paired covers z.2 (stepN x s.2) by
        obtain ⟨z, h1, h2⟩ := hs
        exact ⟨z, mem_ddp h1, h2⟩
      rw [e0]
      unfold stepP stepN
      cases hl : x.1.look with
      | true =>
        rw [if_pos rfl, if_pos rfl, if_pos rfl]
        have hc := nm_cov h x.1.nm1
        revert hc
        generalize nmC cs x.1.nm1 = c
        generalize nmA s.2 x.1.nm1 = t
        intro hc
        cases c with
        | any =>
          by_cases hz : 0 < t.size
          · rw [if_pos hz]
            exact ⟨_, List.mem_cons_self, rfl, h⟩
          · rw [if_neg hz]
            exact ⟨_, List.mem_cons_of_mem _ List.mem_cons_self, rfl, h⟩
        | nil =>
          have e : t = .nil := hc
          subst e
          rw [if_neg (by show ¬ 0 < 0; decide)]
          exact ⟨_, List.mem_cons_self, rfl, h⟩
        | pr a b =>
          cases t with
          | nil => exact hc.elim
          | pr l r =>
            rw [if_pos (by show 0 < 1 + l.size + r.size; omega)]
            exact ⟨_, List.mem_cons_self, rfl, h⟩
      | false =>
        rw [if_neg Bool.false_ne_true, if_neg Bool.false_ne_true, if_neg Bool.false_ne_true]
        obtain ⟨c, hc, hcv⟩ := made_cov h dep x.1 hl
        exact ⟨_, List.mem_map.mpr ⟨c, hc, rfl⟩, rfl, paired_set _ h (covers_dwn dep c _ hcv)⟩
/-! closed sets are closed -/
theorem hasS_iff (F : List CS) (s : CS) : hasS F s = true ↔ s ∈ F := by
  unfold hasS
  rw [List.any_eq_true]
  constructor
  · rintro ⟨u, hu, e⟩
    rw [spK_inj u s (of_decide_eq_true e)] at hu
    exact hu
  · exact fun h => ⟨s, h, decide_eq_true rfl⟩
theorem addS_sub {F : List CS} {s u : CS} (h : u ∈ F) : u ∈ addS F s := by
  unfold addS
  split
  · exact h
  · exact List.mem_append.mpr (.inl h)
theorem addS_has (F : List CS) (s : CS) : s ∈ addS F s := by
  unfold addS
  split
  · rename_i h
    exact (hasS_iff F s).mp h
  · exact List.mem_append.mpr (.inr (List.mem_singleton.mpr rfl))
theorem addAll_sub : ∀ (L F : List CS) (u : CS), u ∈ F → u ∈ L.foldl addS F
  | [], _, _, h => h
  | s :: L, F, u, h => addAll_sub L _ u (addS_sub h)
theorem addAll_has : ∀ (L F : List CS) (u : CS), u ∈ L → u ∈ L.foldl addS F
  | s :: L, F, u, h => by
    rw [List.foldl_cons]
    rcases List.mem_cons.mp h with rfl | h
    · exact addAll_sub L _ _ (addS_has F u)
    · exact addAll_has L _ u h
theorem addS_get {F : List CS} {s : CS} {i : Nat} {u : CS} (h : F[i]? = some u) : (addS F s)[i]? = some u := by
  unfold addS
  split
  · exact h
  · rw [List.getElem?_append_left (List.getElem?_eq_some_iff.mp h).1]
    exact h
theorem addAll_get : ∀ (L F : List CS) {i : Nat} {u : CS}, F[i]? = some u → (L.foldl addS F)[i]? = some u
  | [], _, _, _, h => h
  | s :: L, F, _, _, h => addAll_get L _ (addS_get h)
theorem clos_closed (st : CS → List CS) (end_ most : Nat) : ∀ (f : Nat) (F : List CS) (d : Nat), d + f = most + 2 → d ≤ most + 1 → (∀ i u, i < d → F[i]? = some u → u.1 ≠ end_ ∧ ∀ v ∈ st u, v ∈ F) → ∀ G, clos st end_ most f F d = some G → (∀ u ∈ F, u ∈ G) ∧ ∀ u ∈ G, u.1 ≠ end_ ∧ ∀ v ∈ st u, v ∈ G
  | 0, F, d, e, hd, _, _, _ => by omega
  | f + 1, F, d, e, hd, hF, G, h => by
    rw [clos] at h
    cases hx : F[d]? with
    | none =>
      rw [hx] at h
      cases Option.some.inj h
      refine ⟨fun u hu => hu, fun u hu => ?_⟩
      obtain ⟨i, hi, ei⟩ := List.getElem_of_mem hu
      have := List.getElem?_eq_none_iff.mp hx
      exact hF i u (by omega) (by rw [List.getElem?_eq_getElem hi, ei])
    | some s =>
      rw [hx] at h
      dsimp only at h
      split at h
      · cases h
      · rename_i hn
        have hn1 : ¬ most < F.length := fun z => hn (.inl z)
        have hn2 : s.1 ≠ end_ := fun z => hn (.inr z)
        have hdl := (List.getElem?_eq_some_iff.mp hx).1
        obtain ⟨g1, g2⟩ := clos_closed st end_ most f ((st s).foldl addS F) (d + 1) (by omega) (by omega) (fun i u hi hu => by
          by_cases hid : i < d
          · have hu' : F[i]? = some u := by
              have h1 := List.getElem?_eq_getElem (l := F) (i := i) (by omega)
              have h2 := addAll_get (st s) F h1
              rw [h2] at hu
              rw [h1]
              exact hu
            obtain ⟨p, q⟩ := hF i u hid hu'
            exact ⟨p, fun v hv => addAll_sub _ _ _ (q v hv)⟩
          · have hid' : i = d := by omega
            subst hid'
            rw [addAll_get (st s) F hx] at hu
            cases Option.some.inj hu
            exact ⟨hn2, fun v hv => addAll_has _ _ _ hv⟩) G h
        exact ⟨fun u hu => g1 u (addAll_sub _ _ _ hu), g2⟩
theorem begC_cov (t : Tr) (dep : Nat) : Paired covers (begC t dep).2 (firstN t) := by
  show Paired covers ((firstN t).map (cutC dep)) (firstN t)
  induction firstN t with
  | nil => exact .nil
  | cons a l ih => exact .cons (covers_cut dep a) ih
/-- each stand of a run is covered by one of the closed set -/
theorem closM_cov {r : List Dd} {t : Tr} {dep most : Nat} {F : List CS} (h : closM r t dep most = some F) : begC t dep ∈ F ∧ ∀ u ∈ F, u.1 ≠ manyR r ∧ ∀ v ∈ stepC (planR r) u.1 u.2 dep, v ∈ F := by
  obtain ⟨h1, h2⟩ := clos_closed _ _ _ _ _ _ (by omega) (by omega) (fun i u hi _ => absurd hi (Nat.not_lt_zero _)) F h
  exact ⟨h1 _ (List.mem_singleton.mpr rfl), h2⟩
theorem stdM_cov {pl : List Pt} {dep : Nat} {F : List CS} (hF : ∀ u ∈ F, ∀ v ∈ stepC pl u.1 u.2 dep, v ∈ F) : ∀ (k : Nat) (s : Nat × List Tr), (∃ u ∈ F, u.1 = s.1 ∧ Paired covers u.2 s.2) → ∀ x ∈ stdM pl k s, ∃ u ∈ F, u.1 = x.1 ∧ Paired covers u.2 x.2
  | 0, s, h, x, hx => by
    rw [stdM] at hx
    rw [List.mem_singleton.mp hx]
    exact h
  | k + 1, s, h, x, hx => by
    rw [stdM] at hx
    rcases List.mem_cons.mp hx with rfl | hx
    · exact h
    · cases hs : stM pl s with
      | none => rw [hs] at hx; exact absurd hx (fun e => nomatch e)
      | some u =>
        rw [hs] at hx
        obtain ⟨c, hc, e, hp⟩ := h
        obtain ⟨z, hz, e2, hp2⟩ := step_cov (dep := dep) hp hs
        exact stdM_cov hF k u ⟨z, hF c hc z (by rw [e]; exact hz), e2, hp2⟩ x hx
/-- whether one cut thing is as another tells -/
def fitC : Cu → Cu → Bool
  | _, .any => true
  | .nil, .nil => true
  | .pr a b, .pr c d => fitC a c && fitC b d
  | _, _ => false
theorem fit_any (c : Cu) : fitC c .any = true := by cases c <;> rfl
theorem fit_cov : ∀ (n : Nat) (t : Tr) (c : Cu), covers c t → c.dep ≤ n → fitC (cutC n t) c = true
  | n, t, .any, _, _ => fit_any _
  | 0, t, .nil, _, h => by rw [Cu.dep] at h; omega
  | 0, t, .pr _ _, _, h => by rw [Cu.dep] at h; omega
  | n + 1, t, .nil, hc, _ => by
    rw [show t = .nil from hc]
    rfl
  | n + 1, .nil, .pr _ _, hc, _ => hc.elim
  | n + 1, .pr l r, .pr a b, hc, h => by
    rw [Cu.dep] at h
    rw [cutC, fitC, fit_cov n l a hc.1 (by omega), fit_cov n r b hc.2 (by omega)]
    rfl
def fitAll (cs es : List Cu) : Bool := (List.zipWith fitC cs es).all id
theorem fitAll_cov {n : Nat} : ∀ {cs : List Cu} {ns : List Tr}, Paired covers cs ns → (∀ c ∈ cs, c.dep ≤ n) → fitAll (ns.map (cutC n)) cs = true
  | _, _, .nil, _ => rfl
  | c :: cs, t :: ns, .cons h p, hd => by
    show (fitC (cutC n t) c && fitAll (ns.map (cutC n)) cs) = true
    rw [fit_cov n t c h (hd c (List.mem_cons_self)), fitAll_cov p (fun e he => hd e (List.mem_cons_of_mem _ he))]
    rfl
theorem closM_ok {r : List Dd} {t : Tr} {dep most : Nat} {F : List CS} (h : closM r t dep most = some F) : ∀ u ∈ F, SpOk (manyR r) dep u := by
  suffices hs : ∀ (f : Nat) (G : List CS) (d : Nat), (∀ u ∈ G, SpOk (manyR r) dep u) → clos (fun s => stepC (planR r) s.1 s.2 dep) (manyR r) most f G d = some F → ∀ u ∈ F, SpOk (manyR r) dep u by
    exact hs _ _ _ (fun u hu => by rw [List.mem_singleton.mp hu]; exact begC_ok r t dep) h
  intro f
  induction f with
  | zero =>
    intro G d hG h
    cases Option.some.inj h
    exact hG
  | succ f ih =>
    intro G d hG h
    rw [clos] at h
    cases hx : G[d]? with
    | none =>
      rw [hx] at h
      cases Option.some.inj h
      exact hG
    | some s =>
      rw [hx] at h
      dsimp only at h
      split at h
      · cases h
      · refine ih _ _ (fun u hu => ?_) h
        rcases addAll_mem _ _ _ hu with hu | hu
        · exact hG u hu
        · exact stepC_ok (hG s (List.mem_of_getElem? hx)) u hu
theorem clos_len (st : CS → List CS) (end_ most : Nat) : ∀ (f : Nat) (F : List CS) (d : Nat), d + f = most + 2 → d ≤ most + 1 → (d < F.length → True) → ∀ G, clos st end_ most f F d = some G → F.length ≤ most + 3 → (∀ s, (st s).length ≤ 2) → G.length ≤ most + 3
  | 0, F, d, e, hd, _, _, _, _, _ => by omega
  | f + 1, F, d, e, hd, _, G, h, hl, h2 => by
    rw [clos] at h
    cases hx : F[d]? with
    | none =>
      rw [hx] at h
      cases Option.some.inj h
      exact hl
    | some s =>
      rw [hx] at h
      dsimp only at h
      split at h
      · cases h
      · rename_i hn
        have hn1 : ¬ most < F.length := fun z => hn (.inl z)
        have hdl := (List.getElem?_eq_some_iff.mp hx).1
        have ha := addAll_len (st s) F
        have := h2 s
        exact clos_len st end_ most f _ (d + 1) (by omega) (by omega) (fun _ => trivial) G h (by omega) h2
theorem closM_len {r : List Dd} {t : Tr} {dep most : Nat} {F : List CS} (h : closM r t dep most = some F) : F.length ≤ most + 3 :=
  clos_len _ _ _ _ _ _ (by omega) (by omega) (fun _ => trivial) F h (by show 1 ≤ most + 3; omega) (fun s => stepC_len _ _ _ _)
end Js

set_option Elab.async false
set_option linter.all false
set_option maxRecDepth 100000
set_option maxHeartbeats 2000000
namespace Js
open PySem L2
theorem stdM_get {pl : List Pt} : ∀ (k i : Nat) (s u : Nat × List Tr), i ≤ k → goM pl i s = some u → (stdM pl k s)[i]? = some u
  | 0, i, s, u, hi, h => by
    have : i = 0 := by omega
    subst this
    exact h
  | k + 1, 0, s, u, hi, h => by
    rw [stdM]
    exact h
  | k + 1, i + 1, s, u, hi, h => by
    rw [goM_left] at h
    cases hs : stM pl s with
    | none => rw [hs] at h; cases h
    | some v =>
      rw [hs] at h
      rw [stdM_some k hs, List.getElem?_cons_succ]
      exact stdM_get k i v u (by omega) h
theorem ended_clo {r : List Dd} {t : Tr} {n : Nat} {v : Nat × List Tr} (h : goM (planR r) n (0, firstN t) = some v) (hv : (planR r)[v.1]? = none) (dep most : Nat) : closM r t dep most = none := by
  cases hc : closM r t dep most with
  | none => rfl
  | some F =>
    obtain ⟨hbeg, hcls⟩ := closM_cov hc
    have hm : v ∈ stdM (planR r) n (0, firstN t) := List.mem_of_getElem? (stdM_get n n _ _ (Nat.le_refl _) h)
    obtain ⟨u, hu, e1, _⟩ := stdM_cov (dep := dep) (fun u hu => (hcls u hu).2) n (0, firstN t) ⟨_, hbeg, rfl, begC_cov t dep⟩ v hm
    have hle := goM_le (r := r) (s0 := (0, firstN t)) (Nat.zero_le _) n h
    have hge : (planR r).length ≤ v.1 := List.getElem?_eq_none_iff.mp hv
    rw [planR_len] at hge
    exact absurd (e1.trans (by omega)) (hcls u hu).1
end Js

set_option Elab.async false
set_option linter.all false
set_option maxRecDepth 100000
set_option maxHeartbeats 2000000
namespace Js
open PySem L2
open PySem.Spec PyProof.Rows
theorem spD_lay (s : Nat × List Cu) : (spD s).canLay0 = true := by
  simp only [spD, PyData.canLay0, PyData.canLayAll0, csD_lay, Bool.and_self]
theorem lD_lay : ∀ L : List (Nat × List Cu), PyData.canLayAll0 (L.map spD) = true
  | [] => rfl
  | s :: L => by
    rw [List.map_cons, PyData.canLayAll0, spD_lay s, lD_lay L]
    rfl
theorem lD_dep : ∀ L : List (Nat × List Cu), (∀ s ∈ L, ∀ c ∈ s.2, c.dep ≤ 20) → PyData.depthAll (L.map spD) ≤ 30
  | [], _ => Nat.zero_le _
  | s :: L, h => by
    have h1 := lD_dep L (fun s hs => h s (List.mem_cons_of_mem _ hs))
    have h2 := csD_dep s.2 (h s (List.mem_cons_self ..))
    rw [List.map_cons, PyData.depthAll]
    simp only [spD, PyData.depth, PyData.depthAll]
    omega
def lD (L : List (Nat × List Cu)) : PyData := .list (L.map spD)
theorem lD_shaped (L : List (Nat × List Cu)) (h : ∀ s ∈ L, ∀ c ∈ s.2, c.dep ≤ 20) : SeqAt.shaped (lD L) = true := by
  have h1 := lD_dep L h
  show ((lD L).canLay0 && decide ((lD L).depth ≤ 64)) = true
  rw [Bool.and_eq_true]
  refine ⟨?_, decide_eq_true ?_⟩
  · simp only [lD, PyData.canLay0, lD_lay]
  · simp only [lD, PyData.depth]
    omega
theorem lD_eqv (L : List (Nat × List Cu)) : PyData.eqv (lD L) (lD L) = true := PySem.SeqAt.eqv_refl _ (by simp only [lD, PyData.canLay0, lD_lay])
theorem sps_dp {K : PySem.W.Frag} {H : Hp} : ∀ {ws : List V} {L : List (Nat × List Cu)}, Paired (SpAt K H) ws L → DpAll K H ws (L.map spD)
  | _, _, .nil => .nil
  | _, _, .cons h t => .cons h.dp (sps_dp t)
end Js

set_option Elab.async false
set_option linter.all false
set_option maxRecDepth 100000
set_option maxHeartbeats 2000000
namespace Js
open PySem L2
open PySem PySem.Spec PyProof.Rows L2
abbrev sRi6 : Stmt := top 74

/-- lists of the same cut stands -/
def TCl (K : PySem.W.Frag) : Tells := fun x y r H => ∃ (l1 l2 : Addr) (w1 w2 : List V) (F : List CS), x = .ref l1 ∧ y = .ref l2 ∧ H l1 = some (.lst w1) ∧ H l2 = some (.lst w2) ∧ Paired (SpAt K H) w1 F ∧ Paired (SpAt K H) w2 F ∧ (∀ s ∈ F, ∀ c ∈ s.2, c.dep ≤ 20) ∧ r = true
theorem eqT_cl {X : Cx} : EqT X 0 (TCl X.K) := by
  intro A pins s σ H x y u v r sb I rx ry d
  obtain ⟨l1, l2, w1, w2, F, rfl, rfl, h1, h2, p1, p2, hF, rfl⟩ := d
  have hx : Dp X.K H (.ref l1) (lD F) := .lst (SqL.of h1) (sps_dp p1)
  have hy : Dp X.K H (.ref l2) (lD F) := .lst (SqL.of h2) (sps_dp p2)
  have sh := lD_shaped F hF
  obtain ⟨as, r1⟩ := Dp.reads I _ _ u hx rx
  obtain ⟨bs, r2⟩ := Dp.reads I _ _ v hy ry
  have q := SeqAt.eqAt_reads _ _ A s u v as bs r1 r2 (SeqAt.canLay_of_shaped sh) (SeqAt.canLay_of_shaped sh) (SeqAt.room_of_shaped sh sb.room.units)
  rw [lD_eqv] at q
  exact q X.prog X.w X.xe _ ⟨rfl, H, I, Same.refl H⟩
/-- flat ones, the very same, things, lists of cut stands -/
def TSm6 : Tells := fun x y r _ => ∃ a, x = .ref a ∧ y = .ref a ∧ r = true
theorem eqT_sm6 {X : Cx} : EqT X 0 TSm6 := by
  intro A pins s σ H x y u v r sb I rx ry d
  obtain ⟨a, rfl, rfl, rfl⟩ := d
  cases rx
  cases ry
  exact SeqAt.EqAt.same (A := A) (s := s) (.ref a) X.prog X.w X.xe _ ⟨rfl, H, I, Same.refl H⟩
def T6 (K : PySem.W.Frag) (C : Addr) : Tells := fun x y r H => (TFlat x y r H ∨ TSm6 x y r H) ∨ (DTh C x y r H ∨ TCl K x y r H)
theorem mon_x6 {K : PySem.W.Frag} {C : Addr} : MonT (T6 K C) := fun x y r H H' s d => by
  rcases d with (d | d) | (d | d)
  · exact .inl (.inl d)
  · exact .inl (.inr d)
  · exact .inr (.inl (DThM _ _ _ _ _ s d))
  · obtain ⟨l1, l2, w1, w2, F, e1, e2, h1, h2, p1, p2, hF, e⟩ := d
    exact .inr (.inr ⟨l1, l2, w1, w2, F, e1, e2, s _ _ h1, s _ _ h2, sps_tps (TpS.of s) p1, sps_tps (TpS.of s) p2, hF, e⟩)
theorem eqT_x6 {X : Cx} {C : Addr} (S : Spc X.prog X.w X.K X.mg X.base C "__eq__" 2 ["self", "other"] (spEqT C)) : EqT X 2 (T6 X.K C) :=
  EqT.or (EqT.or (eqT_flat.mono (Nat.zero_le 2)) (eqT_sm6.mono (Nat.zero_le 2))) (EqT.or (eqT_thing S) (eqT_cl.mono (Nat.zero_le 2)))
theorem tyT6 {K : PySem.W.Frag} {H : Hp} {a : Addr} {xs : List V} (h : SqT K H a xs) : TyX K H (.ref a) (.type "tuple") := by
  rcases h with (h | ⟨o, h⟩) | ⟨o, its, n, h1, h2, _⟩
  · exact .base (.tup h)
  · exact .fTuple h
  · exact .kTuple h1 h2
theorem wd_eq6 {o : Wd} : decide (V.str (wdS o) = V.str ("ended" : Str)) = decide (o = .ended) := by cases o <;> decide +kernel
def ldF : Option Unit → Unit := fun _ => ()
theorem firstC_ok {r : List Dd} {t : Tr} : ∀ (ds : List Nat) {d : Nat} {F : List CS}, (∀ x ∈ ds, x ≤ 5) → firstC r t ds = some (d, F) → ∀ s ∈ F, ∀ c ∈ s.2, c.dep ≤ 20
  | [], d, F, _, h => by
    rw [firstC] at h
    cases h
  | x :: ds, d, F, hd, h => by
    cases e : closM r t x 300 with
    | none =>
      rw [firstC_none e] at h
      exact firstC_ok ds (fun y hy => hd y (List.mem_cons_of_mem _ hy)) h
    | some G =>
      rw [firstC_some e] at h
      cases h
      intro s hs c hc
      have h1 := (closM_ok e s hs).2.1 c hc
      have h2 := hd x (List.mem_cons_self ..)
      omega
theorem elR_ok {r : List Dd} {bud d : Nat} {F : List CS} (h : elR r bud = .closed d F) : ∀ s ∈ F, ∀ c ∈ s.2, c.dep ≤ 20 := by
  unfold elR elM at h
  split at h
  · cases h
  · split at h
    · cases h
    · split at h
      · rename_i d' F' e
        cases h
        exact firstC_ok [1, 2, 3] (fun x hx => by simp only [List.mem_cons, List.not_mem_nil, or_false] at hx; omega) e
      · cases h
theorem firstC_len {r : List Dd} {t : Tr} : ∀ (ds : List Nat) {d : Nat} {F : List CS}, firstC r t ds = some (d, F) → F.length ≤ 303
  | [], d, F, h => by
    rw [firstC] at h
    cases h
  | x :: ds, d, F, h => by
    cases e : closM r t x 300 with
    | none =>
      rw [firstC_none e] at h
      exact firstC_len ds h
    | some G =>
      rw [firstC_some e] at h
      cases h
      exact closM_len e
theorem elR_len {r : List Dd} {bud d : Nat} {F : List CS} (h : elR r bud = .closed d F) : F.length ≤ 303 := by
  unfold elR elM at h
  split at h
  · cases h
  · split at h
    · cases h
    · split at h
      · rename_i d' F' e
        cases h
        exact firstC_len [1, 2, 3] e
      · cases h
def spRi6 (K : PySem.W.Frag) (C CP : Addr) : Sp := fun vs H Q _ => ∃ (a : Addr) (r : List Dd) (bud : Nat), vs = [.ref a, .int (bud : Nat)] ∧ PgAt K C CP H a r ∧ manyR r ≤ 300 ∧ bud ≤ 100000 ∧ ∀ H', Same H H' → Q (.bl true) H'
theorem ite_t6 {b : Bool} {A B : Prop} (h : b = true) (q : A) : if b = true then A else B := by
  subst h
  exact iteT q
theorem ite_f6 {b : Bool} {A B : Prop} (h : b = false) (q : B) : if b = true then A else B := by
  subst h
  exact iteF q
section
variable {P : Program} {w : World} {K : PySem.W.Frag} {mg : Str → Option Value} {base : Heap} {C CP CR fI fP : Addr} {fdI fdP : FuncData}
theorem scRi6 : FnScope ["_law_asker", "_law_limit", "_law_told", "_law_word", "_law_program", "_law_paper", "_law_size", "_law_known"] ["_law_asker", "_law_limit"] (defScope sRi6) := ⟨rfl, rfl, rfl, by decide +kernel, rfl, by decide +kernel, by decide +kernel⟩
theorem ok_ri6 {f : Addr} {fd : FuncData} (F : Fun K "_law_right" "_law_right" sRi6 f fd) (B : Blt mg) (isi : mg "isinstance" = none) (mt : mg "tuple" = none) (TP : TxtP K mg CP) (TR : TxtR K mg CR) (SE : Spc P w K mg base C "__eq__" 2 ["self", "other"] (spEqT C)) (SPL : Spc P w K mg base CP "__len__" 1 ["self"] (spPLen K C CP)) (DLt : Def P w K mg base "late" 16 ["bounder", "budget"] (spLate K C CP)) (DNu : Def P w K mg base "number" 4 ["n"] (spNumber C)) (DR : Def P w K mg base "run" 7 ["program", "thing", "budget"] (spRun K C CP CR)) (DEl : Def P w K mg base "endless" 11 ["program", "thing", "budget"] (spEndless K C CP)) : FnOk P w K mg base CX0 21 f fd ["_law_asker", "_law_limit"] (spRi6 K C CP) := by
  refine F.ok scRi6 (fun vs H Q E h => ?_) (fun cdv A outer s H vs Q E hr h => ?_)
  · obtain ⟨a, r, bud, rfl, _⟩ := h
    rfl
  · obtain ⟨a, r, bud, rfl, ha, hmn, hbd, k⟩ := h
    have hr2 : Room 2 _ := hr.mono (by decide)
    have hr3 : Room 3 _ := hr.mono (by decide)
    have hr4 : Room 4 _ := hr.mono (by decide)
    have hr7 : Room 7 _ := hr.mono (by decide)
    have hr11 : Room 11 _ := hr.mono (by decide)
    have hr16 : Room 16 _ := hr.mono (by decide)
    have hr20 : Room 20 _ := hr
    refine ⟨_, pss_cons (ps_set (i := 2) scRi6.nd rfl (Or.inl rfl) (pe_def DLt hr16 rfl (pa_cons (pv 0) (pa_cons (pv 1) pa_nil)))) (pss_cons (ps_if (PW.pt (pw_or (pt_not (pt_val (pe_callB (r := rIsi K) call_isi (by rfl) isi PyProof.Rows.boot_isinstance (pa_cons (pv 2) (pa_cons (pe_bltn (v := .ty "tuple") rfl mt PyProof.Rows.boot_tuple rfl) pa_nil))))) (pw_or (pt_cmpR op_ne (pe_callB call_len_seq (by rfl) B.len PySem.boot_len (pa_cons (pv 2) pa_nil)) pe_int (nomark _)) (pw_or1 (pt_not (pt_val (pe_callB (r := rIsi K) call_isi (by rfl) isi PyProof.Rows.boot_isinstance (pa_cons (pe_ix (r := rIxT K) ix_tup (pv 2) pe_int (fun _ _ => rfl)) (pa_cons (pe_glob (v := .ref CP) rfl TP.mgP rfl) pa_nil))))))))) (pss_one (ps_ret pe_bl)) pss_nil) (pss_cons (ps_asg (pv 2) (pg_tup rfl (pgs_cons (pg_name (i := 3) scRi6.nd rfl (Or.inl rfl)) (pgs_cons (pg_name (i := 4) scRi6.nd rfl (Or.inl rfl)) (pgs_cons (pg_name (i := 5) scRi6.nd rfl (Or.inl rfl)) pgs_nil))))) (pss_cons (ps_set (i := 6) scRi6.nd rfl (Or.inl rfl) (pe_def DNu hr4 rfl (pa_cons (pe_callB (call_lenP SPL hr2) (by rfl) B.len PySem.boot_len (pa_cons (pv 4) pa_nil)) pa_nil))) (pss_cons (ps_if (PW.pt (pw_or (pt_cmpR op_ne (pe_callB (call_lenP SPL hr2) (by rfl) B.len PySem.boot_len (pa_cons (pv 4) pa_nil)) (pe_op op_add (pe_callB (call_lenP SPL hr2) (by rfl) B.len PySem.boot_len (pa_cons (pv 0) pa_nil)) pe_int) (nomark _)) (pw_or1 (pt_cmpR (op_neTl (rcT_tup_ne mon_x6 (eqT_x6 SE)) hr3) (pe_ix (r := rIxT K) ix_tup (pe_fld (pv 4) rfl) pe_int (fun _ _ => rfl)) (pe_tup (pa_cons pe_str (pa_cons pe_int (pa_cons (pv 6) pa_nil)))) (nomark _))))) (pss_one (ps_ret pe_bl)) pss_nil) (pss_cons (ps_if (pt_cmpR (op_neTl (eqT_rows SE 9).2.2 hr20) (pe_slice (sl_drP (C := C)) (pe_fld (pv 4) rfl) (po_some pe_int) po_none) (pe_op (op_catP (C := C)) (pe_fld (pv 0) rfl) (pe_tup (pa_cons (pe_tup (pa_cons pe_str (pa_cons pe_int (pa_cons (pe_tup (pa_cons (pe_tup (pa_cons pe_str (pa_cons pe_int (pa_cons pe_int pa_nil)))) pa_nil)) pa_nil)))) pa_nil))) (nomark _)) (pss_one (ps_ret pe_bl)) pss_nil) (pss_cons (ps_if (pt_cmpR op_eq (pe_fld (pe_def DR hr7 rfl (pa_cons (pv 0) (pa_cons (pv 6) (pa_cons (pv 1) pa_nil)))) rfl) pe_str (nomark _)) (pss_one (ps_ret (pe_and (pe_cmpR op_eq (pv 3) pe_str (nomark _)) (pe_one (pe_cmpR (op_eqTl (rcT_tup_eq mon_x6 (eqT_x6 SE)) hr3) (pv 5) (pe_tup (pa_cons pe_str (pa_cons (pv 0) (pa_cons (pv 4) pa_nil)))) (nomark _)))))) pss_nil) (pss_cons (ps_set (i := 7) scRi6.nd rfl (Or.inl rfl) (pe_def DEl hr11 rfl (pa_cons (pv 0) (pa_cons (pv 6) (pa_cons (pv 1) pa_nil))))) (pss_cons (ps_if (pt_cmp (pc_isN (pv 7))) (pss_one (ps_ret (pe_and (pe_cmpR op_eq (pv 3) pe_str (nomark _)) (pe_one (pe_cmp (pc_isN (pv 5))))))) pss_nil) (pss_cons (ps_if (PW.pt (pw_or (pt_cmpR op_ne (pv 3) pe_str (nomark _)) (pw_or1 (pt_cmpR (op_neTl (rcT_tup_ne mon_x6 (eqT_x6 SE)) hr3) (pv 5) (pv 7) (nomark _))))) (pss_one (ps_ret pe_bl)) pss_nil) (pss_cons (ps_if (pt_cmpR op_eq (pe_ix (r := rIxT K) ix_tup (pv 5) pe_int (fun _ _ => rfl)) pe_str (nomark _)) (pss_one (ps_expr (pe_bm PySem.F.plainAttrs_list PySem.F.slot_list_append PySem.F.type_list_append mt_append (pe_ix (r := rIxT K) ix_tup (pv 5) pe_int (fun _ _ => rfl)) (pa_cons pe_non pa_nil)))) pss_nil) (pss_one (ps_ret (pe_cmpR (op_eqTl (rcT_tup_eq mon_x6 (eqT_x6 SE)) hr3) (pe_ix (r := rIxT K) ix_tup (pe_def DLt hr16 rfl (pa_cons (pv 0) (pa_cons (pv 1) pa_nil))) pe_int (fun _ _ => rfl)) (pv 7) (nomark _)))))))))))))), ?_⟩
    have hsl := line4
    refine ⟨_, rfl, _, rfl, a, r, bud, rfl, ha, by omega, by omega, fun T m wd vp h1 sh1 hT hm hL => ?_⟩
    obtain ⟨hL1, hL2⟩ := hL
    obtain ⟨dm, qm, plm, ysm, m1, m2, m3, m4⟩ := id hm.ex
    have hlm := late_many r (num (manyR r + 3))
    refine ⟨_, rfl, _, _, _, _, true, rfl, ClsV.ty _, tyT6 hT, kit_ty (by decide +kernel), _, rfl, iteF ?_⟩
    refine ⟨_, rfl, T, _, rfl, .inr hT, rfl, _, rfl, ?_⟩
    rw [show (!decide (V.int (((([V.str wd, V.ref m, vp] : List V).length : Nat) : Int)) = V.int 3)) = false from congrArg not (decide_eq_true rfl)]
    refine iteF ?_
    refine ⟨_, rfl, T, _, 1, _, rfl, rfl, hT, rfl, _, _, _, _, true, rfl, ClsV.own CP, .base (.ins m1 TP.cl TP.ca TP.cn TP.ct TP.cm), kit_self _ _, _, rfl, iteF ?_⟩
    refine ⟨_, rfl, T, _, rfl, hT, rfl, _, _, rfl, _, _, rfl, _, _, rfl, rfl, ?_⟩
    refine ⟨_, rfl, m, _, rfl, hm, manyR (lateR r (num (manyR r + 3))), rfl, by omega, fun z h2 sh2 hz => ?_⟩
    refine ⟨_, rfl, m, _, rfl, (hm).kt (KT.of sh2), _, rfl, a, r, rfl, (ha).kt ((KT.of sh1).trans (KT.of sh2)), _, _, rfl, rfl, rfl, _, rfl, ?_⟩
    have e1 : (!decide (V.int ((manyR (lateR r (num (manyR r + 3))) : Nat) : Int) = V.int (((manyR r : Nat) : Int) + 3))) = false := by
      rw [hlm]
      exact congrArg not (decide_eq_true (congrArg V.int (by omega)))
    refine ite_f6 e1 ?_
    rw [hlm] at hz
    obtain ⟨vsm, hq1, hq2⟩ := id m2
    obtain ⟨v0, vr, rfl, hv0, hvr⟩ := hq2
    obtain ⟨T0, x0, rfl, h01, _, h02, _⟩ := hv0
    refine ⟨_, rfl, _, _, _, _, _, rfl, sh2 _ _ m1, TP.cl, TP.nD, pf_deeds _ _, qm, _, 0, _, rfl, rfl, sqt_kt (KT.of sh2) hq1, at0 _ _, ?_⟩
    refine ⟨_, rfl, by show 3 ≤ sizeLine; decide, fun A1 nA1 => ?_⟩
    have sh3 := Same.new nA1 (o := .tup [V.str "told", .int ((0 : Nat) : Int), .ref z])
    have eh3 : (upd h2 A1 (.tup [V.str "told", .int ((0 : Nat) : Int), .ref z])) A1 = some (.tup [V.str "told", .int ((0 : Nat) : Int), .ref z]) := upd_same
    revert sh3 eh3
    generalize upd h2 A1 (.tup [V.str "told", .int ((0 : Nat) : Int), .ref z]) = h3
    intro sh3 eh3
    have hq1A := sqt_kt ((KT.of sh2).trans (KT.of sh3)) h01
    have hnz : (num (manyR r + 3)).size ≤ 4000 := by rw [num_size]; omega
    refine ⟨true, ⟨T0, A1, _, _, [true, true, true], rfl, rfl, hq1A, SqT.of eh3, prs_cons (.inl (.inl ⟨rfl, rfl, by decide +kernel⟩)) (fun _ => prs_cons (.inl (.inl ⟨rfl, rfl, by decide +kernel⟩)) (fun _ => prs_cons (.inr (.inl ⟨x0, z, _, _, rfl, rfl, (h02).kt ((KT.of sh2).trans (KT.of sh3)), (hz).kt (KT.of sh3), hnz, (decide_eq_true rfl).symm⟩)) (fun _ => prs_nil) rfl) rfl) rfl, rfl⟩, ?_⟩
    intro h4 sh4
    refine ⟨_, rfl, iteF ?_⟩
    obtain ⟨dx, qa, pl, ys, ha1, ha2, _⟩ := id ((ha).kt ((((KT.of sh1).trans (KT.of sh2)).trans (KT.of sh3)).trans (KT.of sh4))).ex
    refine ⟨_, rfl, _, _, _, _, _, rfl, ((sh2.trans sh3).trans sh4) _ _ m1, TP.cl, TP.nD, pf_deeds _ _, _, rfl, qm, lateR r (num (manyR r + 3)), 1, rfl, rfl, rfl, (m2).kt (((KT.of sh2).trans (KT.of sh3)).trans (KT.of sh4)), fun q1 h5 sh5 hq1 => ?_⟩
    refine ⟨_, rfl, _, _, _, _, _, rfl, sh5 _ _ ha1, TP.cl, TP.nD, pf_deeds _ _, ?_⟩
    refine ⟨by show 3 ≤ sizeLine; decide, fun B1 nB1 => ?_⟩
    have sh6 := Same.new nB1 (o := .tup [V.str "second", .int ((0 : Nat) : Int), .int ((0 : Nat) : Int)])
    have eh6 : (upd h5 B1 (.tup [V.str "second", .int ((0 : Nat) : Int), .int ((0 : Nat) : Int)])) B1 = some (.tup [V.str "second", .int ((0 : Nat) : Int), .int ((0 : Nat) : Int)]) := upd_same
    revert sh6 eh6
    generalize upd h5 B1 (.tup [V.str "second", .int ((0 : Nat) : Int), .int ((0 : Nat) : Int)]) = h6
    intro sh6 eh6
    refine ⟨by show 1 ≤ sizeLine; decide, fun B2 nB2 => ?_⟩
    have sh7 := Same.new nB2 (o := .tup [V.ref B1])
    have eh7 : (upd h6 B2 (.tup [V.ref B1])) B2 = some (.tup [V.ref B1]) := upd_same
    revert sh7 eh7
    generalize upd h6 B2 (.tup [V.ref B1]) = h7
    intro sh7 eh7
    refine ⟨by show 3 ≤ sizeLine; decide, fun B3 nB3 => ?_⟩
    have sh8 := Same.new nB3 (o := .tup [V.str "while", .int ((0 : Nat) : Int), .ref B2])
    have eh8 : (upd h7 B3 (.tup [V.str "while", .int ((0 : Nat) : Int), .ref B2])) B3 = some (.tup [V.str "while", .int ((0 : Nat) : Int), .ref B2]) := upd_same
    revert sh8 eh8
    generalize upd h7 B3 (.tup [V.str "while", .int ((0 : Nat) : Int), .ref B2]) = h8
    intro sh8 eh8
    refine ⟨by show 1 ≤ sizeLine; decide, fun B4 nB4 => ?_⟩
    have sh9 := Same.new nB4 (o := .tup [V.ref B3])
    have eh9 : (upd h8 B4 (.tup [V.ref B3])) B4 = some (.tup [V.ref B3]) := upd_same
    revert sh9 eh9
    generalize upd h8 B4 (.tup [V.ref B3]) = h9
    intro sh9 eh9
    have hbh : RAt K C h9 B4 behD := ⟨_, SqT.of eh9, _, _, rfl, ⟨B3, B2, _, rfl, sqt_kt (KT.of sh9) (SqT.of eh8), by decide, sqt_kt ((KT.of sh8).trans (KT.of sh9)) (SqT.of eh7), ⟨_, _, rfl, ⟨B1, rfl, sqt_kt (((KT.of sh7).trans (KT.of sh8)).trans (KT.of sh9)) (SqT.of eh6), by decide, by decide⟩, rfl⟩⟩, rfl⟩
    have lr := len_manyP r
    refine ⟨qa, B4, r, behD, rfl, rfl, (ha2).kt (((((KT.of sh5).trans (KT.of sh6)).trans (KT.of sh7)).trans (KT.of sh8)).trans (KT.of sh9)), hbh, by show r.length + 1 ≤ 100000; omega, fun q2 h10 sh10 hq2 => ?_⟩
    have dpa := ha.dp
    have dpe : deepR (r ++ behD) ≤ 8 := by rw [deepR_appP]; exact Nat.max_le.mpr ⟨dpa, by decide⟩
    refine ⟨true, ⟨q1, q2, r ++ behD, r ++ behD, rfl, rfl, (hq1).kt (((((KT.of sh6).trans (KT.of sh7)).trans (KT.of sh8)).trans (KT.of sh9)).trans (KT.of sh10)), hq2, by omega, by omega, (decide_eq_true rfl).symm⟩, ?_⟩
    intro h11 sh11
    refine ⟨_, rfl, iteF ?_⟩
    refine ⟨_, rfl, _, rfl, _, rfl, a, z, r, num (manyR r + 3), bud, rfl, (ha).kt (((((((((((KT.of sh1).trans (KT.of sh2)).trans (KT.of sh3)).trans (KT.of sh4)).trans (KT.of sh5)).trans (KT.of sh6)).trans (KT.of sh7)).trans (KT.of sh8)).trans (KT.of sh9)).trans (KT.of sh10)).trans (KT.of sh11)), (hz).kt (((((((((KT.of sh3).trans (KT.of sh4)).trans (KT.of sh5)).trans (KT.of sh6)).trans (KT.of sh7)).trans (KT.of sh8)).trans (KT.of sh9)).trans (KT.of sh10)).trans (KT.of sh11)), hnz, fun rr h12 sh12 _ hrn => ?_⟩
    obtain ⟨dz, vz, g1, g2⟩ := id hrn
    refine ⟨_, _, _, _, _, rfl, g1, TR.cl, TR.nW, rf_word _ _ _, rfl, _, rfl, ?_⟩
    rw [wd_eq6]
    by_cases hen : (saidR r (manyR r + 3) bud).1 = .ended
    · rw [decide_eq_true (show (runM (planR r) bud 0 (firstN (num (manyR r + 3))) 0).1 = .ended from hen)]
      obtain ⟨rfl, q, rfl, hq⟩ := hL1 hen
      refine iteT ⟨_, rfl, rfl, _, rfl, ?_⟩
      rw [decide_eq_true rfl]
      refine iteT ⟨_, rfl, ?_⟩
      refine ⟨_, rfl, _, rfl, by show 3 ≤ sizeLine; decide, fun P1 nP1 => ?_⟩
      have sp1 := Same.new nP1 (o := .tup [V.str "late", .ref a, .ref m])
      have ep1 : (upd h12 P1 (.tup [V.str "late", .ref a, .ref m])) P1 = some (.tup [V.str "late", .ref a, .ref m]) := upd_same
      revert sp1 ep1
      generalize upd h12 P1 (.tup [V.str "late", .ref a, .ref m]) = p1
      intro sp1 ep1
      exact ⟨true, ⟨q, P1, _, _, [true, true, true], rfl, rfl, sqt_kt (KT.of sp1) (sqt_kt (((((((((((KT.of sh2).trans (KT.of sh3)).trans (KT.of sh4)).trans (KT.of sh5)).trans (KT.of sh6)).trans (KT.of sh7)).trans (KT.of sh8)).trans (KT.of sh9)).trans (KT.of sh10)).trans (KT.of sh11)).trans (KT.of sh12)) hq), SqT.of ep1, prs_cons (.inl (.inl ⟨rfl, rfl, by decide +kernel⟩)) (fun _ => prs_cons (.inl (.inr ⟨_, rfl, rfl, rfl⟩)) (fun _ => prs_cons (.inl (.inr ⟨_, rfl, rfl, rfl⟩)) (fun _ => prs_nil) rfl) rfl) rfl, rfl⟩, fun H8 s8 => k H8 (((((((((((((sh1.trans sh2).trans sh3).trans sh4).trans sh5).trans sh6).trans sh7).trans sh8).trans sh9).trans sh10).trans sh11).trans sh12).trans sp1).trans s8)⟩
    rw [decide_eq_false (show ¬ (runM (planR r) bud 0 (firstN (num (manyR r + 3))) 0).1 = .ended from hen)]
    refine iteF ?_
    obtain ⟨z', hz', hE, rfl⟩ := hL2 hen
    refine ⟨_, rfl, _, rfl, _, rfl, a, z, r, num (manyR r + 3), bud, rfl, (ha).kt ((((((((((((KT.of sh1).trans (KT.of sh2)).trans (KT.of sh3)).trans (KT.of sh4)).trans (KT.of sh5)).trans (KT.of sh6)).trans (KT.of sh7)).trans (KT.of sh8)).trans (KT.of sh9)).trans (KT.of sh10)).trans (KT.of sh11)).trans (KT.of sh12)), (hz).kt ((((((((((KT.of sh3).trans (KT.of sh4)).trans (KT.of sh5)).trans (KT.of sh6)).trans (KT.of sh7)).trans (KT.of sh8)).trans (KT.of sh9)).trans (KT.of sh10)).trans (KT.of sh11)).trans (KT.of sh12)), hnz, by omega, by omega, fun v h13 sh13 hE2 => ?_⟩
    have hE2 : ElD K h12 h13 v a z (elR r bud) := hE2
    have hE3 : ElD K H h13 vp a z' (elR r bud) := hE.same (((((((((((sh2.trans sh3).trans sh4).trans sh5).trans sh6).trans sh7).trans sh8).trans sh9).trans sh10).trans sh11).trans sh12).trans sh13)
    have hZ := (hz).kt (((((((((((KT.of sh3).trans (KT.of sh4)).trans (KT.of sh5)).trans (KT.of sh6)).trans (KT.of sh7)).trans (KT.of sh8)).trans (KT.of sh9)).trans (KT.of sh10)).trans (KT.of sh11)).trans (KT.of sh12)).trans (KT.of sh13))
    have hZ1 := (hz').kt ((((((((((((KT.of sh2).trans (KT.of sh3)).trans (KT.of sh4)).trans (KT.of sh5)).trans (KT.of sh6)).trans (KT.of sh7)).trans (KT.of sh8)).trans (KT.of sh9)).trans (KT.of sh10)).trans (KT.of sh11)).trans (KT.of sh12)).trans (KT.of sh13))
    have hA2 := (ha).kt (((((((((((((KT.of sh1).trans (KT.of sh2)).trans (KT.of sh3)).trans (KT.of sh4)).trans (KT.of sh5)).trans (KT.of sh6)).trans (KT.of sh7)).trans (KT.of sh8)).trans (KT.of sh9)).trans (KT.of sh10)).trans (KT.of sh11)).trans (KT.of sh12)).trans (KT.of sh13))
    have s2 := ((((((((((((sh1.trans sh2).trans sh3).trans sh4).trans sh5).trans sh6).trans sh7).trans sh8).trans sh9).trans sh10).trans sh11).trans sh12).trans sh13)
    have hel : ∃ el, elR r bud = el := ⟨_, rfl⟩
    obtain ⟨el, hel⟩ := hel
    rw [hel] at hE2 hE3 ⊢
    cases el with
    | no =>
      cases hE2
      cases hE3
      refine ⟨_, rfl, _, rfl, ?_⟩
      rw [decide_eq_true rfl]
      refine iteT ⟨_, rfl, rfl, _, rfl, ?_⟩
      refine ite_t6 (by decide +kernel) ⟨_, rfl, ?_⟩
      show Q (.bl (decide (V.non = V.non))) _
      rw [decide_eq_true rfl]
      exact k _ s2
    | again e l =>
      obtain ⟨q1, rfl, h1⟩ := hE3
      obtain ⟨q2, rfl, h2⟩ := hE2
      refine ⟨_, rfl, _, rfl, ?_⟩
      rw [decide_eq_false (fun z => nomatch z)]
      refine iteF ⟨_, rfl, rfl, _, rfl, ?_⟩
      refine ite_f6 (by show (!decide (V.str ("silent" : Str) = V.str ("silent" : Str))) = false; decide +kernel) ?_
      refine ⟨_, rfl, _, rfl, true, ⟨q1, q2, _, _, [true, true, true, true, true], rfl, rfl, h1, h2, prs_cons (.inl (.inl ⟨rfl, rfl, by decide +kernel⟩)) (fun _ => prs_cons (.inl (.inr ⟨_, rfl, rfl, rfl⟩)) (fun _ => prs_cons (.inr (.inl ⟨z', z, _, _, rfl, rfl, hZ1, hZ, hnz, (decide_eq_true rfl).symm⟩)) (fun _ => prs_cons (.inl (.inl ⟨rfl, rfl, by simp [eqV]⟩)) (fun _ => prs_cons (.inl (.inl ⟨rfl, rfl, by simp [eqV]⟩)) (fun _ => prs_nil) rfl) rfl) rfl) rfl) rfl, rfl⟩, fun G1 t1 => ⟨_, rfl, iteF ?_⟩⟩
      refine ⟨_, rfl, q1, _, 0, _, rfl, rfl, sqt_kt (KT.of t1) h1, rfl, rfl, _, rfl, ?_⟩
      refine ite_f6 (by decide +kernel) ?_
      refine ⟨_, rfl, _, rfl, a, r, bud, rfl, hA2.same t1, by omega, by omega, fun T2 m2 wd2 vp2 G2 t2 hT2 _ hL2' => ?_⟩
      obtain ⟨z3, hz3, hE4, _⟩ := hL2'.2 hen
      rw [hel] at hE4
      obtain ⟨q3, rfl, h3⟩ := hE4
      have t12 := t1.trans t2
      exact ⟨T2, _, 2, _, rfl, rfl, hT2, rfl, _, rfl, true, ⟨q3, q2, _, _, [true, true, true, true, true], rfl, rfl, h3, sqt_kt (KT.of t12) h2, prs_cons (.inl (.inl ⟨rfl, rfl, by decide +kernel⟩)) (fun _ => prs_cons (.inl (.inr ⟨_, rfl, rfl, rfl⟩)) (fun _ => prs_cons (.inr (.inl ⟨z3, z, _, _, rfl, rfl, hz3, hZ.same t12, hnz, (decide_eq_true rfl).symm⟩)) (fun _ => prs_cons (.inl (.inl ⟨rfl, rfl, by simp [eqV]⟩)) (fun _ => prs_cons (.inl (.inl ⟨rfl, rfl, by simp [eqV]⟩)) (fun _ => prs_nil) rfl) rfl) rfl) rfl) rfl, rfl⟩, fun G3 t3 => k _ ((s2.trans t12).trans t3)⟩
    | closed d F =>
      have hF := elR_ok hel
      have hE4 := hE.same ((((((((((sh2.trans sh3).trans sh4).trans sh5).trans sh6).trans sh7).trans sh8).trans sh9).trans sh10).trans sh11).trans sh12)
      rw [hel] at hE4
      obtain ⟨q1, l1, w1, rfl, h1', n1, g11', g12'⟩ := hE4
      have h1 := sqt_kt (KT.of sh13) h1'
      have g11 := sh13 _ _ g11'
      have g12 := sps_tps (TpS.of sh13) g12'
      obtain ⟨q2, l2, w2, rfl, h2, n2, g21, g22⟩ := hE2
      refine ⟨_, rfl, _, rfl, ?_⟩
      rw [decide_eq_false (fun z => nomatch z)]
      refine iteF ⟨_, rfl, rfl, _, rfl, ?_⟩
      refine ite_f6 (by show (!decide (V.str ("silent" : Str) = V.str ("silent" : Str))) = false; decide +kernel) ?_
      refine ⟨_, rfl, _, rfl, true, ⟨q1, q2, _, _, [true, true, true, true, true], rfl, rfl, h1, h2, prs_cons (.inl (.inl ⟨rfl, rfl, by decide +kernel⟩)) (fun _ => prs_cons (.inl (.inr ⟨_, rfl, rfl, rfl⟩)) (fun _ => prs_cons (.inr (.inl ⟨z', z, _, _, rfl, rfl, hZ1, hZ, hnz, (decide_eq_true rfl).symm⟩)) (fun _ => prs_cons (.inl (.inl ⟨rfl, rfl, by simp [eqV]⟩)) (fun _ => prs_cons (.inr (.inr ⟨l1, l2, w1, w2, F, rfl, rfl, g11, g21, g12, g22, hF, rfl⟩)) (fun _ => prs_nil) rfl) rfl) rfl) rfl) rfl, rfl⟩, fun G1 t1 => ⟨_, rfl, iteF ?_⟩⟩
      refine ⟨_, rfl, q1, _, 0, _, rfl, rfl, sqt_kt (KT.of t1) h1, rfl, rfl, _, rfl, ?_⟩
      refine ite_t6 (by decide +kernel) ?_
      have hw1 : w1.length ≤ 303 := by
        rw [Paired.length g12]
        exact elR_len hel
      have hne : l2 ≠ l1 := fun e => by
        rw [e] at n2
        exact nomatch (n2.symm.trans g11')
      have g11a := t1 _ _ g11
      refine ⟨_, rfl, q1, _, 4, _, rfl, rfl, sqt_kt (KT.of t1) h1, rfl, .inl ⟨rfl, _, SqL.of g11a⟩, l1, _, _, rfl, rfl, g11a, by omega, ?_⟩
      have kl := KT.lst (o := .lst (w1 ++ [V.non])) g11a
      have sN : Same H (upd G1 l1 (.lst (w1 ++ [V.non]))) := (s2.trans t1).set n1
      have g21a : (upd G1 l1 (.lst (w1 ++ [V.non]))) l2 = some (.lst w2) := by
        rw [upd_ne hne]
        exact t1 _ _ g21
      have k1l := (KT.of t1).trans kl
      have h2a := sqt_kt k1l h2
      have g22a := sps_tps (TpS.kt k1l) g22
      have hZa := hZ.kt k1l
      have hAa := hA2.kt k1l
      revert sN g21a h2a g22a hZa hAa
      generalize upd G1 l1 (.lst (w1 ++ [V.non])) = G2
      intro sN g21a h2a g22a hZa hAa
      refine ⟨_, rfl, _, rfl, a, r, bud, rfl, hAa, by omega, by omega, fun T2 m2 wd2 vp2 G3 t3 hT2 _ hL2' => ?_⟩
      obtain ⟨z3, hz3, hE5, _⟩ := hL2'.2 hen
      rw [hel] at hE5
      obtain ⟨q3, l3, w3, rfl, h3, _, g31, g32⟩ := hE5
      exact ⟨T2, _, 2, _, rfl, rfl, hT2, rfl, _, rfl, true, ⟨q3, q2, _, _, [true, true, true, true, true], rfl, rfl, h3, sqt_kt (KT.of t3) h2a, prs_cons (.inl (.inl ⟨rfl, rfl, by decide +kernel⟩)) (fun _ => prs_cons (.inl (.inr ⟨_, rfl, rfl, rfl⟩)) (fun _ => prs_cons (.inr (.inl ⟨z3, z, _, _, rfl, rfl, hz3, hZa.same t3, hnz, (decide_eq_true rfl).symm⟩)) (fun _ => prs_cons (.inl (.inl ⟨rfl, rfl, by simp [eqV]⟩)) (fun _ => prs_cons (.inr (.inr ⟨l3, l2, w3, w2, F, rfl, rfl, g31, t3 _ _ g21a, g32, sps_tps (TpS.of t3) g22a, hF, rfl⟩)) (fun _ => prs_nil) rfl) rfl) rfl) rfl) rfl, rfl⟩, fun G4 t4 => k _ ((sN.trans t3).trans t4)⟩
end
end Js

set_option Elab.async false
set_option linter.all false
set_option maxRecDepth 100000
set_option maxHeartbeats 2000000
namespace Js
open PySem L2
/-! long runs, counted -/
def m10 (a b c d : Tr) : List Tr := [a, b, c, d, .nil, .nil, .nil, .nil, .nil, .nil]
theorem firstN_m10 (x : Tr) : firstN x = m10 x .nil .nil .nil := rfl
theorem go_tr {pl : List Pt} {n : Nat} {s u : Nat × List Tr} (h1 : goM pl n s = some u) : ∀ {m : Nat} {v : Nat × List Tr}, goM pl m u = some v → goM pl (n + m) s = some v
  | 0, v, h2 => by
    cases Option.some.inj h2
    exact h1
  | m + 1, v, h2 => by
    obtain ⟨w, hw, h3⟩ := goM_pre h2
    show (goM pl (n + m) s).bind (stM pl) = some v
    rw [go_tr h1 hw]
    exact h3
theorem go_1 {pl : List Pt} {pt : Nat} {ns ms : List Tr} {q : Nat} {x : Pt} (h : pl[pt]? = some x) (g : x.1.grt ns = false) (hp : stepP x ns = q) (hn : stepN x ns = ms) : goM pl 1 (pt, ns) = some (q, ms) := by
  show stM pl (pt, ns) = some (q, ms)
  unfold stM
  dsimp only
  rw [h]
  show (if x.1.grt ns = true then none else some (stepP x ns, stepN x ns)) = _
  rw [g, hp, hn]
  rfl
theorem lk_t {d : Dd} {i j : Nat} {ns : List Tr} (hl : d.look = true) (hz : 0 < (nmA ns d.nm1).size) : stepP (d, [i, j]) ns = i ∧ stepN (d, [i, j]) ns = ns := by
  unfold stepP stepN
  rw [hl, if_pos rfl, if_pos rfl, if_pos hz]
  exact ⟨rfl, rfl⟩
theorem lk_f {d : Dd} {i j : Nat} {ns : List Tr} (hl : d.look = true) (hz : ¬ 0 < (nmA ns d.nm1).size) : stepP (d, [i, j]) ns = j ∧ stepN (d, [i, j]) ns = ns := by
  unfold stepP stepN
  rw [hl, if_pos rfl, if_pos rfl, if_neg hz]
  exact ⟨rfl, rfl⟩
theorem go_wt {pl : List Pt} {w a i j : Nat} {r : List Dd} {ns : List Tr} (h : pl[w]? = some (.wh a r, [i, j])) (hz : 0 < (nmA ns a).size) : goM pl 1 (w, ns) = some (i, ns) := by
  obtain ⟨e1, e2⟩ := lk_t (d := .wh a r) (i := i) (j := j) (ns := ns) rfl hz
  exact go_1 h rfl e1 e2
theorem go_wf {pl : List Pt} {w a i j : Nat} {r : List Dd} {ns : List Tr} (h : pl[w]? = some (.wh a r, [i, j])) (hz : nmA ns a = .nil) : goM pl 1 (w, ns) = some (j, ns) := by
  obtain ⟨e1, e2⟩ := lk_f (d := .wh a r) (i := i) (j := j) (ns := ns) rfl (by show ¬ 0 < (nmA ns a).size; rw [hz]; decide)
  exact go_1 h rfl e1 e2
theorem num_pos (k : Nat) : 0 < (num (k + 1)).size := by rw [num_size]; omega
/-- a loop that takes a number down -/
theorem cd1 {pl : List Pt} {w out : Nat} {r : List Dd} (h1 : pl[w]? = some (.wh 1 r, [w + 1, out])) (h2 : pl[w + 1]? = some (.take true 1 1, [w])) (x c d : Tr) : ∀ k, goM pl (2 * k + 1) (w, m10 x (num k) c d) = some (out, m10 x .nil c d)
  | 0 => go_wf h1 rfl
  | k + 1 => by
    have a1 := go_wt (ns := m10 x (num (k + 1)) c d) h1 (num_pos k)
    have a2 : goM pl 1 (w + 1, m10 x (num (k + 1)) c d) = some (w, m10 x (num k) c d) := go_1 h2 rfl rfl rfl
    have a3 := go_tr (go_tr a1 a2) (cd1 h1 h2 x c d k)
    rw [show 2 * (k + 1) + 1 = 1 + 1 + (2 * k + 1) by omega]
    exact a3
theorem cd2 {pl : List Pt} {w out : Nat} {r : List Dd} (h1 : pl[w]? = some (.wh 2 r, [w + 1, out])) (h2 : pl[w + 1]? = some (.take true 2 2, [w])) (x b d : Tr) : ∀ k, goM pl (2 * k + 1) (w, m10 x b (num k) d) = some (out, m10 x b .nil d)
  | 0 => go_wf h1 rfl
  | k + 1 => by
    have a1 := go_wt (ns := m10 x b (num (k + 1)) d) h1 (num_pos k)
    have a2 : goM pl 1 (w + 1, m10 x b (num (k + 1)) d) = some (w, m10 x b (num k) d) := go_1 h2 rfl rfl rfl
    have a3 := go_tr (go_tr a1 a2) (cd2 h1 h2 x b d k)
    rw [show 2 * (k + 1) + 1 = 1 + 1 + (2 * k + 1) by omega]
    exact a3
theorem cd3 {pl : List Pt} {w out : Nat} {r : List Dd} (h1 : pl[w]? = some (.wh 3 r, [w + 1, out])) (h2 : pl[w + 1]? = some (.take true 3 3, [w])) (x b c : Tr) : ∀ k, goM pl (2 * k + 1) (w, m10 x b c (num k)) = some (out, m10 x b c .nil)
  | 0 => go_wf h1 rfl
  | k + 1 => by
    have a1 := go_wt (ns := m10 x b c (num (k + 1))) h1 (num_pos k)
    have a2 : goM pl 1 (w + 1, m10 x b c (num (k + 1))) = some (w, m10 x b c (num k)) := go_1 h2 rfl rfl rfl
    have a3 := go_tr (go_tr a1 a2) (cd3 h1 h2 x b c k)
    rw [show 2 * (k + 1) + 1 = 1 + 1 + (2 * k + 1) by omega]
    exact a3
/-! the long one -/
def plLo (n : Nat) : List Pt := [(.told 1 (num 20), [1]), (.wh 1 inLo, [2, 6]), (.told 2 (num 97), [3]), (.wh 2 [.take true 2 2], [4, 5]), (.take true 2 2, [3]), (.take true 1 1, [1]), (.told 1 (num 17), [7]), (.wh 1 [.take true 1 1], [8, 9]), (.take true 1 1, [7])] ++ (List.range n).map fun i => (.take false 3 3, [10 + i])
theorem plan_lo2 : planR (loR 2) = plLo 2 := by
  simp [planR, loR, ahLo, inLo, plLo, layR, Dd.lay, manyR, Dd.many, flatR, Dd.flat, List.replicate]
  rfl
theorem plan_lo3 : planR (loR 3) = plLo 3 := by
  simp [planR, loR, ahLo, inLo, plLo, layR, Dd.lay, manyR, Dd.many, flatR, Dd.flat, List.replicate]
  rfl
theorem lo_out (n : Nat) (x d : Tr) : ∀ j, goM (plLo n) (198 * j + 1) (1, m10 x (num j) .nil d) = some (6, m10 x .nil .nil d)
  | 0 => go_wf (a := 1) (r := inLo) rfl rfl
  | j + 1 => by
    have a1 : goM (plLo n) 1 (1, m10 x (num (j + 1)) .nil d) = some (2, m10 x (num (j + 1)) .nil d) := go_wt (a := 1) (r := inLo) rfl (num_pos j)
    have a2 : goM (plLo n) 1 (2, m10 x (num (j + 1)) .nil d) = some (3, m10 x (num (j + 1)) (num 97) d) := go_1 (x := (.told 2 (num 97), [3])) rfl rfl rfl rfl
    have a3 := cd2 (pl := plLo n) (w := 3) (out := 5) rfl rfl x (num (j + 1)) d 97
    have a4 : goM (plLo n) 1 (5, m10 x (num (j + 1)) .nil d) = some (1, m10 x (num j) .nil d) := go_1 (x := (.take true 1 1, [1])) rfl rfl rfl rfl
    have a5 := go_tr (go_tr (go_tr (go_tr a1 a2) a3) a4) (lo_out n x d j)
    rw [show 198 * (j + 1) + 1 = 1 + 1 + (2 * 97 + 1) + 1 + (198 * j + 1) by omega]
    exact a5
theorem lo_run (n : Nat) (x : Tr) : goM (plLo n) 3998 (0, firstN x) = some (9, m10 x .nil .nil .nil) := by
  have a1 : goM (plLo n) 1 (0, firstN x) = some (1, m10 x (num 20) .nil .nil) := go_1 (x := (.told 1 (num 20), [1])) rfl rfl rfl rfl
  have a2 := lo_out n x .nil 20
  have a3 : goM (plLo n) 1 (6, m10 x .nil .nil .nil) = some (7, m10 x (num 17) .nil .nil) := go_1 (x := (.told 1 (num 17), [7])) rfl rfl rfl rfl
  have a4 := cd1 (pl := plLo n) (w := 7) (out := 9) rfl rfl x .nil .nil 17
  have h := go_tr (go_tr (go_tr a1 a2) a3) a4
  rw [show 1 + (198 * 20 + 1) + 1 + (2 * 17 + 1) = 3998 by decide] at h
  exact h
theorem f33 (x : Tr) (q : Nat) : stepN (.take false 3 3, [q]) (m10 x .nil .nil .nil) = m10 x .nil .nil .nil := rfl
theorem lo2_go (x : Tr) : goM (planR (loR 2)) 4000 (0, firstN x) = some (11, m10 x .nil .nil .nil) := by
  rw [plan_lo2]
  have a1 : goM (plLo 2) 1 (9, m10 x .nil .nil .nil) = some (10, m10 x .nil .nil .nil) := go_1 (x := (.take false 3 3, [10])) rfl rfl rfl rfl
  have a2 : goM (plLo 2) 1 (10, m10 x .nil .nil .nil) = some (11, m10 x .nil .nil .nil) := go_1 (x := (.take false 3 3, [11])) rfl rfl rfl rfl
  have h := go_tr (go_tr (lo_run 2 x) a1) a2
  rw [show 3998 + 1 + 1 = 4000 by decide] at h
  exact h
theorem lo3_go (x : Tr) : goM (planR (loR 3)) 4000 (0, firstN x) = some (11, m10 x .nil .nil .nil) := by
  rw [plan_lo3]
  have a1 : goM (plLo 3) 1 (9, m10 x .nil .nil .nil) = some (10, m10 x .nil .nil .nil) := go_1 (x := (.take false 3 3, [10])) rfl rfl rfl rfl
  have a2 : goM (plLo 3) 1 (10, m10 x .nil .nil .nil) = some (11, m10 x .nil .nil .nil) := go_1 (x := (.take false 3 3, [11])) rfl rfl rfl rfl
  have h := go_tr (go_tr (lo_run 3 x) a1) a2
  rw [show 3998 + 1 + 1 = 4000 by decide] at h
  exact h
theorem lo3_end (x : Tr) : goM (planR (loR 3)) 4001 (0, firstN x) = some (12, m10 x .nil .nil .nil) := by
  have h := lo3_go x
  rw [plan_lo3] at h ⊢
  have a1 : goM (plLo 3) 1 (11, m10 x .nil .nil .nil) = some (12, m10 x .nil .nil .nil) := go_1 (x := (.take false 3 3, [12])) rfl rfl rfl rfl
  have g := go_tr h a1
  rw [show 4000 + 1 = 4001 by decide] at g
  exact g
/-! the longer one -/
def plLr (n : Nat) : List Pt := [(.told 1 (num 11), [1]), (.wh 1 inLr, [2, 9]), (.told 2 (num 9), [3]), (.wh 2 leLr, [4, 8]), (.told 3 (num 48), [5]), (.wh 3 [.take true 3 3], [6, 7]), (.take true 3 3, [5]), (.take true 2 2, [3]), (.take true 1 1, [1]), (.told 1 (num 25), [10]), (.wh 1 [.take true 1 1], [11, 12]), (.take true 1 1, [10])] ++ (List.range n).map fun i => (.take false 3 3, [13 + i])
theorem plan_lr2 : planR (lrR 2) = plLr 2 := by
  simp [planR, lrR, ahLr, inLr, leLr, plLr, layR, Dd.lay, manyR, Dd.many, flatR, Dd.flat, List.replicate]
  rfl
theorem plan_lr3 : planR (lrR 3) = plLr 3 := by
  simp [planR, lrR, ahLr, inLr, leLr, plLr, layR, Dd.lay, manyR, Dd.many, flatR, Dd.flat, List.replicate]
  rfl
theorem lr_in (n : Nat) (x b : Tr) : ∀ j, goM (plLr n) (100 * j + 1) (3, m10 x b (num j) .nil) = some (8, m10 x b .nil .nil)
  | 0 => go_wf (a := 2) (r := leLr) rfl rfl
  | j + 1 => by
    have a1 : goM (plLr n) 1 (3, m10 x b (num (j + 1)) .nil) = some (4, m10 x b (num (j + 1)) .nil) := go_wt (a := 2) (r := leLr) rfl (num_pos j)
    have a2 : goM (plLr n) 1 (4, m10 x b (num (j + 1)) .nil) = some (5, m10 x b (num (j + 1)) (num 48)) := go_1 (x := (.told 3 (num 48), [5])) rfl rfl rfl rfl
    have a3 := cd3 (pl := plLr n) (w := 5) (out := 7) rfl rfl x b (num (j + 1)) 48
    have a4 : goM (plLr n) 1 (7, m10 x b (num (j + 1)) .nil) = some (3, m10 x b (num j) .nil) := go_1 (x := (.take true 2 2, [3])) rfl rfl rfl rfl
    have a5 := go_tr (go_tr (go_tr (go_tr a1 a2) a3) a4) (lr_in n x b j)
    rw [show 100 * (j + 1) + 1 = 1 + 1 + (2 * 48 + 1) + 1 + (100 * j + 1) by omega]
    exact a5
theorem lr_out (n : Nat) (x : Tr) : ∀ j, goM (plLr n) (904 * j + 1) (1, m10 x (num j) .nil .nil) = some (9, m10 x .nil .nil .nil)
  | 0 => go_wf (a := 1) (r := inLr) rfl rfl
  | j + 1 => by
    have a1 : goM (plLr n) 1 (1, m10 x (num (j + 1)) .nil .nil) = some (2, m10 x (num (j + 1)) .nil .nil) := go_wt (a := 1) (r := inLr) rfl (num_pos j)
    have a2 : goM (plLr n) 1 (2, m10 x (num (j + 1)) .nil .nil) = some (3, m10 x (num (j + 1)) (num 9) .nil) := go_1 (x := (.told 2 (num 9), [3])) rfl rfl rfl rfl
    have a3 := lr_in n x (num (j + 1)) 9
    have a4 : goM (plLr n) 1 (8, m10 x (num (j + 1)) .nil .nil) = some (1, m10 x (num j) .nil .nil) := go_1 (x := (.take true 1 1, [1])) rfl rfl rfl rfl
    have a5 := go_tr (go_tr (go_tr (go_tr a1 a2) a3) a4) (lr_out n x j)
    rw [show 904 * (j + 1) + 1 = 1 + 1 + (100 * 9 + 1) + 1 + (904 * j + 1) by omega]
    exact a5
theorem lr_run (n : Nat) (x : Tr) : goM (plLr n) 9998 (0, firstN x) = some (12, m10 x .nil .nil .nil) := by
  have a1 : goM (plLr n) 1 (0, firstN x) = some (1, m10 x (num 11) .nil .nil) := go_1 (x := (.told 1 (num 11), [1])) rfl rfl rfl rfl
  have a2 := lr_out n x 11
  have a3 : goM (plLr n) 1 (9, m10 x .nil .nil .nil) = some (10, m10 x (num 25) .nil .nil) := go_1 (x := (.told 1 (num 25), [10])) rfl rfl rfl rfl
  have a4 := cd1 (pl := plLr n) (w := 10) (out := 12) rfl rfl x .nil .nil 25
  have h := go_tr (go_tr (go_tr a1 a2) a3) a4
  rw [show 1 + (904 * 11 + 1) + 1 + (2 * 25 + 1) = 9998 by decide] at h
  exact h
theorem lr2_go (x : Tr) : goM (planR (lrR 2)) 10000 (0, firstN x) = some (14, m10 x .nil .nil .nil) := by
  rw [plan_lr2]
  have a1 : goM (plLr 2) 1 (12, m10 x .nil .nil .nil) = some (13, m10 x .nil .nil .nil) := go_1 (x := (.take false 3 3, [13])) rfl rfl rfl rfl
  have a2 : goM (plLr 2) 1 (13, m10 x .nil .nil .nil) = some (14, m10 x .nil .nil .nil) := go_1 (x := (.take false 3 3, [14])) rfl rfl rfl rfl
  have h := go_tr (go_tr (lr_run 2 x) a1) a2
  rw [show 9998 + 1 + 1 = 10000 by decide] at h
  exact h
theorem lr3_go (x : Tr) : goM (planR (lrR 3)) 10000 (0, firstN x) = some (14, m10 x .nil .nil .nil) := by
  rw [plan_lr3]
  have a1 : goM (plLr 3) 1 (12, m10 x .nil .nil .nil) = some (13, m10 x .nil .nil .nil) := go_1 (x := (.take false 3 3, [13])) rfl rfl rfl rfl
  have a2 : goM (plLr 3) 1 (13, m10 x .nil .nil .nil) = some (14, m10 x .nil .nil .nil) := go_1 (x := (.take false 3 3, [14])) rfl rfl rfl rfl
  have h := go_tr (go_tr (lr_run 3 x) a1) a2
  rw [show 9998 + 1 + 1 = 10000 by decide] at h
  exact h
theorem lr3_end (x : Tr) : goM (planR (lrR 3)) 10001 (0, firstN x) = some (15, m10 x .nil .nil .nil) := by
  have h := lr3_go x
  rw [plan_lr3] at h ⊢
  have a1 : goM (plLr 3) 1 (14, m10 x .nil .nil .nil) = some (15, m10 x .nil .nil .nil) := go_1 (x := (.take false 3 3, [15])) rfl rfl rfl rfl
  have g := go_tr h a1
  rw [show 10000 + 1 = 10001 by decide] at g
  exact g
/-- where the end is come to just now -/
theorem said_end {r : List Dd} {n b : Nat} {v : Nat × List Tr} (h : goM (planR r) b (0, firstN (num n)) = some v) (hv : (planR r)[v.1]? = none) : (saidR r n b).1 = .ended := by
  have e := runM_go b 0 0 (firstN (num n)) 0 v h
  rw [Nat.add_zero] at e
  rw [saidR, e, runM_end hv]
theorem said_open {r : List Dd} {n b : Nat} {v : Nat × List Tr} {x : Pt} (h : goM (planR r) b (0, firstN (num n)) = some v) (hv : (planR r)[v.1]? = some x) : (saidR r n b).1 ≠ .ended := by
  have e := runM_go b 0 0 (firstN (num n)) 0 v h
  rw [Nat.add_zero] at e
  rw [saidR, e, runM_open hv]
  exact fun z => nomatch z
theorem el_no {r : List Dd} {m bud : Nat} {v : Nat × List Tr} (h : goM (planR r) m (0, firstN (num (manyR r + 3))) = some v) (hv : (planR r)[v.1]? = none) : elR r bud = .no := by
  unfold elR elM
  rw [if_neg (ended_how h hv bud)]
  split
  · rfl
  · rw [firstC_none (ended_clo h hv 1 300), firstC_none (ended_clo h hv 2 300), firstC_none (ended_clo h hv 3 300), firstC]
end Js

set_option Elab.async false
set_option linter.all false
set_option maxRecDepth 100000
set_option maxHeartbeats 2000000
namespace Js
open PySem L2
theorem lo2_said (n : Nat) : (saidR (loR 2) n 4000).1 = .ended := said_end (lo2_go _) (by rw [plan_lo2]; rfl)
theorem lo3_said (n : Nat) : (saidR (loR 3) n 4000).1 ≠ .ended := said_open (x := (.take false 3 3, [12])) (lo3_go _) (by rw [plan_lo3]; rfl)
theorem lr2_said (n : Nat) : (saidR (lrR 2) n 10000).1 = .ended := said_end (lr2_go _) (by rw [plan_lr2]; rfl)
theorem lr3_said (n : Nat) : (saidR (lrR 3) n 10000).1 ≠ .ended := said_open (x := (.take false 3 3, [15])) (lr3_go _) (by rw [plan_lr3]; rfl)
theorem lo3_no (b : Nat) : elR (loR 3) b = .no := el_no (lo3_end _) (by rw [plan_lo3]; rfl)
theorem lr3_no (b : Nat) : elR (lrR 3) b = .no := el_no (lr3_end _) (by rw [plan_lr3]; rfl)
theorem lo_dm2 : deepR (loR 2) ≤ 8 ∧ manyR (loR 2) ≤ 1000 := by decide +kernel
theorem lo_dm3 : deepR (loR 3) ≤ 8 ∧ manyR (loR 3) ≤ 1000 := by decide +kernel
theorem lr_dm2 : deepR (lrR 2) ≤ 8 ∧ manyR (lrR 2) ≤ 1000 := by decide +kernel
theorem lr_dm3 : deepR (lrR 3) ≤ 8 ∧ manyR (lrR 3) ≤ 1000 := by decide +kernel
end Js

set_option Elab.async false
set_option linter.all false
set_option maxRecDepth 100000
set_option maxHeartbeats 2000000
/-! defs called by keywords in the order turned about; defs with defaults -/
namespace Js
open PySem PySem.Spec PyProof.Rows L2
theorem vals_rev {zs : List V} {ws : List Value} (h : Vals zs ws) : Vals zs.reverse ws.reverse := by
  induction h with
  | nil => exact .nil
  | cons h t ih =>
    rw [List.reverse_cons, List.reverse_cons]
    exact Vals.append ih (.cons h .nil)
def DefV (P : Program) (w : World) (K : PySem.W.Frag) (mg : Str → Option Value) (base : Heap) (x : Str) (k : Nat) (ps ks : List Str) (sp : Sp) : Prop :=
  ∃ f fd, mg x = some (.ref f) ∧ PySem.W.keepIn K (.ref f) = true ∧ FnOk P w K mg base CX0 k f fd ps sp ∧ KBn K fd ps 0 ks (fun _ ws => ws.reverse) (fun _ zs => zs.reverse)
theorem pe_defV {X : Cx} {x : Str} {p pos : Pos} {k : Nat} {ps ks : List Str} {sp : Sp} {kws : List Keyword} {tk : TA} (D : DefV X.prog X.w X.K X.mg X.base x k ps ks sp) (hr : Room k X.A) (hg : Gl X x) (hkw : PK X kws tk)
    (hall : (backToKw pos (keywordEach kws X.env)).all (·.1.isSome) = true := by rfl) (hks : (backToKw pos (keywordEach kws X.env)).filterMap (·.1) = ks := by rfl)
    (hdb : (x == ("__debug__" : Str)) = false := by decide) (hpl : ((backTo pos (starEach [] X.env)).any (·.1) || (backToKw pos (keywordEach kws X.env)).any (·.1.isNone)) = false := by rfl) :
    PE X (.Call (.Name x p) [] kws pos) (tCallN 0 ks.length sp (fun _ zs => zs.reverse) E0 tNil tk) := by
  obtain ⟨f, fd, hm, hk, F, hb⟩ := D
  exact pe_callN0 F hr hg hm hk hb pass0 hkw hall hks hdb hpl
section
variable {K : PySem.W.Frag} {x qual : Str} {params : Arguments} {body : List Stmt} {scope : Scope} {dvs : List V} {kws : List (Str × V)} {f : Addr} {fd : FuncData} {ps : List Str}
theorem kb_dfltV (F : FunD K x qual params body scope dvs kws f fd) (ks : List Str) (hd : dvs ≠ [])
    (h : ∀ (T : Addr) (kV doc pm : Value) (an : Option Addr) (cdv ct : Value) (its ws : List Value), its.length = dvs.length → ws.length = ks.length →
      ∃ k, bindArgs (PySem.W.fnOf x qual params body scope (.ref T) kV doc pm an cdv ct) ⟨[], ks.zip ws⟩ = seqItems? (.ref T) >>= k ∧ k (some its.toArray) = pure (ps.zip ws.reverse)) : KBn K fd ps 0 ks (fun _ ws => ws.reverse) (fun _ zs => zs.reverse) := by
  obtain ⟨oc, od, dV, kV, doc, pm, an, cdv, ct, osl, rfl, lk, hcd, hD, hK⟩ := F.ex
  rcases hD with ⟨e, _⟩ | ⟨_, T, o, its, m, rfl, lT, oT, rT⟩
  · exact absurd e hd
  · refine ⟨fun s us ws X l1 l2 => ?_, fun r1 r2 => vals_rev r2⟩
    cases List.length_eq_zero_iff.mp l1
    obtain ⟨k, e1, e2⟩ := h T kV doc pm an cdv ct its ws rT.length.symm l2
    refine BindsTo.of_looks fun M => ?_
    rw [e1]
    exact looks_items X lT oT (.of_pure e2)
end
/-- a def with its defaults: what it is called with, and what fills up -/
structure DefD (P : Program) (w : World) (K : PySem.W.Frag) (mg : Str → Option Value) (base : Heap) (x : Str) (k : Nat) (ps : List Str) (dvs : List V) (sp : Sp) : Prop where
  ex : ∃ f fd ds, mg x = some (.ref f) ∧ PySem.W.keepIn K (.ref f) = true ∧ FnOk P w K mg base CX0 k f fd ps sp ∧ Binds K fd ps ds ∧ Vals dvs ds
theorem pe_defD {X : Cx} {x : Str} {p pos : Pos} {k : Nat} {ps : List Str} {dvs : List V} {sp : Sp} {e : Expr} {es : List Expr} {t : TA} (D : DefD X.prog X.w X.K X.mg X.base x k ps dvs sp) (hr : Room k X.A) (hg : Gl X x) (ha : PA X (e :: es) t)
    (hdb : (x == ("__debug__" : Str)) = false := by decide) (he : starEach (e :: es) X.env = (false, eval e X.env) :: starEach es X.env := by rfl) (hpl : (backTo pos (starEach es X.env)).any (·.1) = false := by rfl) :
    PE X (.Call (.Name x p) (e :: es) [] pos) (tCall sp dvs E0 t) := by
  obtain ⟨f, fd, ds, hm, hk, F, hb, hd⟩ := D.ex
  exact pe_call F hr hg hm hk hb hd pass0 ha hdb he hpl
end Js

set_option Elab.async false
set_option linter.all false
set_option maxRecDepth 100000
set_option maxHeartbeats 2000000
/-! defs called by some values and then by keywords, in their order -/
namespace Js
open PySem PySem.Spec PyProof.Rows L2
def DefM (P : Program) (w : World) (K : PySem.W.Frag) (mg : Str → Option Value) (base : Heap) (x : Str) (k n : Nat) (ps ks : List Str) (sp : Sp) : Prop :=
  ∃ f fd, mg x = some (.ref f) ∧ PySem.W.keepIn K (.ref f) = true ∧ FnOk P w K mg base CX0 k f fd ps sp ∧ KBn K fd ps n ks (fun us ws => us ++ ws) (fun vs zs => vs ++ zs)
theorem pe_defM {X : Cx} {x : Str} {p pos : Pos} {k n : Nat} {ps ks : List Str} {sp : Sp} {e : Expr} {es : List Expr} {kws : List Keyword} {t tk : TA} (D : DefM X.prog X.w X.K X.mg X.base x k n ps ks sp) (hr : Room k X.A) (hg : Gl X x) (ha : PA X (e :: es) t) (hkw : PK X kws tk)
    (hall : (backToKw pos (keywordEach kws X.env)).all (·.1.isSome) = true := by rfl) (hks : (backToKw pos (keywordEach kws X.env)).filterMap (·.1) = ks := by rfl)
    (hdb : (x == ("__debug__" : Str)) = false := by decide) (he : starEach (e :: es) X.env = (false, eval e X.env) :: starEach es X.env := by rfl)
    (hpl : ((backTo pos (starEach (e :: es) X.env)).any (·.1) || (backToKw pos (keywordEach kws X.env)).any (·.1.isNone)) = false := by rfl) :
    PE X (.Call (.Name x p) (e :: es) kws pos) (tCallN n ks.length sp (fun vs zs => vs ++ zs) E0 t tk) := by
  obtain ⟨f, fd, hm, hk, F, hb⟩ := D
  exact pe_callN F hr hg hm hk hb pass0 ha hkw hall hks hdb he hpl
section
variable {K : PySem.W.Frag} {x qual : Str} {params : Arguments} {body : List Stmt} {scope : Scope} {dvs : List V} {kws : List (Str × V)} {f : Addr} {fd : FuncData} {ps : List Str}
theorem kb_dfltM (F : FunD K x qual params body scope dvs kws f fd) (n : Nat) (ks : List Str) (hd : dvs ≠ [])
    (h : ∀ (T : Addr) (kV doc pm : Value) (an : Option Addr) (cdv ct : Value) (its us ws : List Value), its.length = dvs.length → us.length = n → ws.length = ks.length →
      ∃ k, bindArgs (PySem.W.fnOf x qual params body scope (.ref T) kV doc pm an cdv ct) ⟨us, ks.zip ws⟩ = seqItems? (.ref T) >>= k ∧ k (some its.toArray) = pure (ps.zip (us ++ ws))) : KBn K fd ps n ks (fun us ws => us ++ ws) (fun vs zs => vs ++ zs) := by
  obtain ⟨oc, od, dV, kV, doc, pm, an, cdv, ct, osl, rfl, lk, hcd, hD, hK⟩ := F.ex
  rcases hD with ⟨e, _⟩ | ⟨_, T, o, its, m, rfl, lT, oT, rT⟩
  · exact absurd e hd
  · refine ⟨fun s us ws X l1 l2 => ?_, fun r1 r2 => Vals.append r1 r2⟩
    obtain ⟨k, e1, e2⟩ := h T kV doc pm an cdv ct its us ws rT.length.symm l1 l2
    refine BindsTo.of_looks fun M => ?_
    rw [e1]
    exact looks_items X lT oT (.of_pure e2)
end
end Js

set_option Elab.async false
set_option linter.all false
set_option maxRecDepth 100000
set_option maxHeartbeats 2000000
namespace Js
open PySem L2
abbrev sCounted : Stmt := top 12
def cnt : Tr → Option Nat
  | .nil => some 0
  | .pr .nil r => (cnt r).map (· + 1)
  | .pr (.pr _ _) _ => none
def cntV : Option Nat → V
  | none => .non
  | some n => .int (n : Nat)
def spCounted (C : Addr) : Sp := fun vs H Q _ => ∃ a t, vs = [.ref a] ∧ Th C H a t ∧ Q (cntV (cnt t)) H
section
variable {P : Program} {w : World} {K : PySem.W.Frag} {mg : Str → Option Value} {base : Heap} {C fI : Addr} {fdI : FuncData}
theorem scCt : FnScope ["thing", "many", "rest"] ["thing"] (defScope sCounted) := ⟨rfl, rfl, rfl, by decide +kernel, rfl, by decide +kernel, by decide +kernel⟩
theorem ok_counted {f : Addr} {fd : FuncData} (F : Fun K "counted" "counted" sCounted f fd) (T : Txt K mg C) : FnOk P w K mg base CX0 1 f fd ["thing"] (spCounted C) := by
  refine F.ok scCt (fun vs H Q E h => ?_) (fun cdv A outer s H vs Q E hr h => ?_)
  · obtain ⟨a, t, rfl, _⟩ := h
    rfl
  · obtain ⟨a, t, rfl, ha, k⟩ := h
    refine ⟨_, pss_cons (ps_set (i := 1) scCt.nd rfl (Or.inl rfl) pe_int) (pss_cons (ps_set (i := 2) scCt.nd rfl (Or.inl rfl) (pv 0))
      (pss_cons (ps_while PassesOwn.never (pt_truth (pe_fld (pv 2) rfl) (by intro _; rfl))
        (pss_cons (ps_if (pt_truth (pe_fld (pe_fld (pv 2) rfl) rfl) (by intro _; rfl)) (pss_one (ps_ret pe_non)) pss_nil)
        (pss_cons (ps_aug (i := 1) scCt.nd rfl (Or.inl rfl) pe_int ip_add) (pss_one (ps_set (i := 2) scCt.nd rfl (Or.inl rfl) (pe_fld (pv 2) rfl))))))
      (pss_one (ps_ret (pv 1))))), ?_⟩
    refine ⟨_, rfl, ?_⟩
    refine ⟨fun m σ H' => H' = H ∧ ∃ (b : Addr) (u : Tr) (n : Nat), σ = [some (.ref a), some (.int (n : Nat)), some (.ref b)] ∧ Th C H b u ∧ m = u.size ∧ cnt t = (cnt u).map (· + n), ⟨_, rfl, a, t, 0, rfl, ha, rfl, ?_⟩, ?_⟩
    · cases cnt t <;> simp
    · rintro m σ H' ⟨rfl, b, u, n, rfl, hb, rfl, hc⟩
      cases hb with
      | nil h =>
        refine ⟨_, rfl, _, _, _, _, _, rfl, h, T.cl, T.nZ, tf_size _ _ _, false, rfl, ?_⟩
        refine iteF ⟨_, rfl, ?_⟩
        rw [hc] at k
        simp only [cnt, Option.map_some, cntV, Nat.zero_add] at k
        exact k
      | @pr _ dx b1 c1 l r h hl hr' =>
        refine ⟨_, rfl, _, _, _, _, _, rfl, h, T.cl, T.nZ, tf_size _ _ _, true, pr_tru l r, ?_⟩
        refine iteT ⟨fun σ' H2 => ∃ m', m' < (Tr.pr l r).size ∧ _, fun σ' H2 z => z, ?_⟩
        obtain ⟨dz, f2, g2, h2⟩ := hl.obj
        refine ⟨_, rfl, _, _, _, _, _, rfl, h, T.cl, T.nF, tf_first _ _ _, _, _, _, _, _, rfl, h2, T.cl, T.nZ, tf_size _ _ _, _, rfl, ?_⟩
        cases l with
        | nil =>
          refine iteF ?_
          refine ⟨_, rfl, _, _, rfl, rfl, ?_⟩
          refine ⟨_, rfl, _, _, _, _, _, rfl, h, T.cl, T.nS, tf_second _ _ _, ?_⟩
          refine ⟨r.size, by simp only [Tr.size]; omega, rfl, c1, r, n + 1, ?_, hr', rfl, ?_⟩
          · simp
          · rw [hc, cnt]
            cases cnt r with
            | none => rfl
            | some q => simp only [Option.map_some, Option.some.injEq]; omega
        | pr l1 l2 =>
          have e := pr_tru l1 l2
          rw [← e]
          refine iteT ?_
          rw [hc] at k
          exact k
end
end Js

set_option Elab.async false
set_option linter.all false
set_option maxRecDepth 100000
set_option maxHeartbeats 2000000
namespace Js
open PySem L2
open PySem PySem.Spec PyProof.Rows L2
abbrev sLaw : Stmt := top 75
def spLaw (K : PySem.W.Frag) : Sp := fun vs H Q _ => ∃ (a : Addr) (ns : List Int), vs = [.ref a] ∧ SqL K H a (ns.map V.int) ∧ ns.length ≤ 63 ∧ ∀ H', Q (.bl true) H'

theorem bag_ne6 {H : Hp} {p a : Addr} (b : BagOk H p) (n : H a = none) : a ≠ p := fun z => by
  obtain ⟨xs, h⟩ := b.some
  rw [z, h] at n
  cases n
theorem lt_wd {K : PySem.W.Frag} {C : Addr} {H0 H : Hp} {a m : Addr} {r : List Dd} {bud : Nat} {wd : Str} {vp : V} (h : LtD K C H0 H a m r bud wd vp) (e : (saidR r (manyR r + 3) bud).1 ≠ .ended) : wd = elW (elR r bud) := by
  obtain ⟨z, _, _, h3⟩ := h.2 e
  exact h3
theorem said_nil (n b : Nat) : (saidR [] n b).1 = .ended := by rw [saidR, runM_end rfl]
theorem rep_dm : deepR (List.replicate (190 : Int).toNat (Dd.take false 0 0)) ≤ 8 ∧ manyR (List.replicate (190 : Int).toNat (Dd.take false 0 0)) = 190 := by
  have h : ∀ n : Nat, deepR (List.replicate n (Dd.take false 0 0)) = 0 ∧ manyR (List.replicate n (Dd.take false 0 0)) = n := by
    intro n
    induction n with
    | zero => exact ⟨rfl, rfl⟩
    | succ n ih => exact ⟨by rw [List.replicate_succ, deepR, ih.1, Dd.deep]; rfl, by rw [List.replicate_succ, many_cons, ih.2, many_take]; omega⟩
  obtain ⟨h1, h2⟩ := h (190 : Int).toNat
  exact ⟨by rw [h1]; decide, h2⟩
/-- T6, programs too; all alike -/
def Y7 (K : PySem.W.Frag) (C CP : Addr) : Tells := fun x y r H => r = true ∧ (T6 K C x y true H ∨ DPg K C CP x y true H)
def Y8 (K : PySem.W.Frag) (C CP : Addr) : Tells := fun x y r H => r = true ∧ ((T6 K C x y true H ∨ DPg K C CP x y true H) ∨ TTup K (Y7 K C CP) x y true H)
theorem mon_y7 {K : PySem.W.Frag} {C CP : Addr} : MonT (Y7 K C CP) := fun x y r H H' s d => ⟨d.1, d.2.imp (mon_x6 _ _ _ _ _ s) (DPg_mon _ _ _ _ _ s)⟩
theorem mon_y8 {K : PySem.W.Frag} {C CP : Addr} : MonT (Y8 K C CP) := fun x y r H H' s d => ⟨d.1, d.2.imp (fun h => h.imp (mon_x6 _ _ _ _ _ s) (DPg_mon _ _ _ _ _ s)) (fun h => monT_tup mon_y7 _ _ _ _ _ s h)⟩
theorem eqT_y7 {X : Cx} {C CP : Addr} (S : Spc X.prog X.w X.K X.mg X.base C "__eq__" 2 ["self", "other"] (spEqT C)) (SP : Spc X.prog X.w X.K X.mg X.base CP "__eq__" 21 ["self", "other"] (spPEq X.K C CP)) : EqT X 21 (Y7 X.K C CP) := fun A pins s σ H x y u v r sb I rx ry d => by
  obtain ⟨rfl, d⟩ := d
  exact (EqT.or ((eqT_x6 S).mono (by decide)) (eqT_P SP)) A pins s σ H x y u v true sb I rx ry d
theorem eqT_y8 {X : Cx} {C CP : Addr} (S : Spc X.prog X.w X.K X.mg X.base C "__eq__" 2 ["self", "other"] (spEqT C)) (SP : Spc X.prog X.w X.K X.mg X.base CP "__eq__" 21 ["self", "other"] (spPEq X.K C CP)) : EqT X 22 (Y8 X.K C CP) := fun A pins s σ H x y u v r sb I rx ry d => by
  obtain ⟨rfl, d | d⟩ := d
  · exact ((EqT.or ((eqT_x6 S).mono (by decide)) (eqT_P SP)).mono (by decide)) A pins s σ H x y u v true sb I rx ry d
  · have h : RcT X .Eq id 22 (fun x y r H => r = true ∧ TTup X.K (Y7 X.K C CP) x y true H) := fun A pins s σ H x y u v r sb I rx ry d => by
      obtain ⟨rfl, d⟩ := d
      exact (rcT_tup_eq mon_y7 (eqT_y7 S SP)) A pins s σ H x y u v true sb I rx ry d
    exact (h.eqT (fun _ _ _ _ d => let ⟨_, a, b, _, _, _, hx, hy, _⟩ := d; ⟨a, b, hx, hy⟩) (fun _ _ _ _ _ _ _ d => d.1)) A pins s σ H x y u v true sb I rx ry ⟨rfl, d⟩
theorem LtD.same {K : PySem.W.Frag} {C : Addr} {H0 H H' : Hp} {a m : Addr} {r : List Dd} {bud : Nat} {wd : Str} {vp : V} (s : Same H H') (h : LtD K C H0 H a m r bud wd vp) : LtD K C H0 H' a m r bud wd vp := by
  refine ⟨fun e => ?_, fun e => ?_⟩
  · obtain ⟨h1, q, h2, h3⟩ := h.1 e
    exact ⟨h1, q, h2, sqt_kt (KT.of s) h3⟩
  · obtain ⟨z, h1, h2, h3⟩ := h.2 e
    exact ⟨z, h1.same s, h2.same s, h3⟩
theorem lt_eq {K : PySem.W.Frag} {C CP : Addr} {H0 H1 H : Hp} {a m1 m2 : Addr} {r : List Dd} {bud : Nat} {w1 w2 : Str} {v1 v2 : V} (h1 : LtD K C H0 H a m1 r bud w1 v1) (h2 : LtD K C H1 H a m2 r bud w2 v2) (hnz : (num (manyR r + 3)).size ≤ 4000) (p1 : PgAt K C CP H m1 (lateR r (num (manyR r + 3)))) (p2 : PgAt K C CP H m2 (lateR r (num (manyR r + 3)))) : w1 = w2 ∧ ((T6 K C v1 v2 true H ∨ DPg K C CP v1 v2 true H) ∨ TTup K (Y7 K C CP) v1 v2 true H) := by
  by_cases e : (saidR r (manyR r + 3) bud).1 = .ended
  · obtain ⟨rfl, q1, rfl, hq1⟩ := h1.1 e
    obtain ⟨rfl, q2, rfl, hq2⟩ := h2.1 e
    exact ⟨rfl, .inr ⟨q1, q2, _, _, [true, true, true], rfl, rfl, hq1, hq2, prs_cons ⟨rfl, .inl (.inl (.inl ⟨rfl, rfl, by decide +kernel⟩))⟩ (fun _ => prs_cons ⟨rfl, .inl (.inl (.inr ⟨_, rfl, rfl, rfl⟩))⟩ (fun _ => prs_cons ⟨rfl, .inr ⟨m1, m2, _, _, rfl, rfl, p1, p2, (decide_eq_true rfl).symm⟩⟩ (fun _ => prs_nil) rfl) rfl) rfl, rfl⟩⟩
  · obtain ⟨z1, hz1, hE1, rfl⟩ := h1.2 e
    obtain ⟨z2, hz2, hE2, rfl⟩ := h2.2 e
    refine ⟨rfl, ?_⟩
    cases hel : elR r bud with
    | no =>
      rw [hel] at hE1 hE2
      cases hE1
      cases hE2
      exact .inl (.inl (.inl (.inl ⟨rfl, rfl, by decide +kernel⟩)))
    | again e l =>
      rw [hel] at hE1 hE2
      obtain ⟨q1, rfl, k1⟩ := hE1
      obtain ⟨q2, rfl, k2⟩ := hE2
      exact .inr ⟨q1, q2, _, _, [true, true, true, true, true], rfl, rfl, k1, k2, prs_cons ⟨rfl, .inl (.inl (.inl ⟨rfl, rfl, by decide +kernel⟩))⟩ (fun _ => prs_cons ⟨rfl, .inl (.inl (.inr ⟨_, rfl, rfl, rfl⟩))⟩ (fun _ => prs_cons ⟨rfl, .inl (.inr (.inl ⟨z1, z2, _, _, rfl, rfl, hz1, hz2, hnz, (decide_eq_true rfl).symm⟩))⟩ (fun _ => prs_cons ⟨rfl, .inl (.inl (.inl ⟨rfl, rfl, by simp [eqV]⟩))⟩ (fun _ => prs_cons ⟨rfl, .inl (.inl (.inl ⟨rfl, rfl, by simp [eqV]⟩))⟩ (fun _ => prs_nil) rfl) rfl) rfl) rfl) rfl, rfl⟩
    | closed d F =>
      have hF := elR_ok hel
      rw [hel] at hE1 hE2
      obtain ⟨q1, l1, ws1, rfl, k1, _, g11, g12⟩ := hE1
      obtain ⟨q2, l2, ws2, rfl, k2, _, g21, g22⟩ := hE2
      exact .inr ⟨q1, q2, _, _, [true, true, true, true, true], rfl, rfl, k1, k2, prs_cons ⟨rfl, .inl (.inl (.inl ⟨rfl, rfl, by decide +kernel⟩))⟩ (fun _ => prs_cons ⟨rfl, .inl (.inl (.inr ⟨_, rfl, rfl, rfl⟩))⟩ (fun _ => prs_cons ⟨rfl, .inl (.inr (.inl ⟨z1, z2, _, _, rfl, rfl, hz1, hz2, hnz, (decide_eq_true rfl).symm⟩))⟩ (fun _ => prs_cons ⟨rfl, .inl (.inl (.inl ⟨rfl, rfl, by simp [eqV]⟩))⟩ (fun _ => prs_cons ⟨rfl, .inl (.inr (.inr ⟨l1, l2, ws1, ws2, F, rfl, rfl, g11, g21, g12, g22, hF, rfl⟩))⟩ (fun _ => prs_nil) rfl) rfl) rfl) rfl) rfl, rfl⟩
theorem same_kb6 {p : Addr} {H H1 H' : Hp} (s : Same H H1) (k : KB p H1 H') (n : H p = none) : Same H H' := fun x o h => k x o (fun z => by rw [z, n] at h; cases h) (s x o h)
theorem mult25 (n : Nat) : 2 ≤ (if (if ((n : Nat) : Int) < 5 then ((n : Nat) : Int) else 5) > 2 then (if ((n : Nat) : Int) < 5 then ((n : Nat) : Int) else 5) else 2) ∧ (if (if ((n : Nat) : Int) < 5 then ((n : Nat) : Int) else 5) > 2 then (if ((n : Nat) : Int) < 5 then ((n : Nat) : Int) else 5) else 2) ≤ 5 := by
  constructor
  · split <;> omega
  · split <;> split <;> omega
theorem pe_defK6 {X : Cx} {x : Str} {p pos : Pos} {k : Nat} {ps ks : List Str} {sp : Sp} {kws : List Keyword} {tk : TA} (D : DefM X.prog X.w X.K X.mg X.base x k 0 ps ks sp) (hr : Room k X.A) (hg : Gl X x) (hkw : PK X kws tk)
    (hall : (backToKw pos (keywordEach kws X.env)).all (·.1.isSome) = true := by rfl) (hks : (backToKw pos (keywordEach kws X.env)).filterMap (·.1) = ks := by rfl)
    (hdb : (x == ("__debug__" : Str)) = false := by decide) (hpl : ((backTo pos (starEach [] X.env)).any (·.1) || (backToKw pos (keywordEach kws X.env)).any (·.1.isNone)) = false := by rfl) :
    PE X (.Call (.Name x p) [] kws pos) (tCallN 0 ks.length sp (fun us zs => us ++ zs) E0 tNil tk) := by
  obtain ⟨f, fd, hm, hk, F, hb⟩ := D
  exact pe_callN0 F hr hg hm hk hb pass0 hkw hall hks hdb hpl
section
variable {P : Program} {w : World} {K : PySem.W.Frag} {mg : Str → Option Value} {base : Heap} {C CP fI fP : Addr} {fdI fdP : FuncData}
theorem scL : FnScope ["_law_script", "_law_k", "_law_bag_here", "_law_one", "_law_other", "_law_asker", "_law_limit"] ["_law_script"] (defScope sLaw) := ⟨rfl, rfl, rfl, by decide +kernel, rfl, by decide +kernel, by decide +kernel⟩
theorem ok_law {f : Addr} {fd : FuncData} (F : Fun K "law" "law" sLaw f fd) (B : Blt mg) (TP : TxtP K mg CP) (MP : MakerP P w K mg base C CP fP fdP) (SE : Spc P w K mg base C "__eq__" 2 ["self", "other"] (spEqT C)) (SPE : Spc P w K mg base CP "__eq__" 21 ["self", "other"] (spPEq K C CP)) (DB : Def P w K mg base "_law_bag" 1 ["_law_script", "_law_at"] (spBag K)) (DTk : Def P w K mg base "_law_take" 1 ["_law_bag_here", "_law_many"] spTake) (DBo : Def P w K mg base "_law_bounder" 16 ["_law_bag_here"] (spBo6 K C CP)) (DRi : Def P w K mg base "_law_right" 21 ["_law_asker", "_law_limit"] (spRi6 K C CP))
    (DLo : Def P w K mg base "_law_long" 4 ["_law_more"] (spLo6 K C)) (DLr : Def P w K mg base "_law_longer" 4 ["_law_more"] (spLr6 K C)) (DLt : Def P w K mg base "late" 16 ["bounder", "budget"] (spLate K C CP)) (DLt4 : DefD P w K mg base "late" 16 ["bounder", "budget"] [.int 4000] (spLate K C CP)) (KLt : DefM P w K mg base "late" 16 0 ["bounder", "budget"] ["bounder", "budget"] (spLate K C CP)) (DCt : Def P w K mg base "counted" 1 ["thing"] (spCounted C)) : FnOk P w K mg base CX0 25 f fd ["_law_script"] (spLaw K) := by
  refine F.ok scL (fun vs H Q E h => ?_) (fun cdv A outer s H vs Q E hr h => ?_)
  · obtain ⟨a, ns, rfl, _⟩ := h
    rfl
  · obtain ⟨a, ns, rfl, hS, hlen, k⟩ := h
    have hr1 : Room 1 _ := hr.mono (by decide)
    have hr4 : Room 4 _ := hr.mono (by decide)
    have hr15 : Room 15 _ := hr.mono (by decide)
    have hr16 : Room 16 _ := hr.mono (by decide)
    have hr21 : Room 21 _ := hr.mono (by decide)
    have hr24 : Room 23 _ := hr.mono (by decide)
    refine ⟨_, pss_cons (ps_for PassesOwn.never rfl (pi_range1 rfl B.range (pa_cons (pe_callB (call_max2 rfl) (by rfl) B.max (by decide +kernel) (pa_cons pe_int (pa_cons (pe_callB (call_min2 rfl) (by rfl) B.min (by decide +kernel) (pa_cons pe_int (pa_cons (pe_callB call_len_seq (by rfl) B.len PySem.boot_len (pa_cons (pv 0) pa_nil)) pa_nil))) pa_nil))) pa_nil)) (pg_name (i := 1) scL.nd rfl (Or.inl rfl)) (pss_cons (ps_set (i := 2) scL.nd rfl (Or.inl rfl) (pe_def DB hr1 rfl (pa_cons (pv 0) (pa_cons (pv 1) pa_nil)))) (pss_cons (ps_par (i := 3) (j := 4) (by rfl) scL.nd rfl rfl (by decide) rfl rfl (pa_cons (pe_def DBo hr16 rfl (pa_cons (pv 2) pa_nil)) (pa_cons (pe_def DBo hr16 rfl (pa_cons (pv 2) pa_nil)) pa_nil)) (by rfl)) (pss_cons (ps_for PassesOwn.never rfl (pi_list (pe_lst (pa_cons (pe_tup (pa_cons (pv 3) (pa_cons (pe_ix (r := rIxL K) ix_list (pe_lst (pa_cons pe_int (pa_cons pe_int (pa_cons pe_int pa_nil)))) (pe_def DTk hr1 rfl (pa_cons (pv 2) (pa_cons pe_int pa_nil))) (fun _ _ => rfl)) pa_nil))) (pa_cons (pe_tup (pa_cons (pv 4) (pa_cons pe_int pa_nil))) (pa_cons (pe_tup (pa_cons (pv 3) (pa_cons pe_int pa_nil))) (pa_cons (pe_tup (pa_cons (pe_P MP hr15 rfl (pa_cons (pe_tup pa_nil) pa_nil)) (pa_cons pe_int pa_nil))) pa_nil)))))) (pg_tup rfl (pgs_cons (pg_name (i := 5) scL.nd rfl (Or.inl rfl)) (pgs_cons (pg_name (i := 6) scL.nd rfl (Or.inl rfl)) pgs_nil))) (pss_one (ps_if (pt_not (pt_val (pe_def DRi hr21 rfl (pa_cons (pv 5) (pa_cons (pv 6) pa_nil))))) (pss_one (ps_ret pe_bl)) pss_nil))) (pss_one (ps_if (PW.pt (pw_or (pt_cmpR (op_neTl (rcT_tup_ne mon_y8 (eqT_y8 SE SPE)) hr24) (pe_defD DLt4 hr16 rfl (pa_cons (pv 3) pa_nil)) (pe_defK6 KLt hr16 rfl (pk_cons (pv 3) (pk_cons pe_int pk_nil))) (nomark _)) (pw_or1 (pt_cmpR op_ne (pe_ix (r := rIxT K) ix_tup (pe_defD DLt4 hr16 rfl (pa_cons (pe_P MP hr15 rfl (pa_cons (pe_tup pa_nil) pa_nil)) pa_nil)) pe_int (fun _ _ => rfl)) pe_str (nomark _))))) (pss_one (ps_ret pe_bl)) pss_nil)))))) (pss_cons (ps_if (PW.pt (pw_or (pt_cmpR op_ne (pe_ix (r := rIxT K) ix_tup (pe_defD DLt4 hr16 rfl (pa_cons (pe_P MP hr15 rfl (pa_cons (pe_def DLo hr4 rfl (pa_cons pe_int pa_nil)) pa_nil)) pa_nil)) pe_int (fun _ _ => rfl)) pe_str (nomark _)) (pw_or1 (pt_cmpR op_ne (pe_ix (r := rIxT K) ix_tup (pe_defD DLt4 hr16 rfl (pa_cons (pe_P MP hr15 rfl (pa_cons (pe_def DLo hr4 rfl (pa_cons pe_int pa_nil)) pa_nil)) pa_nil)) pe_int (fun _ _ => rfl)) pe_str (nomark _))))) (pss_one (ps_ret pe_bl)) pss_nil) (pss_cons (ps_if (PW.pt (pw_or (pt_cmpR op_ne (pe_ix (r := rIxT K) ix_tup (pe_def DLt hr16 rfl (pa_cons (pe_P MP hr15 rfl (pa_cons (pe_def DLr hr4 rfl (pa_cons pe_int pa_nil)) pa_nil)) (pa_cons pe_int pa_nil))) pe_int (fun _ _ => rfl)) pe_str (nomark _)) (pw_or1 (pt_cmpR op_ne (pe_ix (r := rIxT K) ix_tup (pe_def DLt hr16 rfl (pa_cons (pe_P MP hr15 rfl (pa_cons (pe_def DLr hr4 rfl (pa_cons pe_int pa_nil)) pa_nil)) (pa_cons pe_int pa_nil))) pe_int (fun _ _ => rfl)) pe_str (nomark _))))) (pss_one (ps_ret pe_bl)) pss_nil) (pss_cons (ps_if (pt_not (pt_val (pe_def DRi hr21 rfl (pa_cons (pe_P MP hr15 rfl (pa_cons (pe_op (op_rep1R (C := C)) (pe_tup (pa_cons (pe_tup (pa_cons pe_str (pa_cons pe_int (pa_cons pe_int pa_nil)))) pa_nil)) pe_int) pa_nil)) (pa_cons pe_int pa_nil))))) (pss_one (ps_ret pe_bl)) pss_nil) (pss_one (ps_ret (pe_cmpR op_eq (pe_def DCt hr1 rfl (pa_cons (pe_ix (r := rIxT K) ix_tup (pe_ix (r := rIxT K) ix_tup (pe_fld (pe_ix (r := rIxT K) ix_tup (pe_defD DLt4 hr16 rfl (pa_cons (pe_P MP hr15 rfl (pa_cons (pe_tup pa_nil) pa_nil)) pa_nil)) pe_int (fun _ _ => rfl)) rfl) pe_int (fun _ _ => rfl)) pe_int (fun _ _ => rfl)) pa_nil)) pe_int (nomark _))))))), ?_⟩
    have hsl := line4
    refine ⟨_, rfl, a, _, rfl, .inl hS, _, _, rfl, _, _, rfl, ?_⟩
    rw [List.length_map]
    have hj := mult25 ns.length
    revert hj
    generalize (if (if ((ns.length : Nat) : Int) < 5 then ((ns.length : Nat) : Int) else 5) > 2 then (if ((ns.length : Nat) : Int) < 5 then ((ns.length : Nat) : Int) else 5) else 2) = j
    intro hj
    refine ⟨j, rfl, by omega, by omega, for_range (n := j.toNat) (fun i σ H' => ∃ x1 x2 x3 x4 x5 x6 : Option V, σ = [some (.ref a), x1, x2, x3, x4, x5, x6] ∧ Same H H') ⟨none, none, none, none, none, none, rfl, Same.refl H⟩ ?_ (fun σ Z0 z => ?_)⟩
    · rintro i σ H0 hi ⟨x1, x2, x3, x4, x5, x6, rfl, s0⟩
      refine ⟨_, rfl, _, rfl, a, ns, i, by rw [Int.zero_add]; rfl, s0.seq hS, by omega, fun p h1 sh1 np hbag => ?_⟩
      have gh2 := hbag
      refine ⟨_, rfl, p, rfl, gh2, fun b1 r1 h2 kh2 bh2 hb1 hm1 => ?_⟩
      have gh3 := bh2
      refine ⟨_, rfl, p, rfl, gh3, fun b2 r2 h3 kh3 bh3 hb2 hm2 => ⟨_, _, rfl, ?_⟩⟩
      refine ⟨_, rfl, by show 3 ≤ sizeLine; decide, fun L1 nL1 => ?_⟩
      have sh4 := Same.new nL1 (o := .lst [V.int 50, .int 300, .int 2000])
      have eh4 : (upd h3 L1 (.lst [V.int 50, .int 300, .int 2000])) L1 = some (.lst [V.int 50, .int 300, .int 2000]) := upd_same
      revert sh4 eh4
      generalize upd h3 L1 (.lst [V.int 50, .int 300, .int 2000]) = h4
      intro sh4 eh4
      have hL1p := bag_ne6 (bh3) nL1
      have gh5 := bh3.same sh4
      refine ⟨_, rfl, p, 3, rfl, gh5, by decide, by decide, fun d h5 kh5 bh5 d0 d1 => ?_⟩
      have hlv : ∃ lv : Nat, atI [V.int 50, .int 300, .int 2000] d = some (.int (lv : Nat)) ∧ lv ≤ 2000 := by
        have h : d = 0 ∨ d = 1 ∨ d = 2 := by omega
        rcases h with rfl | rfl | rfl
        · exact ⟨50, rfl, by decide⟩
        · exact ⟨300, rfl, by decide⟩
        · exact ⟨2000, rfl, by decide⟩
      obtain ⟨lv, hat, hlv⟩ := hlv
      refine ⟨L1, _, _, _, rfl, rfl, SqL.of (kh5 _ _ hL1p eh4), hat, ?_⟩
      refine ⟨by show 2 ≤ sizeLine; decide, fun T1 nT1 => ?_⟩
      have sh6 := Same.new nT1 (o := .tup [V.ref b1, .int (lv : Nat)])
      have eh6 : (upd h5 T1 (.tup [V.ref b1, .int (lv : Nat)])) T1 = some (.tup [V.ref b1, .int (lv : Nat)]) := upd_same
      revert sh6 eh6
      generalize upd h5 T1 (.tup [V.ref b1, .int (lv : Nat)]) = h6
      intro sh6 eh6
      refine ⟨_, rfl, by show 2 ≤ sizeLine; decide, fun T2 nT2 => ?_⟩
      have sh7 := Same.new nT2 (o := .tup [V.ref b2, .int ((2000 : Nat) : Int)])
      have eh7 : (upd h6 T2 (.tup [V.ref b2, .int ((2000 : Nat) : Int)])) T2 = some (.tup [V.ref b2, .int ((2000 : Nat) : Int)]) := upd_same
      revert sh7 eh7
      generalize upd h6 T2 (.tup [V.ref b2, .int ((2000 : Nat) : Int)]) = h7
      intro sh7 eh7
      refine ⟨_, rfl, by show 2 ≤ sizeLine; decide, fun T3 nT3 => ?_⟩
      have sh8 := Same.new nT3 (o := .tup [V.ref b1, .int ((100 : Nat) : Int)])
      have eh8 : (upd h7 T3 (.tup [V.ref b1, .int ((100 : Nat) : Int)])) T3 = some (.tup [V.ref b1, .int ((100 : Nat) : Int)]) := upd_same
      revert sh8 eh8
      generalize upd h7 T3 (.tup [V.ref b1, .int ((100 : Nat) : Int)]) = h8
      intro sh8 eh8
      refine ⟨Nat.zero_le _, fun E0 nE0 => ?_⟩
      have sh9 := Same.new nE0 (o := .tup [])
      have eh9 : (upd h8 E0 (.tup [])) E0 = some (.tup []) := upd_same
      revert sh9 eh9
      generalize upd h8 E0 (.tup []) = h9
      intro sh9 eh9
      refine ⟨E0, [], rfl, ⟨[], SqT.of eh9, rfl⟩, by decide, by decide, fun z0 h10 sh10 _ hz0 => ?_⟩
      refine ⟨by show 2 ≤ sizeLine; decide, fun T4 nT4 => ?_⟩
      have sh11 := Same.new nT4 (o := .tup [V.ref z0, .int ((0 : Nat) : Int)])
      have eh11 : (upd h10 T4 (.tup [V.ref z0, .int ((0 : Nat) : Int)])) T4 = some (.tup [V.ref z0, .int ((0 : Nat) : Int)]) := upd_same
      revert sh11 eh11
      generalize upd h10 T4 (.tup [V.ref z0, .int ((0 : Nat) : Int)]) = h11
      intro sh11 eh11
      refine ⟨by show 4 ≤ sizeLine; decide, fun Ls nLs => ?_⟩
      have sh12 := Same.new nLs (o := .lst [V.ref T1, V.ref T2, V.ref T3, V.ref T4])
      have eh12 : (upd h11 Ls (.lst [V.ref T1, V.ref T2, V.ref T3, V.ref T4])) Ls = some (.lst [V.ref T1, V.ref T2, V.ref T3, V.ref T4]) := upd_same
      revert sh12 eh12
      generalize upd h11 Ls (.lst [V.ref T1, V.ref T2, V.ref T3, V.ref T4]) = h12
      intro sh12 eh12
      have hb16 := (hb1).kt (((((((((((gh3).kt kh3).trans (KT.of sh4)).trans ((gh5).kt kh5)).trans (KT.of sh6)).trans (KT.of sh7)).trans (KT.of sh8)).trans (KT.of sh9)).trans (KT.of sh10)).trans (KT.of sh11)).trans (KT.of sh12))
      have hb26 := (hb2).kt (((((((((KT.of sh4).trans ((gh5).kt kh5)).trans (KT.of sh6)).trans (KT.of sh7)).trans (KT.of sh8)).trans (KT.of sh9)).trans (KT.of sh10)).trans (KT.of sh11)).trans (KT.of sh12))
      have hz06 := (hz0).kt ((KT.of sh11).trans (KT.of sh12))
      have rows : ∀ v ∈ [V.ref T1, V.ref T2, V.ref T3, V.ref T4], ∃ (T aa : Addr) (lim : Nat) (r : List Dd), v = .ref T ∧ SqT K h12 T [.ref aa, .int (lim : Nat)] ∧ PgAt K C CP h12 aa r ∧ manyR r ≤ 300 ∧ lim ≤ 100000 := by
        intro v hv
        simp only [List.mem_cons, List.not_mem_nil, or_false] at hv
        rcases hv with rfl | rfl | rfl | rfl
        · exact ⟨T1, b1, lv, r1, rfl, sqt_kt ((((((KT.of sh7).trans (KT.of sh8)).trans (KT.of sh9)).trans (KT.of sh10)).trans (KT.of sh11)).trans (KT.of sh12)) (SqT.of eh6), hb16, by omega, by omega⟩
        · exact ⟨T2, b2, 2000, r2, rfl, sqt_kt (((((KT.of sh8).trans (KT.of sh9)).trans (KT.of sh10)).trans (KT.of sh11)).trans (KT.of sh12)) (SqT.of eh7), hb26, by omega, by decide⟩
        · exact ⟨T3, b1, 100, r1, rfl, sqt_kt ((((KT.of sh9).trans (KT.of sh10)).trans (KT.of sh11)).trans (KT.of sh12)) (SqT.of eh8), hb16, by omega, by decide⟩
        · exact ⟨T4, z0, 0, [], rfl, sqt_kt (KT.of sh12) (SqT.of eh11), hz06, Nat.zero_le _, by decide⟩
      have sH0 : Same H h12 := s0.trans (same_kb6 sh1 ((((((((((((kh2).trans (kh3)).trans (KB.of sh4)).trans (kh5)).trans (KB.of sh6)).trans (KB.of sh7)).trans (KB.of sh8)).trans (KB.of sh9)).trans (KB.of sh10)).trans (KB.of sh11)).trans (KB.of sh12))) np)
      refine ⟨Ls, rfl, ⟨_, SqL.of eh12⟩, for_list (K := K) (a := Ls) (xs := [V.ref T1, V.ref T2, V.ref T3, V.ref T4]) (fun j σ H' => ∃ x1 x5 x6 : Option V, σ = [some (.ref a), x1, some (.ref p), some (.ref b1), some (.ref b2), x5, x6] ∧ Same h12 H') ⟨_, _, _, rfl, Same.refl _⟩ (fun j σ H' _ z => by obtain ⟨_, _, _, _, z⟩ := z; exact SqL.of (z _ _ eh12)) ?_ ?_⟩
      · rintro j v σ G0 hv ⟨y1, y5, y6, rfl, t0⟩
        obtain ⟨T, aa, lim, r, rfl, hT, haa, hmm, hll⟩ := rows v (List.mem_of_getElem? hv)
        refine ⟨T, _, rfl, sqt_kt (KT.of t0) hT, rfl, _, _, rfl, _, _, rfl, rfl, ?_⟩
        refine ⟨_, rfl, _, rfl, aa, r, lim, rfl, haa.same t0, hmm, hll, fun G1 t1 => ⟨_, rfl, iteF ?_⟩⟩
        exact ⟨_, _, _, rfl, t0.trans t1⟩
      rintro σ G0 ⟨y1, y5, y6, rfl, t0⟩
      refine ⟨_, rfl, b1, r1, 4000, rfl, hb16.same t0, by omega, by omega, fun U1 m1 w1 v1 G1 t1 hU1 hmm1 hL1' => ?_⟩
      refine ⟨_, rfl, rfl, rfl, b1, r1, 4000, rfl, hb16.same (t0.trans t1), by omega, by omega, fun U2 m2 w2 v2 G2 t2 hU2 hmm2 hL2' => ?_⟩
      have hnz : (num (manyR r1 + 3)).size ≤ 4000 := by rw [num_size]; omega
      obtain ⟨hww, hvv⟩ := lt_eq (hL1'.same t2) hL2' hnz (hmm1.same t2) hmm2
      refine ⟨true, ⟨U1, U2, _, _, [true, true, true], rfl, rfl, sqt_kt (KT.of t2) hU1, hU2, prs_cons ⟨rfl, .inl (.inl (.inl (.inl ⟨rfl, rfl, by rw [hww]; simp [eqV]⟩)))⟩ (fun _ => prs_cons ⟨rfl, .inl (.inr ⟨m1, m2, _, _, rfl, rfl, hmm1.same t2, hmm2, (decide_eq_true rfl).symm⟩)⟩ (fun _ => prs_cons ⟨rfl, hvv⟩ (fun _ => prs_nil) rfl) rfl) rfl, rfl⟩, fun G3 t3 => ⟨_, rfl, iteF ?_⟩⟩
      refine ⟨Nat.zero_le _, fun E1 nE1 => ?_⟩
      have t4 := Same.new nE1 (o := .tup [])
      have e4 : (upd G3 E1 (.tup [])) E1 = some (.tup []) := upd_same
      revert t4 e4
      generalize upd G3 E1 (.tup []) = G4
      intro t4 e4
      refine ⟨E1, [], rfl, ⟨[], SqT.of e4, rfl⟩, by decide, by decide, fun z1 G5 t5 _ hz1 => ?_⟩
      refine ⟨z1, [], 4000, rfl, hz1, by decide, by decide, fun U3 m3 w3 v3 G6 t6 hU3 _ hL3 => ?_⟩
      obtain ⟨rfl, _⟩ := hL3.1 (said_nil _ _)
      refine ⟨U3, _, 0, _, rfl, rfl, hU3, rfl, rfl, _, rfl, ?_⟩
      refine ite_f6 (by decide +kernel) ?_
      exact ⟨_, _, _, _, _, _, rfl, sH0.trans ((((t0.trans t1).trans t2).trans t3).trans ((t4.trans t5).trans t6))⟩
    obtain ⟨x1, x2, x3, x4, x5, x6, rfl, _⟩ := z
    refine ⟨2, rfl, by decide, by decide, fun qa q1 sq1 hqa => ?_⟩
    refine ⟨qa, loR 2, rfl, hqa, lo_dm2.1, Nat.le_trans lo_dm2.2 (by decide), fun za q2 sq2 _ hza => ?_⟩
    refine ⟨za, loR 2, 4000, rfl, hza, Nat.le_trans lo_dm2.2 (by decide), by decide, fun Ua ma wa va q3 sq3 hUa _ hLa => ?_⟩
    obtain ⟨rfl, _⟩ := hLa.1 (lo2_said _)
    refine ⟨Ua, _, 0, _, rfl, rfl, hUa, rfl, rfl, _, rfl, ?_⟩
    refine ite_f6 (by decide +kernel) ?_
    refine ⟨3, rfl, by decide, by decide, fun qb q4 sq4 hqb => ?_⟩
    refine ⟨qb, loR 3, rfl, hqb, lo_dm3.1, Nat.le_trans lo_dm3.2 (by decide), fun zb q5 sq5 _ hzb => ?_⟩
    refine ⟨zb, loR 3, 4000, rfl, hzb, Nat.le_trans lo_dm3.2 (by decide), by decide, fun Ub mb wb vb q6 sq6 hUb _ hLb => ?_⟩
    have hwb : wb = "open" := (lt_wd hLb (lo3_said _)).trans (congrArg elW (lo3_no _))
    subst hwb
    refine ⟨Ub, _, 0, _, rfl, rfl, hUb, rfl, rfl, _, rfl, ?_⟩
    refine ite_f6 (by show (!decide (V.str ("open" : Str) = V.str ("open" : Str))) = false; decide +kernel) ?_
    refine ⟨2, rfl, by decide, by decide, fun qc q7 sq7 hqc => ?_⟩
    refine ⟨qc, lrR 2, rfl, hqc, lr_dm2.1, Nat.le_trans lr_dm2.2 (by decide), fun zc q8 sq8 _ hzc => ?_⟩
    refine ⟨zc, lrR 2, 10000, rfl, hzc, Nat.le_trans lr_dm2.2 (by decide), by decide, fun Uc mc wc vc q9 sq9 hUc _ hLc => ?_⟩
    obtain ⟨rfl, _⟩ := hLc.1 (lr2_said _)
    refine ⟨Uc, _, 0, _, rfl, rfl, hUc, rfl, rfl, _, rfl, ?_⟩
    refine ite_f6 (by decide +kernel) ?_
    refine ⟨3, rfl, by decide, by decide, fun qd q10 sq10 hqd => ?_⟩
    refine ⟨qd, lrR 3, rfl, hqd, lr_dm3.1, Nat.le_trans lr_dm3.2 (by decide), fun zd q11 sq11 _ hzd => ?_⟩
    refine ⟨zd, lrR 3, 10000, rfl, hzd, Nat.le_trans lr_dm3.2 (by decide), by decide, fun Ud md wd vd q12 sq12 hUd _ hLd => ?_⟩
    have hwd : wd = "open" := (lt_wd hLd (lr3_said _)).trans (congrArg elW (lr3_no _))
    subst hwd
    refine ⟨Ud, _, 0, _, rfl, rfl, hUd, rfl, rfl, _, rfl, ?_⟩
    refine ite_f6 (by show (!decide (V.str ("open" : Str) = V.str ("open" : Str))) = false; decide +kernel) ?_
    refine ⟨by show 3 ≤ sizeLine; decide, fun F1 nF1 => ?_⟩
    have sq13 := Same.new nF1 (o := .tup [V.str "first", .int ((0 : Nat) : Int), .int ((0 : Nat) : Int)])
    have eq13 : (upd q12 F1 (.tup [V.str "first", .int ((0 : Nat) : Int), .int ((0 : Nat) : Int)])) F1 = some (.tup [V.str "first", .int ((0 : Nat) : Int), .int ((0 : Nat) : Int)]) := upd_same
    revert sq13 eq13
    generalize upd q12 F1 (.tup [V.str "first", .int ((0 : Nat) : Int), .int ((0 : Nat) : Int)]) = q13
    intro sq13 eq13
    refine ⟨by show 1 ≤ sizeLine; decide, fun F2 nF2 => ?_⟩
    have sq14 := Same.new nF2 (o := .tup [V.ref F1])
    have eq14 : (upd q13 F2 (.tup [V.ref F1])) F2 = some (.tup [V.ref F1]) := upd_same
    revert sq14 eq14
    generalize upd q13 F2 (.tup [V.ref F1]) = q14
    intro sq14 eq14
    refine ⟨F2, .take false 0 0, 190, rfl, rfl, ⟨_, SqT.of eq14, _, _, rfl, ⟨F1, rfl, sqt_kt (KT.of sq14) (SqT.of eq13), by decide, by decide⟩, rfl⟩, by decide, by decide, fun q9 q15 sq15 hq9 => ?_⟩
    refine ⟨q9, _, rfl, hq9, rep_dm.1, by rw [rep_dm.2]; decide, fun z9 q16 sq16 _ hz9 => ?_⟩
    refine ⟨z9, _, 400, rfl, hz9, by rw [rep_dm.2]; decide, by decide, fun q17 sq17 => ⟨_, rfl, iteF ?_⟩⟩
    refine ⟨Nat.zero_le _, fun E9 nE9 => ?_⟩
    have sq18 := Same.new nE9 (o := .tup [])
    have eq18 : (upd q17 E9 (.tup [])) E9 = some (.tup []) := upd_same
    revert sq18 eq18
    generalize upd q17 E9 (.tup []) = q18
    intro sq18 eq18
    refine ⟨E9, [], rfl, ⟨[], SqT.of eq18, rfl⟩, by decide, by decide, fun y9 q19 sq19 _ hy9 => ?_⟩
    refine ⟨y9, [], 4000, rfl, hy9, by decide, by decide, fun U9 m9 w9 v9 q20 sq20 hU9 hm9 _ => ?_⟩
    obtain ⟨dm, qm, plm, ysm, g1, ⟨vsm, g2, g3⟩, _⟩ := id hm9.ex
    obtain ⟨v0, vr, rfl, hv0, _⟩ := g3
    obtain ⟨T0, x0, rfl, h01, _, h02, _⟩ := hv0
    refine ⟨U9, _, 1, _, rfl, rfl, hU9, rfl, _, _, _, _, _, rfl, g1, TP.cl, TP.nD, pf_deeds _ _, qm, _, 0, _, rfl, rfl, g2, at0 _ _, T0, _, 2, _, rfl, rfl, h01, rfl, x0, num 3, rfl, h02, rfl, ?_⟩
    show Q (.bl (decide (V.int ((3 : Nat) : Int) = V.int 3))) _
    have hdd : decide (V.int ((3 : Nat) : Int) = V.int 3) = true := by decide +kernel
    rw [hdd]
    exact k _
end
end Js

set_option Elab.async false
set_option linter.all false
set_option maxRecDepth 100000
set_option maxHeartbeats 4000000
namespace Js
open PySem L2 PyProof.Rows
theorem all_mk {P : Program} {w : World} {K : PySem.W.Frag} {h : Heap} {mg : Str → Option Value} {fa C : Addr} (X : K.In h) (G : h.Ns mainGlobals mg) (hfa : mg "law" = some (.ref fa))
    {tM : Tok}
    {oI : Value} {odI anI odT : Option Addr} {slI slT : Array (Option Value)} {kVI dcI pmI cdI ctI ocT : Value} {fI TI : Addr} {nT : Nat}
    {fHd : Addr} {ocHd kVHd dcHd pmHd cdHd ctHd : Value} {odHd anHd : Option Addr} {slHd : Array (Option Value)}
    {fTl : Addr} {ocTl kVTl dcTl pmTl cdTl ctTl : Value} {odTl anTl : Option Addr} {slTl : Array (Option Value)}
    {fEq : Addr} {ocEq kVEq dcEq pmEq cdEq ctEq : Value} {odEq anEq : Option Addr} {slEq : Array (Option Value)}
    {fPa : Addr} {ocPa kVPa dcPa pmPa cdPa ctPa : Value} {odPa anPa : Option Addr} {slPa : Array (Option Value)}
    {fAl : Addr} {ocAl kVAl dcAl pmAl cdAl ctAl : Value} {odAl anAl : Option Addr} {slAl : Array (Option Value)}
    {fSg : Addr} {ocSg kVSg dcSg pmSg cdSg ctSg : Value} {odSg anSg : Option Addr} {slSg : Array (Option Value)}
    {fIn : Addr} {ocIn kVIn dcIn pmIn cdIn ctIn : Value} {odIn anIn : Option Addr} {slIn : Array (Option Value)}
    {fFt : Addr} {ocFt kVFt dcFt pmFt cdFt ctFt : Value} {odFt anFt : Option Addr} {slFt : Array (Option Value)}
    {fHf : Addr} {ocHf kVHf dcHf pmHf cdHf ctHf : Value} {odHf anHf : Option Addr} {slHf : Array (Option Value)}
    {fRi : Addr} {ocRi kVRi dcRi pmRi cdRi ctRi : Value} {odRi anRi : Option Addr} {slRi : Array (Option Value)}
    {fLk : Addr} {ocLk kVLk dcLk pmLk cdLk ctLk : Value} {odLk anLk : Option Addr} {slLk : Array (Option Value)}
    {fLy : Addr} {ocLy kVLy dcLy pmLy cdLy ctLy : Value} {odLy anLy : Option Addr} {slLy : Array (Option Value)}
    {fYe : Addr} {ocYe kVYe dcYe pmYe cdYe ctYe : Value} {odYe anYe : Option Addr} {slYe : Array (Option Value)}
    {fFn : Addr} {ocFn kVFn dcFn pmFn cdFn ctFn : Value} {odFn anFn : Option Addr} {slFn : Array (Option Value)}
    {fDo : Addr} {ocDo kVDo dcDo pmDo cdDo ctDo : Value} {odDo anDo : Option Addr} {slDo : Array (Option Value)}
    {fMd : Addr} {ocMd kVMd dcMd pmMd cdMd ctMd : Value} {odMd anMd : Option Addr} {slMd : Array (Option Value)}
    {fNu : Addr} {ocNu kVNu dcNu pmNu cdNu ctNu : Value} {odNu anNu : Option Addr} {slNu : Array (Option Value)}
    {fCtd : Addr} {ocCtd kVCtd dcCtd pmCtd cdCtd ctCtd : Value} {odCtd anCtd : Option Addr} {slCtd : Array (Option Value)}
    {fCu : Addr} {ocCu kVCu dcCu pmCu cdCu ctCu : Value} {odCu anCu : Option Addr} {slCu : Array (Option Value)}
    {fCa : Addr} {ocCa kVCa dcCa pmCa cdCa ctCa : Value} {odCa anCa : Option Addr} {slCa : Array (Option Value)}
    {fCb : Addr} {ocCb kVCb dcCb pmCb cdCb ctCb : Value} {odCb anCb : Option Addr} {slCb : Array (Option Value)}
    {fCs : Addr} {ocCs kVCs dcCs pmCs cdCs ctCs : Value} {odCs anCs : Option Addr} {slCs : Array (Option Value)}
    {fWt : Addr} {ocWt kVWt dcWt pmWt cdWt ctWt : Value} {odWt anWt : Option Addr} {slWt : Array (Option Value)}
    {fCm : Addr} {ocCm kVCm dcCm pmCm cdCm ctCm : Value} {odCm anCm : Option Addr} {slCm : Array (Option Value)}
    {fSs3 : Addr} {ocSs3 kVSs3 dcSs3 pmSs3 cdSs3 ctSs3 : Value} {odSs3 anSs3 : Option Addr} {slSs3 : Array (Option Value)}
    {fPn : Addr} {ocPn kVPn dcPn pmPn cdPn ctPn : Value} {odPn anPn : Option Addr} {slPn : Array (Option Value)}
    {fTn : Addr} {ocTn kVTn dcTn pmTn cdTn ctTn : Value} {odTn anTn : Option Addr} {slTn : Array (Option Value)}
    {fNm : Addr} {ocNm kVNm dcNm pmNm cdNm ctNm : Value} {odNm anNm : Option Addr} {slNm : Array (Option Value)}
    {fGo : Addr} {ocGo kVGo dcGo pmGo cdGo ctGo : Value} {odGo anGo : Option Addr} {slGo : Array (Option Value)}
    {fHw : Addr} {ocHw kVHw dcHw pmHw cdHw ctHw : Value} {odHw anHw : Option Addr} {slHw : Array (Option Value)}
    {fBa : Addr} {ocBa kVBa dcBa pmBa cdBa ctBa : Value} {odBa anBa : Option Addr} {slBa : Array (Option Value)}
    {fTa : Addr} {ocTa kVTa dcTa pmTa cdTa ctTa : Value} {odTa anTa : Option Addr} {slTa : Array (Option Value)}
    {fTh : Addr} {ocTh kVTh dcTh pmTh cdTh ctTh : Value} {odTh anTh : Option Addr} {slTh : Array (Option Value)}
    {fNa : Addr} {ocNa kVNa dcNa pmNa cdNa ctNa : Value} {odNa anNa : Option Addr} {slNa : Array (Option Value)}
    {fDe : Addr} {ocDe kVDe dcDe pmDe cdDe ctDe : Value} {odDe anDe : Option Addr} {slDe : Array (Option Value)}
    {fDs : Addr} {ocDs kVDs dcDs pmDs cdDs ctDs : Value} {odDs anDs : Option Addr} {slDs : Array (Option Value)}
    {fTo : Addr} {ocTo kVTo dcTo pmTo cdTo ctTo : Value} {odTo anTo : Option Addr} {slTo : Array (Option Value)}
    {fBo : Addr} {ocBo kVBo dcBo pmBo cdBo ctBo : Value} {odBo anBo : Option Addr} {slBo : Array (Option Value)}
    {fLo6 : Addr} {ocLo6 kVLo6 dcLo6 pmLo6 cdLo6 ctLo6 : Value} {odLo6 anLo6 : Option Addr} {slLo6 : Array (Option Value)}
    {fLr6 : Addr} {ocLr6 kVLr6 dcLr6 pmLr6 cdLr6 ctLr6 : Value} {odLr6 anLr6 : Option Addr} {slLr6 : Array (Option Value)}
    {fRt : Addr} {ocRt kVRt dcRt pmRt cdRt ctRt : Value} {odRt anRt : Option Addr} {slRt : Array (Option Value)}
    {fLaw : Addr} {ocLaw kVLaw dcLaw pmLaw cdLaw ctLaw : Value} {odLaw anLaw : Option Addr} {slLaw : Array (Option Value)}
    {tkRu : Tok}
    {CP dF : Addr} {esF : Array DictEntry} {nFm : Nat} {tN1 tN2 tN3 tf0 tf1 tf2 tf3 tf4 tf5 tf6 : Tok}
    {fPI : Addr} {ocPI kVPI dcPI pmPI cdPI ctPI : Value} {odPI anPI : Option Addr} {slPI : Array (Option Value)}
    {fPL : Addr} {ocPL kVPL dcPL pmPL cdPL ctPL : Value} {odPL anPL : Option Addr} {slPL : Array (Option Value)}
    {fPE : Addr} {ocPE kVPE dcPE pmPE cdPE ctPE : Value} {odPE anPE : Option Addr} {slPE : Array (Option Value)}
    {CR : Addr}
    {fRI TRI : Addr} {ocRI kVRI dcRI pmRI cdRI ctRI otRI : Value} {odRI anRI odtRI : Option Addr} {slRI sltRI : Array (Option Value)} {ntRI : Nat}
    {fRu TRu : Addr} {ocRu kVRu dcRu pmRu cdRu ctRu otRu : Value} {odRu anRu odtRu : Option Addr} {slRu sltRu : Array (Option Value)} {ntRu : Nat}
    {aY eY1 eY2 aD : Addr} {odY odY1 odY2 odD : Option Addr} {nY nY1 nY2 nD : Nat} {slY slY1 slY2 slD : Array (Option Value)} {tD1 tD2 tD3 tMs tNil tMark tMd : Tok}
    {aB eT eR eD : Addr} {odB odT2 odR odD2 : Option Addr} {nB nT2 nR nD2 : Nat} {slB slT2 slR slD2 : Array (Option Value)} {tB1 tB2 tB3 tB4 tB5 : Tok}
    {S : Addr}
    {W : Addr}
    {fFi : Addr} {ocFi kVFi dcFi pmFi cdFi ctFi : Value} {odFi anFi : Option Addr} {slFi : Array (Option Value)}
    {fWi : Addr} {ocWi kVWi dcWi pmWi cdWi ctWi : Value} {odWi anWi : Option Addr} {slWi : Array (Option Value)}
    {tkCl : Tok}
    {fCl TCl : Addr} {ocCl kVCl dcCl pmCl cdCl ctCl otCl : Value} {odCl anCl odtCl : Option Addr} {slCl sltCl : Array (Option Value)} {ntCl : Nat}
    {tkEl : Tok}
    {fEl TEl : Addr} {ocEl kVEl dcEl pmEl cdEl ctEl otEl : Value} {odEl anEl odtEl : Option Addr} {slEl sltEl : Array (Option Value)} {ntEl : Nat}
    {tkLt : Tok}
    {fLt TLt : Addr} {ocLt kVLt dcLt pmLt cdLt ctLt otLt : Value} {odLt anLt odtLt : Option Addr} {slLt sltLt : Array (Option Value)} {ntLt : Nat}
    {N fN : Addr} {nmN qN : Str} {NN : Addr} {bsN : List Value} {snN : List Str} {subN : List Value} {abN : Bool} {colN : Option Bool} {ddN : Option Addr} {m0N m1N m2N m3N m5N : Option Value}
    {ocN kVN dcN pmN cdN ctN : Value} {odN anN : Option Addr} {slN : Array (Option Value)}
    (aC : PySem.W.nsIn K mainGlobals "Thing" = some (some (.ref C)))
    (pg : PySem.W.plainGet K C Str.empty = true)
    (hd : PySem.W.hasDictIn K C = true)
    (po : PySem.W.plainOver K C = true)
    (sa : PySem.W.findIn K (.ref C) "__setattr__" = some (some (.builtin "object.__setattr__")))
    (mkC : PySem.W.makesIn K C = true)
    (kc : PySem.W.keepIn K (.ref C) = true)
    (nF : PySem.W.findIn K (.ref C) "first" = some none)
    (nS : PySem.W.findIn K (.ref C) "second" = some none)
    (nZ : PySem.W.findIn K (.ref C) "size" = some none)
    (ca : PySem.W.findIn K (.ref C) "__class__" = some (some (.builtin "object.__class__")))
    (cn : PySem.W.specialIn K (.builtin "object.__class__") "__get__" = some (some (.builtin "getset_descriptor.__get__")))
    (ct : PySem.W.takesIn K (.builtin "object.__class__") = some true)
    (cm : PySem.W.mroIn K C (.type "object") = some true)
    (neC : PySem.W.findIn K (.ref C) "__ne__" = some (some (.builtin "object.__ne__")))
    (aM : PySem.W.nsIn K mainGlobals "MOST_PAIRS" = some (some (.int 4000 tM)))
    (aI : PySem.W.findIn K (.ref C) "__init__" = some (some (.ref fI)))
    (iI : PySem.W.isFn K (.ref fI) = true)
    (lI : K.lookup fI = some ⟨oI, odI, .func (PySem.W.fnOf "__init__" "Thing.__init__" (defArgs sInit) (defBody sInit) (defScope sInit) (.ref TI) kVI dcI pmI anI cdI ctI), slI⟩)
    (cI : PySem.W.codeIn K cdI "Thing.__init__" = true)
    (kI : PySem.W.keepIn K (.ref fI) = true)
    (lT : K.lookup TI = some ⟨ocT, odT, .seq #[.none, .none] nT, slT⟩)
    (aHd : PySem.W.findIn K (.ref C) "head" = some (some (.ref fHd)))
    (iHd : PySem.W.isFn K (.ref fHd) = true)
    (lHd : K.lookup fHd = some ⟨ocHd, odHd, .func (PySem.W.fnOf "head" "Thing.head" (defArgs sHead) (defBody sHead) (defScope sHead) .none kVHd dcHd pmHd anHd cdHd ctHd), slHd⟩)
    (cHd : PySem.W.codeIn K cdHd "Thing.head" = true)
    (kHd : PySem.W.keepIn K (.ref fHd) = true)
    (aTl : PySem.W.findIn K (.ref C) "tail" = some (some (.ref fTl)))
    (iTl : PySem.W.isFn K (.ref fTl) = true)
    (lTl : K.lookup fTl = some ⟨ocTl, odTl, .func (PySem.W.fnOf "tail" "Thing.tail" (defArgs sTail) (defBody sTail) (defScope sTail) .none kVTl dcTl pmTl anTl cdTl ctTl), slTl⟩)
    (cTl : PySem.W.codeIn K cdTl "Thing.tail" = true)
    (kTl : PySem.W.keepIn K (.ref fTl) = true)
    (aEq : PySem.W.findIn K (.ref C) "__eq__" = some (some (.ref fEq)))
    (iEq : PySem.W.isFn K (.ref fEq) = true)
    (lEq : K.lookup fEq = some ⟨ocEq, odEq, .func (PySem.W.fnOf "__eq__" "Thing.__eq__" (defArgs sEq) (defBody sEq) (defScope sEq) .none kVEq dcEq pmEq anEq cdEq ctEq), slEq⟩)
    (cEq : PySem.W.codeIn K cdEq "Thing.__eq__" = true)
    (kEq : PySem.W.keepIn K (.ref fEq) = true)
    (aPa : PySem.W.nsIn K mainGlobals "pairs_in" = some (some (.ref fPa)))
    (lPa : K.lookup fPa = some ⟨ocPa, odPa, .func (PySem.W.fnOf "pairs_in" "pairs_in" (defArgs sPairs) (defBody sPairs) (defScope sPairs) .none kVPa dcPa pmPa anPa cdPa ctPa), slPa⟩)
    (cPa : PySem.W.codeIn K cdPa "pairs_in" = true)
    (kPa : PySem.W.keepIn K (.ref fPa) = true)
    (aAl : PySem.W.nsIn K mainGlobals "alike" = some (some (.ref fAl)))
    (lAl : K.lookup fAl = some ⟨ocAl, odAl, .func (PySem.W.fnOf "alike" "alike" (defArgs sAlike) (defBody sAlike) (defScope sAlike) .none kVAl dcAl pmAl anAl cdAl ctAl), slAl⟩)
    (cAl : PySem.W.codeIn K cdAl "alike" = true)
    (kAl : PySem.W.keepIn K (.ref fAl) = true)
    (aSg : PySem.W.nsIn K mainGlobals "signs" = some (some (.ref fSg)))
    (lSg : K.lookup fSg = some ⟨ocSg, odSg, .func (PySem.W.fnOf "signs" "signs" (defArgs sSigns) (defBody sSigns) (defScope sSigns) .none kVSg dcSg pmSg anSg cdSg ctSg), slSg⟩)
    (cSg : PySem.W.codeIn K cdSg "signs" = true)
    (kSg : PySem.W.keepIn K (.ref fSg) = true)
    (aIn : PySem.W.nsIn K mainGlobals "is_name" = some (some (.ref fIn)))
    (lIn : K.lookup fIn = some ⟨ocIn, odIn, .func (PySem.W.fnOf "is_name" "is_name" (defArgs sIsName) (defBody sIsName) (defScope sIsName) .none kVIn dcIn pmIn anIn cdIn ctIn), slIn⟩)
    (cIn : PySem.W.codeIn K cdIn "is_name" = true)
    (kIn : PySem.W.keepIn K (.ref fIn) = true)
    (aFt : PySem.W.nsIn K mainGlobals "fits" = some (some (.ref fFt)))
    (lFt : K.lookup fFt = some ⟨ocFt, odFt, .func (PySem.W.fnOf "fits" "fits" (defArgs sFits) (defBody sFits) (defScope sFits) .none kVFt dcFt pmFt anFt cdFt ctFt), slFt⟩)
    (cFt : PySem.W.codeIn K cdFt "fits" = true)
    (kFt : PySem.W.keepIn K (.ref fFt) = true)
    (aHf : PySem.W.nsIn K mainGlobals "has_form" = some (some (.ref fHf)))
    (lHf : K.lookup fHf = some ⟨ocHf, odHf, .func (PySem.W.fnOf "has_form" "has_form" (defArgs sHasForm) (defBody sHasForm) (defScope sHasForm) .none kVHf dcHf pmHf anHf cdHf ctHf), slHf⟩)
    (cHf : PySem.W.codeIn K cdHf "has_form" = true)
    (kHf : PySem.W.keepIn K (.ref fHf) = true)
    (aRi : PySem.W.nsIn K mainGlobals "rows_in" = some (some (.ref fRi)))
    (lRi : K.lookup fRi = some ⟨ocRi, odRi, .func (PySem.W.fnOf "rows_in" "rows_in" (defArgs sRowsIn) (defBody sRowsIn) (defScope sRowsIn) .none kVRi dcRi pmRi anRi cdRi ctRi), slRi⟩)
    (cRi : PySem.W.codeIn K cdRi "rows_in" = true)
    (kRi : PySem.W.keepIn K (.ref fRi) = true)
    (aLk : PySem.W.nsIn K mainGlobals "look_through" = some (some (.ref fLk)))
    (lLk : K.lookup fLk = some ⟨ocLk, odLk, .func (PySem.W.fnOf "look_through" "look_through" (defArgs sLook) (defBody sLook) (defScope sLook) .none kVLk dcLk pmLk anLk cdLk ctLk), slLk⟩)
    (cLk : PySem.W.codeIn K cdLk "look_through" = true)
    (kLk : PySem.W.keepIn K (.ref fLk) = true)
    (aLy : PySem.W.nsIn K mainGlobals "lay_out" = some (some (.ref fLy)))
    (lLy : K.lookup fLy = some ⟨ocLy, odLy, .func (PySem.W.fnOf "lay_out" "lay_out" (defArgs sLay) (defBody sLay) (defScope sLay) .none kVLy dcLy pmLy anLy cdLy ctLy), slLy⟩)
    (cLy : PySem.W.codeIn K cdLy "lay_out" = true)
    (kLy : PySem.W.keepIn K (.ref fLy) = true)
    (aYe : PySem.W.nsIn K mainGlobals "yes" = some (some (.ref fYe)))
    (lYe : K.lookup fYe = some ⟨ocYe, odYe, .func (PySem.W.fnOf "yes" "yes" (defArgs sYes) (defBody sYes) (defScope sYes) .none kVYe dcYe pmYe anYe cdYe ctYe), slYe⟩)
    (cYe : PySem.W.codeIn K cdYe "yes" = true)
    (kYe : PySem.W.keepIn K (.ref fYe) = true)
    (aFn : PySem.W.nsIn K mainGlobals "first_names" = some (some (.ref fFn)))
    (lFn : K.lookup fFn = some ⟨ocFn, odFn, .func (PySem.W.fnOf "first_names" "first_names" (defArgs sFirst) (defBody sFirst) (defScope sFirst) .none kVFn dcFn pmFn anFn cdFn ctFn), slFn⟩)
    (cFn : PySem.W.codeIn K cdFn "first_names" = true)
    (kFn : PySem.W.keepIn K (.ref fFn) = true)
    (aDo : PySem.W.nsIn K mainGlobals "do_deed" = some (some (.ref fDo)))
    (lDo : K.lookup fDo = some ⟨ocDo, odDo, .func (PySem.W.fnOf "do_deed" "do_deed" (defArgs sDo) (defBody sDo) (defScope sDo) .none kVDo dcDo pmDo anDo cdDo ctDo), slDo⟩)
    (cDo : PySem.W.codeIn K cdDo "do_deed" = true)
    (kDo : PySem.W.keepIn K (.ref fDo) = true)
    (aMd : PySem.W.nsIn K mainGlobals "thing_made" = some (some (.ref fMd)))
    (lMd : K.lookup fMd = some ⟨ocMd, odMd, .func (PySem.W.fnOf "thing_made" "thing_made" (defArgs sMade) (defBody sMade) (defScope sMade) .none kVMd dcMd pmMd anMd cdMd ctMd), slMd⟩)
    (cMd : PySem.W.codeIn K cdMd "thing_made" = true)
    (kMd : PySem.W.keepIn K (.ref fMd) = true)
    (aNu : PySem.W.nsIn K mainGlobals "number" = some (some (.ref fNu)))
    (lNu : K.lookup fNu = some ⟨ocNu, odNu, .func (PySem.W.fnOf "number" "number" (defArgs sNumber) (defBody sNumber) (defScope sNumber) .none kVNu dcNu pmNu anNu cdNu ctNu), slNu⟩)
    (cNu : PySem.W.codeIn K cdNu "number" = true)
    (kNu : PySem.W.keepIn K (.ref fNu) = true)
    (aCtd : PySem.W.nsIn K mainGlobals "counted" = some (some (.ref fCtd)))
    (lCtd : K.lookup fCtd = some ⟨ocCtd, odCtd, .func (PySem.W.fnOf "counted" "counted" (defArgs sCounted) (defBody sCounted) (defScope sCounted) .none kVCtd dcCtd pmCtd anCtd cdCtd ctCtd), slCtd⟩)
    (cCtd : PySem.W.codeIn K cdCtd "counted" = true)
    (kCtd : PySem.W.keepIn K (.ref fCtd) = true)
    (aCu : PySem.W.nsIn K mainGlobals "cut" = some (some (.ref fCu)))
    (lCu : K.lookup fCu = some ⟨ocCu, odCu, .func (PySem.W.fnOf "cut" "cut" (defArgs sCut) (defBody sCut) (defScope sCut) .none kVCu dcCu pmCu anCu cdCu ctCu), slCu⟩)
    (cCu : PySem.W.codeIn K cdCu "cut" = true)
    (kCu : PySem.W.keepIn K (.ref fCu) = true)
    (aCa : PySem.W.nsIn K mainGlobals "cut_again" = some (some (.ref fCa)))
    (lCa : K.lookup fCa = some ⟨ocCa, odCa, .func (PySem.W.fnOf "cut_again" "cut_again" (defArgs sCutA) (defBody sCutA) (defScope sCutA) .none kVCa dcCa pmCa anCa cdCa ctCa), slCa⟩)
    (cCa : PySem.W.codeIn K cdCa "cut_again" = true)
    (kCa : PySem.W.keepIn K (.ref fCa) = true)
    (aCb : PySem.W.nsIn K mainGlobals "cut_begin" = some (some (.ref fCb)))
    (lCb : K.lookup fCb = some ⟨ocCb, odCb, .func (PySem.W.fnOf "cut_begin" "cut_begin" (defArgs sCutB) (defBody sCutB) (defScope sCutB) .none kVCb dcCb pmCb anCb cdCb ctCb), slCb⟩)
    (cCb : PySem.W.codeIn K cdCb "cut_begin" = true)
    (kCb : PySem.W.keepIn K (.ref fCb) = true)
    (aCs : PySem.W.nsIn K mainGlobals "cut_steps" = some (some (.ref fCs)))
    (lCs : K.lookup fCs = some ⟨ocCs, odCs, .func (PySem.W.fnOf "cut_steps" "cut_steps" (defArgs sCutSt) (defBody sCutSt) (defScope sCutSt) .none kVCs dcCs pmCs anCs cdCs ctCs), slCs⟩)
    (cCs : PySem.W.codeIn K cdCs "cut_steps" = true)
    (kCs : PySem.W.keepIn K (.ref fCs) = true)
    (aWt : PySem.W.nsIn K mainGlobals "ways_taken" = some (some (.ref fWt)))
    (lWt : K.lookup fWt = some ⟨ocWt, odWt, .func (PySem.W.fnOf "ways_taken" "ways_taken" (defArgs sWaysT) (defBody sWaysT) (defScope sWaysT) .none kVWt dcWt pmWt anWt cdWt ctWt), slWt⟩)
    (cWt : PySem.W.codeIn K cdWt "ways_taken" = true)
    (kWt : PySem.W.keepIn K (.ref fWt) = true)
    (aCm : PySem.W.nsIn K mainGlobals "cuts_made" = some (some (.ref fCm)))
    (lCm : K.lookup fCm = some ⟨ocCm, odCm, .func (PySem.W.fnOf "cuts_made" "cuts_made" (defArgs sCutsM) (defBody sCutsM) (defScope sCutsM) .none kVCm dcCm pmCm anCm cdCm ctCm), slCm⟩)
    (cCm : PySem.W.codeIn K cdCm "cuts_made" = true)
    (kCm : PySem.W.keepIn K (.ref fCm) = true)
    (aSs3 : PySem.W.nsIn K mainGlobals "surely_same" = some (some (.ref fSs3)))
    (lSs3 : K.lookup fSs3 = some ⟨ocSs3, odSs3, .func (PySem.W.fnOf "surely_same" "surely_same" (defArgs sSame3) (defBody sSame3) (defScope sSame3) .none kVSs3 dcSs3 pmSs3 anSs3 cdSs3 ctSs3), slSs3⟩)
    (cSs3 : PySem.W.codeIn K cdSs3 "surely_same" = true)
    (kSs3 : PySem.W.keepIn K (.ref fSs3) = true)
    (aPn : PySem.W.nsIn K mainGlobals "pair_number" = some (some (.ref fPn)))
    (lPn : K.lookup fPn = some ⟨ocPn, odPn, .func (PySem.W.fnOf "pair_number" "pair_number" (defArgs sPairN) (defBody sPairN) (defScope sPairN) .none kVPn dcPn pmPn anPn cdPn ctPn), slPn⟩)
    (cPn : PySem.W.codeIn K cdPn "pair_number" = true)
    (kPn : PySem.W.keepIn K (.ref fPn) = true)
    (aTn : PySem.W.nsIn K mainGlobals "thing_number" = some (some (.ref fTn)))
    (lTn : K.lookup fTn = some ⟨ocTn, odTn, .func (PySem.W.fnOf "thing_number" "thing_number" (defArgs sThingN) (defBody sThingN) (defScope sThingN) .none kVTn dcTn pmTn anTn cdTn ctTn), slTn⟩)
    (cTn : PySem.W.codeIn K cdTn "thing_number" = true)
    (kTn : PySem.W.keepIn K (.ref fTn) = true)
    (aNm : PySem.W.nsIn K mainGlobals "number_made" = some (some (.ref fNm)))
    (lNm : K.lookup fNm = some ⟨ocNm, odNm, .func (PySem.W.fnOf "number_made" "number_made" (defArgs sNumM) (defBody sNumM) (defScope sNumM) .none kVNm dcNm pmNm anNm cdNm ctNm), slNm⟩)
    (cNm : PySem.W.codeIn K cdNm "number_made" = true)
    (kNm : PySem.W.keepIn K (.ref fNm) = true)
    (aGo : PySem.W.nsIn K mainGlobals "go_on" = some (some (.ref fGo)))
    (lGo : K.lookup fGo = some ⟨ocGo, odGo, .func (PySem.W.fnOf "go_on" "go_on" (defArgs sGoOn) (defBody sGoOn) (defScope sGoOn) .none kVGo dcGo pmGo anGo cdGo ctGo), slGo⟩)
    (cGo : PySem.W.codeIn K cdGo "go_on" = true)
    (kGo : PySem.W.keepIn K (.ref fGo) = true)
    (aHw : PySem.W.nsIn K mainGlobals "how_it_goes" = some (some (.ref fHw)))
    (lHw : K.lookup fHw = some ⟨ocHw, odHw, .func (PySem.W.fnOf "how_it_goes" "how_it_goes" (defArgs sHow) (defBody sHow) (defScope sHow) .none kVHw dcHw pmHw anHw cdHw ctHw), slHw⟩)
    (cHw : PySem.W.codeIn K cdHw "how_it_goes" = true)
    (kHw : PySem.W.keepIn K (.ref fHw) = true)
    (aBa : PySem.W.nsIn K mainGlobals "_law_bag" = some (some (.ref fBa)))
    (lBa : K.lookup fBa = some ⟨ocBa, odBa, .func (PySem.W.fnOf "_law_bag" "_law_bag" (defArgs sBag) (defBody sBag) (defScope sBag) .none kVBa dcBa pmBa anBa cdBa ctBa), slBa⟩)
    (cBa : PySem.W.codeIn K cdBa "_law_bag" = true)
    (kBa : PySem.W.keepIn K (.ref fBa) = true)
    (aTa : PySem.W.nsIn K mainGlobals "_law_take" = some (some (.ref fTa)))
    (lTa : K.lookup fTa = some ⟨ocTa, odTa, .func (PySem.W.fnOf "_law_take" "_law_take" (defArgs sTake) (defBody sTake) (defScope sTake) .none kVTa dcTa pmTa anTa cdTa ctTa), slTa⟩)
    (cTa : PySem.W.codeIn K cdTa "_law_take" = true)
    (kTa : PySem.W.keepIn K (.ref fTa) = true)
    (aTh : PySem.W.nsIn K mainGlobals "_law_thing" = some (some (.ref fTh)))
    (lTh : K.lookup fTh = some ⟨ocTh, odTh, .func (PySem.W.fnOf "_law_thing" "_law_thing" (defArgs sThing) (defBody sThing) (defScope sThing) .none kVTh dcTh pmTh anTh cdTh ctTh), slTh⟩)
    (cTh : PySem.W.codeIn K cdTh "_law_thing" = true)
    (kTh : PySem.W.keepIn K (.ref fTh) = true)
    (aNa : PySem.W.nsIn K mainGlobals "_law_name" = some (some (.ref fNa)))
    (lNa : K.lookup fNa = some ⟨ocNa, odNa, .func (PySem.W.fnOf "_law_name" "_law_name" (defArgs sName) (defBody sName) (defScope sName) .none kVNa dcNa pmNa anNa cdNa ctNa), slNa⟩)
    (cNa : PySem.W.codeIn K cdNa "_law_name" = true)
    (kNa : PySem.W.keepIn K (.ref fNa) = true)
    (aDe : PySem.W.nsIn K mainGlobals "_law_deed" = some (some (.ref fDe)))
    (lDe : K.lookup fDe = some ⟨ocDe, odDe, .func (PySem.W.fnOf "_law_deed" "_law_deed" (defArgs sDeed) (defBody sDeed) (defScope sDeed) .none kVDe dcDe pmDe anDe cdDe ctDe), slDe⟩)
    (cDe : PySem.W.codeIn K cdDe "_law_deed" = true)
    (kDe : PySem.W.keepIn K (.ref fDe) = true)
    (aDs : PySem.W.nsIn K mainGlobals "_law_deeds" = some (some (.ref fDs)))
    (lDs : K.lookup fDs = some ⟨ocDs, odDs, .func (PySem.W.fnOf "_law_deeds" "_law_deeds" (defArgs sDeeds) (defBody sDeeds) (defScope sDeeds) .none kVDs dcDs pmDs anDs cdDs ctDs), slDs⟩)
    (cDs : PySem.W.codeIn K cdDs "_law_deeds" = true)
    (kDs : PySem.W.keepIn K (.ref fDs) = true)
    (aTo : PySem.W.nsIn K mainGlobals "_law_top" = some (some (.ref fTo)))
    (lTo : K.lookup fTo = some ⟨ocTo, odTo, .func (PySem.W.fnOf "_law_top" "_law_top" (defArgs sTop) (defBody sTop) (defScope sTop) .none kVTo dcTo pmTo anTo cdTo ctTo), slTo⟩)
    (cTo : PySem.W.codeIn K cdTo "_law_top" = true)
    (kTo : PySem.W.keepIn K (.ref fTo) = true)
    (aBo : PySem.W.nsIn K mainGlobals "_law_bounder" = some (some (.ref fBo)))
    (lBo : K.lookup fBo = some ⟨ocBo, odBo, .func (PySem.W.fnOf "_law_bounder" "_law_bounder" (defArgs sBo6) (defBody sBo6) (defScope sBo6) .none kVBo dcBo pmBo anBo cdBo ctBo), slBo⟩)
    (cBo : PySem.W.codeIn K cdBo "_law_bounder" = true)
    (kBo : PySem.W.keepIn K (.ref fBo) = true)
    (aLo6 : PySem.W.nsIn K mainGlobals "_law_long" = some (some (.ref fLo6)))
    (lLo6 : K.lookup fLo6 = some ⟨ocLo6, odLo6, .func (PySem.W.fnOf "_law_long" "_law_long" (defArgs sLo6) (defBody sLo6) (defScope sLo6) .none kVLo6 dcLo6 pmLo6 anLo6 cdLo6 ctLo6), slLo6⟩)
    (cLo6 : PySem.W.codeIn K cdLo6 "_law_long" = true)
    (kLo6 : PySem.W.keepIn K (.ref fLo6) = true)
    (aLr6 : PySem.W.nsIn K mainGlobals "_law_longer" = some (some (.ref fLr6)))
    (lLr6 : K.lookup fLr6 = some ⟨ocLr6, odLr6, .func (PySem.W.fnOf "_law_longer" "_law_longer" (defArgs sLr6) (defBody sLr6) (defScope sLr6) .none kVLr6 dcLr6 pmLr6 anLr6 cdLr6 ctLr6), slLr6⟩)
    (cLr6 : PySem.W.codeIn K cdLr6 "_law_longer" = true)
    (kLr6 : PySem.W.keepIn K (.ref fLr6) = true)
    (aRt : PySem.W.nsIn K mainGlobals "_law_right" = some (some (.ref fRt)))
    (lRt : K.lookup fRt = some ⟨ocRt, odRt, .func (PySem.W.fnOf "_law_right" "_law_right" (defArgs sRi6) (defBody sRi6) (defScope sRi6) .none kVRt dcRt pmRt anRt cdRt ctRt), slRt⟩)
    (cRt : PySem.W.codeIn K cdRt "_law_right" = true)
    (kRt : PySem.W.keepIn K (.ref fRt) = true)
    (aLaw : PySem.W.nsIn K mainGlobals "law" = some (some (.ref fLaw)))
    (lLaw : K.lookup fLaw = some ⟨ocLaw, odLaw, .func (PySem.W.fnOf "law" "law" (defArgs sLaw) (defBody sLaw) (defScope sLaw) .none kVLaw dcLaw pmLaw anLaw cdLaw ctLaw), slLaw⟩)
    (cLaw : PySem.W.codeIn K cdLaw "law" = true)
    (kLaw : PySem.W.keepIn K (.ref fLaw) = true)
    (aP : PySem.W.nsIn K mainGlobals "Program" = some (some (.ref CP)))
    (pgP : PySem.W.plainGet K CP Str.empty = true)
    (hdP : PySem.W.hasDictIn K CP = true)
    (poP : PySem.W.plainOver K CP = true)
    (saP : PySem.W.findIn K (.ref CP) "__setattr__" = some (some (.builtin "object.__setattr__")))
    (mkCP : PySem.W.makesIn K CP = true)
    (kcP : PySem.W.keepIn K (.ref CP) = true)
    (nDP : PySem.W.findIn K (.ref CP) "deeds" = some none)
    (nPP : PySem.W.findIn K (.ref CP) "plan" = some none)
    (caP : PySem.W.findIn K (.ref CP) "__class__" = some (some (.builtin "object.__class__")))
    (cmP : PySem.W.mroIn K CP (.type "object") = some true)
    (neP : PySem.W.findIn K (.ref CP) "__ne__" = some (some (.builtin "object.__ne__")))
    (aFm : PySem.W.nsIn K mainGlobals "FORMS" = some (some (.ref dF)))
    (lFm : K.lookup dF = some ⟨.type "dict", none, .dict esF nFm, #[]⟩)
    (litF : PySem.W.KeysLit w.params esF.toList)
    (lowF : (dF == sysModules) = false)
    (aN1 : PySem.W.nsIn K mainGlobals "MANY_NAMES" = some (some (.int 10 tN1)))
    (aN2 : PySem.W.nsIn K mainGlobals "MOST_DEEDS" = some (some (.int 4000 tN2)))
    (aN3 : PySem.W.nsIn K mainGlobals "MOST_FLOORS" = some (some (.int 8 tN3)))
    (kii : PySem.W.kitOne K (.type "int") (.type "int") = some true)
    (kib : PySem.W.kitOne K (.type "int") (.type "bool") = some false)
    (ktt : PySem.W.kitOne K (.type "tuple") (.type "tuple") = some true)
    (kss : PySem.W.kitOne K (.type "str") (.type "str") = some true)
    (fm0 : PySem.W.nsIn K dF "told" = some (some (.str "nt" tf0)))
    (fm1 : PySem.W.nsIn K dF "first" = some (some (.str "nn" tf1)))
    (fm2 : PySem.W.nsIn K dF "second" = some (some (.str "nn" tf2)))
    (fm3 : PySem.W.nsIn K dF "pair" = some (some (.str "nnn" tf3)))
    (fm4 : PySem.W.nsIn K dF "same" = some (some (.str "nnn" tf4)))
    (fm5 : PySem.W.nsIn K dF "while" = some (some (.str "nr" tf5)))
    (fm6 : PySem.W.nsIn K dF "if" = some (some (.str "nrr" tf6)))
    (aPI : PySem.W.findIn K (.ref CP) "__init__" = some (some (.ref fPI)))
    (iPI : PySem.W.isFn K (.ref fPI) = true)
    (lPI : K.lookup fPI = some ⟨ocPI, odPI, .func (PySem.W.fnOf "__init__" "Program.__init__" (defArgs sPInit) (defBody sPInit) (defScope sPInit) .none kVPI dcPI pmPI anPI cdPI ctPI), slPI⟩)
    (cPI : PySem.W.codeIn K cdPI "Program.__init__" = true)
    (kPI : PySem.W.keepIn K (.ref fPI) = true)
    (aPL : PySem.W.findIn K (.ref CP) "__len__" = some (some (.ref fPL)))
    (iPL : PySem.W.isFn K (.ref fPL) = true)
    (lPL : K.lookup fPL = some ⟨ocPL, odPL, .func (PySem.W.fnOf "__len__" "Program.__len__" (defArgs sPLen) (defBody sPLen) (defScope sPLen) .none kVPL dcPL pmPL anPL cdPL ctPL), slPL⟩)
    (cPL : PySem.W.codeIn K cdPL "Program.__len__" = true)
    (kPL : PySem.W.keepIn K (.ref fPL) = true)
    (aPE : PySem.W.findIn K (.ref CP) "__eq__" = some (some (.ref fPE)))
    (iPE : PySem.W.isFn K (.ref fPE) = true)
    (lPE : K.lookup fPE = some ⟨ocPE, odPE, .func (PySem.W.fnOf "__eq__" "Program.__eq__" (defArgs sPEq) (defBody sPEq) (defScope sPEq) .none kVPE dcPE pmPE anPE cdPE ctPE), slPE⟩)
    (cPE : PySem.W.codeIn K cdPE "Program.__eq__" = true)
    (kPE : PySem.W.keepIn K (.ref fPE) = true)
    (aCR : PySem.W.nsIn K mainGlobals "Run" = some (some (.ref CR)))
    (pgR : PySem.W.plainGet K CR Str.empty = true)
    (hdR : PySem.W.hasDictIn K CR = true)
    (poR : PySem.W.plainOver K CR = true)
    (saR : PySem.W.findIn K (.ref CR) "__setattr__" = some (some (.builtin "object.__setattr__")))
    (mkR : PySem.W.makesIn K CR = true)
    (kcR : PySem.W.keepIn K (.ref CR) = true)
    (caR : PySem.W.findIn K (.ref CR) "__class__" = some (some (.builtin "object.__class__")))
    (cmR : PySem.W.mroIn K CR (.type "object") = some true)
    (neR : PySem.W.findIn K (.ref CR) "__ne__" = some (some (.builtin "object.__ne__")))
    (n0R : PySem.W.findIn K (.ref CR) "word" = some none)
    (n1R : PySem.W.findIn K (.ref CR) "steps" = some none)
    (n2R : PySem.W.findIn K (.ref CR) "thing" = some none)
    (aRI : PySem.W.findIn K (.ref CR) "__init__" = some (some (.ref fRI)))
    (iRI : PySem.W.isFn K (.ref fRI) = true)
    (lRI : K.lookup fRI = some ⟨ocRI, odRI, .func (PySem.W.fnOf "__init__" "Run.__init__" (defArgs sRInit) (defBody sRInit) (defScope sRInit) (.ref TRI) kVRI dcRI pmRI anRI cdRI ctRI), slRI⟩)
    (cRI : PySem.W.codeIn K cdRI "Run.__init__" = true)
    (kRI : PySem.W.keepIn K (.ref fRI) = true)
    (tRI : K.lookup TRI = some ⟨otRI, odtRI, .seq #[.none] ntRI, sltRI⟩)
    (aRu : PySem.W.nsIn K mainGlobals "run" = some (some (.ref fRu)))
    (lRu : K.lookup fRu = some ⟨ocRu, odRu, .func (PySem.W.fnOf "run" "run" (defArgs sRun) (defBody sRun) (defScope sRun) (.ref TRu) kVRu dcRu pmRu anRu cdRu ctRu), slRu⟩)
    (cRu : PySem.W.codeIn K cdRu "run" = true)
    (kRu : PySem.W.keepIn K (.ref fRu) = true)
    (tRu : K.lookup TRu = some ⟨otRu, odtRu, .seq #[.int 2000 tkRu] ntRu, sltRu⟩)
    (aYE : PySem.W.nsIn K mainGlobals "YES" = some (some (.ref aY)))
    (lYE : K.lookup aY = some ⟨.type "tuple", odY, .seq #[.ref eY1, .ref eY2] nY, slY⟩)
    (lY1 : K.lookup eY1 = some ⟨.type "tuple", odY1, .seq #[] nY1, slY1⟩)
    (lY2 : K.lookup eY2 = some ⟨.type "tuple", odY2, .seq #[] nY2, slY2⟩)
    (aDp : PySem.W.nsIn K mainGlobals "DEPTHS" = some (some (.ref aD)))
    (lDp : K.lookup aD = some ⟨.type "tuple", odD, .seq #[.int 1 tD1, .int 2 tD2, .int 3 tD3] nD, slD⟩)
    (aMs : PySem.W.nsIn K mainGlobals "MOST_STANDS" = some (some (.int 300 tMs)))
    (aNil : PySem.W.nsIn K mainGlobals "NIL" = some (some (.int 0 tNil)))
    (aMk : PySem.W.nsIn K mainGlobals "MARK" = some (some (.int 1 tMark)))
    (aMde : PySem.W.nsIn K mainGlobals "MORE_DEEDS" = some (some (.int 3 tMd)))
    (aBh : PySem.W.nsIn K mainGlobals "BEHIND" = some (some (.ref aB)))
    (lBh : K.lookup aB = some ⟨.type "tuple", odB, .seq #[.ref eT] nB, slB⟩)
    (lBt : K.lookup eT = some ⟨.type "tuple", odT2, .seq #[.str "while" tB1, .int 0 tB2, .ref eR] nT2, slT2⟩)
    (lBr : K.lookup eR = some ⟨.type "tuple", odR, .seq #[.ref eD] nR, slR⟩)
    (lBd : K.lookup eD = some ⟨.type "tuple", odD2, .seq #[.str "second" tB3, .int 0 tB4, .int 0 tB5] nD2, slD2⟩)
    (aCSf : PySem.W.nsIn K mainGlobals "Shelf" = some (some (.ref S)))
    (pgSf : PySem.W.plainGet K S Str.empty = true)
    (hdSf : PySem.W.hasDictIn K S = true)
    (poSf : PySem.W.plainOver K S = true)
    (saSf : PySem.W.findIn K (.ref S) "__setattr__" = some (some (.builtin "object.__setattr__")))
    (mkSf : PySem.W.makesIn K S = true)
    (kcSf : PySem.W.keepIn K (.ref S) = true)
    (n0Sf : PySem.W.findIn K (.ref S) "heads" = some none)
    (n1Sf : PySem.W.findIn K (.ref S) "tails" = some none)
    (n2Sf : PySem.W.findIn K (.ref S) "sizes" = some none)
    (n3Sf : PySem.W.findIn K (.ref S) "marked" = some none)
    (n4Sf : PySem.W.findIn K (.ref S) "paired" = some none)
    (aCWl : PySem.W.nsIn K mainGlobals "Walk" = some (some (.ref W)))
    (pgWl : PySem.W.plainGet K W Str.empty = true)
    (hdWl : PySem.W.hasDictIn K W = true)
    (poWl : PySem.W.plainOver K W = true)
    (saWl : PySem.W.findIn K (.ref W) "__setattr__" = some (some (.builtin "object.__setattr__")))
    (mkWl : PySem.W.makesIn K W = true)
    (kcWl : PySem.W.keepIn K (.ref W) = true)
    (n0Wl : PySem.W.findIn K (.ref W) "plan" = some none)
    (n1Wl : PySem.W.findIn K (.ref W) "shelf" = some none)
    (n2Wl : PySem.W.findIn K (.ref W) "tellings" = some none)
    (n3Wl : PySem.W.findIn K (.ref W) "point" = some none)
    (n4Wl : PySem.W.findIn K (.ref W) "names" = some none)
    (aFi : PySem.W.findIn K (.ref S) "__init__" = some (some (.ref fFi)))
    (iFi : PySem.W.isFn K (.ref fFi) = true)
    (lFi : K.lookup fFi = some ⟨ocFi, odFi, .func (PySem.W.fnOf "__init__" "Shelf.__init__" (defArgs sShI) (defBody sShI) (defScope sShI) .none kVFi dcFi pmFi anFi cdFi ctFi), slFi⟩)
    (cFi : PySem.W.codeIn K cdFi "Shelf.__init__" = true)
    (kFi : PySem.W.keepIn K (.ref fFi) = true)
    (aWi : PySem.W.findIn K (.ref W) "__init__" = some (some (.ref fWi)))
    (iWi : PySem.W.isFn K (.ref fWi) = true)
    (lWi : K.lookup fWi = some ⟨ocWi, odWi, .func (PySem.W.fnOf "__init__" "Walk.__init__" (defArgs sWkI) (defBody sWkI) (defScope sWkI) .none kVWi dcWi pmWi anWi cdWi ctWi), slWi⟩)
    (cWi : PySem.W.codeIn K cdWi "Walk.__init__" = true)
    (kWi : PySem.W.keepIn K (.ref fWi) = true)
    (aCl : PySem.W.nsIn K mainGlobals "closed" = some (some (.ref fCl)))
    (lCl : K.lookup fCl = some ⟨ocCl, odCl, .func (PySem.W.fnOf "closed" "closed" (defArgs sClosed) (defBody sClosed) (defScope sClosed) (.ref TCl) kVCl dcCl pmCl anCl cdCl ctCl), slCl⟩)
    (cCl : PySem.W.codeIn K cdCl "closed" = true)
    (kCl : PySem.W.keepIn K (.ref fCl) = true)
    (tCl : K.lookup TCl = some ⟨otCl, odtCl, .seq #[.int 300 tkCl] ntCl, sltCl⟩)
    (aEl : PySem.W.nsIn K mainGlobals "endless" = some (some (.ref fEl)))
    (lEl : K.lookup fEl = some ⟨ocEl, odEl, .func (PySem.W.fnOf "endless" "endless" (defArgs sEndless) (defBody sEndless) (defScope sEndless) (.ref TEl) kVEl dcEl pmEl anEl cdEl ctEl), slEl⟩)
    (cEl : PySem.W.codeIn K cdEl "endless" = true)
    (kEl : PySem.W.keepIn K (.ref fEl) = true)
    (tEl : K.lookup TEl = some ⟨otEl, odtEl, .seq #[.int 2000 tkEl] ntEl, sltEl⟩)
    (aLt : PySem.W.nsIn K mainGlobals "late" = some (some (.ref fLt)))
    (lLt : K.lookup fLt = some ⟨ocLt, odLt, .func (PySem.W.fnOf "late" "late" (defArgs sLate) (defBody sLate) (defScope sLate) (.ref TLt) kVLt dcLt pmLt anLt cdLt ctLt), slLt⟩)
    (cLt : PySem.W.codeIn K cdLt "late" = true)
    (kLt : PySem.W.keepIn K (.ref fLt) = true)
    (tLt : K.lookup TLt = some ⟨otLt, odtLt, .seq #[.int 4000 tkLt] ntLt, sltLt⟩)
    (aN : PySem.W.nsIn K mainGlobals "TooGreat" = some (some (.ref N)))
    (xN : K.lookup N = some (excClassObj nmN qN N NN bsN [.type "OverflowError", .type "ArithmeticError", .type "Exception", .type "BaseException", .type "object"] true snN subN abN colN ddN m0N m1N m2N m3N m5N "OverflowError.__new__"))
    (ovN : PySem.W.excOver K N [.type "OverflowError", .type "ArithmeticError", .type "Exception", .type "BaseException", .type "object"] = true)
    (saN : PySem.W.findIn K (.ref N) "__setattr__" = some (some (.builtin "object.__setattr__")))
    (exN : PySem.W.subIn K (.ref N) (.type "BaseException") = some true)
    (tyN : PySem.W.typeIn K (.ref N) = some (.type "type"))
    (kN : PySem.W.keepIn K (.ref N) = true)
    (plN : PySem.W.findIn K (.ref N) "bound" = some none)
    (vV : PySem.W.findCls K (.type "OverflowError") (.type "type") "__init__" = some (.val (.builtin "OverflowError.__init__")))
    (iN : PySem.W.findIn K (.ref N) "__init__" = some (some (.ref fN)))
    (tfN : PySem.W.typeIn K (.ref fN) = some (.type "function"))
    (lN : K.lookup fN = some ⟨ocN, odN, .func (PySem.W.fnOf "__init__" "TooGreat.__init__" (defArgs sTg) (defBody sTg) (defScope sTg) .none kVN dcN pmN anN cdN ctN), slN⟩)
    (cN : PySem.W.codeIn K cdN "TooGreat.__init__" = true)
    (kfN : PySem.W.keepIn K (.ref fN) = true)
    (hdN : PySem.W.hasDictIn K N = true)
    (scN : PySem.W.subIn K (.ref N) (.ref N) = some true)
    (z_len : PySem.W.nsIn K mainGlobals "len" = some none)
    (z_range : PySem.W.nsIn K mainGlobals "range" = some none)
    (z_isinstance : PySem.W.nsIn K mainGlobals "isinstance" = some none)
    (z_abs : PySem.W.nsIn K mainGlobals "abs" = some none)
    (z_int : PySem.W.nsIn K mainGlobals "int" = some none)
    (z_str : PySem.W.nsIn K mainGlobals "str" = some none)
    (z_max : PySem.W.nsIn K mainGlobals "max" = some none)
    (z_min : PySem.W.nsIn K mainGlobals "min" = some none)
    (z_all : PySem.W.nsIn K mainGlobals "all" = some none)
    (z_bool : PySem.W.nsIn K mainGlobals "bool" = some none)
    (z_tuple : PySem.W.nsIn K mainGlobals "tuple" = some none)
    (z_zip : PySem.W.nsIn K mainGlobals "zip" = some none)
    (z_enumerate : PySem.W.nsIn K mainGlobals "enumerate" = some none)
    (z_list : PySem.W.nsIn K mainGlobals "list" = some none)
    (z_OverflowError : PySem.W.nsIn K mainGlobals "OverflowError" = some none)
    : ∃ fd : FuncData, (∀ (s : Shared) (v : Value), BindsTo s fd ⟨[v], []⟩ [("_law_script", v)]) ∧ ∀ base : Heap, K.In base → base.Ns mainGlobals mg → FnOk P w K mg base CX0 25 fa fd ["_law_script"] (spLaw K) := by
  have e := hfa.symm.trans (PySem.W.mg_of X G aLaw)
  cases e
  have FHd := fun_mk (st := sHead) lHd cHd kHd
  have bHd := FHd.binds (ps := ["self"]) fun _ _ _ _ _ _ us hl => match us, hl with | [_], _ => rfl
  have FTl := fun_mk (st := sTail) lTl cTl kTl
  have bTl := FTl.binds (ps := ["self"]) fun _ _ _ _ _ _ us hl => match us, hl with | [_], _ => rfl
  have FEq := fun_mk (st := sEq) lEq cEq kEq
  have bEq := FEq.binds (ps := ["self", "other"]) fun _ _ _ _ _ _ us hl => match us, hl with | [_, _], _ => rfl
  have FPa := fun_mk (st := sPairs) lPa cPa kPa
  have bPa := FPa.binds (ps := ["first", "second"]) fun _ _ _ _ _ _ us hl => match us, hl with | [_, _], _ => rfl
  have FAl := fun_mk (st := sAlike) lAl cAl kAl
  have bAl := FAl.binds (ps := ["one", "other"]) fun _ _ _ _ _ _ us hl => match us, hl with | [_, _], _ => rfl
  have FSg := fun_mk (st := sSigns) lSg cSg kSg
  have bSg := FSg.binds (ps := ["thing"]) fun _ _ _ _ _ _ us hl => match us, hl with | [_], _ => rfl
  have FIn := fun_mk (st := sIsName) lIn cIn kIn
  have bIn := FIn.binds (ps := ["part"]) fun _ _ _ _ _ _ us hl => match us, hl with | [_], _ => rfl
  have FFt := fun_mk (st := sFits) lFt cFt kFt
  have bFt := FFt.binds (ps := ["part", "sign"]) fun _ _ _ _ _ _ us hl => match us, hl with | [_, _], _ => rfl
  have FHf := fun_mk (st := sHasForm) lHf cHf kHf
  have bHf := FHf.binds (ps := ["deed"]) fun _ _ _ _ _ _ us hl => match us, hl with | [_], _ => rfl
  have FRi := fun_mk (st := sRowsIn) lRi cRi kRi
  have bRi := FRi.binds (ps := ["deed"]) fun _ _ _ _ _ _ us hl => match us, hl with | [_], _ => rfl
  have FLk := fun_mk (st := sLook) lLk cLk kLk
  have bLk := FLk.binds (ps := ["row", "floors", "ends"]) fun _ _ _ _ _ _ us hl => match us, hl with | [_, _, _], _ => rfl
  have FLy := fun_mk (st := sLay) lLy cLy kLy
  have bLy := FLy.binds (ps := ["row", "behind", "ends", "plan"]) fun _ _ _ _ _ _ us hl => match us, hl with | [_, _, _, _], _ => rfl
  have FYe := fun_mk (st := sYes) lYe cYe kYe
  have bYe := FYe.binds (ps := []) fun _ _ _ _ _ _ us hl => match us, hl with | [], _ => rfl
  have FFn := fun_mk (st := sFirst) lFn cFn kFn
  have bFn := FFn.binds (ps := ["thing"]) fun _ _ _ _ _ _ us hl => match us, hl with | [_], _ => rfl
  have FDo := fun_mk (st := sDo) lDo cDo kDo
  have bDo := FDo.binds (ps := ["program", "point", "names"]) fun _ _ _ _ _ _ us hl => match us, hl with | [_, _, _], _ => rfl
  have FMd := fun_mk (st := sMade) lMd cMd kMd
  have bMd := FMd.binds (ps := ["deed", "names"]) fun _ _ _ _ _ _ us hl => match us, hl with | [_, _], _ => rfl
  have FNu := fun_mk (st := sNumber) lNu cNu kNu
  have bNu := FNu.binds (ps := ["n"]) fun _ _ _ _ _ _ us hl => match us, hl with | [_], _ => rfl
  have FCtd := fun_mk (st := sCounted) lCtd cCtd kCtd
  have bCtd := FCtd.binds (ps := ["thing"]) fun _ _ _ _ _ _ us hl => match us, hl with | [_], _ => rfl
  have FCu := fun_mk (st := sCut) lCu cCu kCu
  have bCu := FCu.binds (ps := ["thing", "depth"]) fun _ _ _ _ _ _ us hl => match us, hl with | [_, _], _ => rfl
  have FCa := fun_mk (st := sCutA) lCa cCa kCa
  have bCa := FCa.binds (ps := ["told", "depth"]) fun _ _ _ _ _ _ us hl => match us, hl with | [_, _], _ => rfl
  have FCb := fun_mk (st := sCutB) lCb cCb kCb
  have bCb := FCb.binds (ps := ["thing", "depth"]) fun _ _ _ _ _ _ us hl => match us, hl with | [_, _], _ => rfl
  have FCs := fun_mk (st := sCutSt) lCs cCs kCs
  have bCs := FCs.binds (ps := ["program", "stand", "depth"]) fun _ _ _ _ _ _ us hl => match us, hl with | [_, _, _], _ => rfl
  have FWt := fun_mk (st := sWaysT) lWt cWt kWt
  have bWt := FWt.binds (ps := ["told", "ways"]) fun _ _ _ _ _ _ us hl => match us, hl with | [_, _], _ => rfl
  have FCm := fun_mk (st := sCutsM) lCm cCm kCm
  have bCm := FCm.binds (ps := ["deed", "cuts", "depth"]) fun _ _ _ _ _ _ us hl => match us, hl with | [_, _, _], _ => rfl
  have FSs3 := fun_mk (st := sSame3) lSs3 cSs3 kSs3
  have bSs3 := FSs3.binds (ps := ["one", "other"]) fun _ _ _ _ _ _ us hl => match us, hl with | [_, _], _ => rfl
  have FPn := fun_mk (st := sPairN) lPn cPn kPn
  have bPn := FPn.binds (ps := ["shelf", "one", "other"]) fun _ _ _ _ _ _ us hl => match us, hl with | [_, _, _], _ => rfl
  have FTn := fun_mk (st := sThingN) lTn cTn kTn
  have bTn := FTn.binds (ps := ["shelf", "thing"]) fun _ _ _ _ _ _ us hl => match us, hl with | [_, _], _ => rfl
  have FNm := fun_mk (st := sNumM) lNm cNm kNm
  have bNm := FNm.binds (ps := ["walk", "deed"]) fun _ _ _ _ _ _ us hl => match us, hl with | [_, _], _ => rfl
  have FGo := fun_mk (st := sGoOn) lGo cGo kGo
  have bGo := FGo.binds (ps := ["walk"]) fun _ _ _ _ _ _ us hl => match us, hl with | [_], _ => rfl
  have FHw := fun_mk (st := sHow) lHw cHw kHw
  have bHw := FHw.binds (ps := ["program", "thing", "budget"]) fun _ _ _ _ _ _ us hl => match us, hl with | [_, _, _], _ => rfl
  have FBa := fun_mk (st := sBag) lBa cBa kBa
  have bBa := FBa.binds (ps := ["_law_script", "_law_at"]) fun _ _ _ _ _ _ us hl => match us, hl with | [_, _], _ => rfl
  have FTa := fun_mk (st := sTake) lTa cTa kTa
  have bTa := FTa.binds (ps := ["_law_bag_here", "_law_many"]) fun _ _ _ _ _ _ us hl => match us, hl with | [_, _], _ => rfl
  have FTh := fun_mk (st := sThing) lTh cTh kTh
  have bTh := FTh.binds (ps := ["_law_bag_here", "_law_many"]) fun _ _ _ _ _ _ us hl => match us, hl with | [_, _], _ => rfl
  have FNa := fun_mk (st := sName) lNa cNa kNa
  have bNa := FNa.binds (ps := ["_law_bag_here"]) fun _ _ _ _ _ _ us hl => match us, hl with | [_], _ => rfl
  have FDe := fun_mk (st := sDeed) lDe cDe kDe
  have bDe := FDe.binds (ps := ["_law_bag_here", "_law_left", "_law_deep"]) fun _ _ _ _ _ _ us hl => match us, hl with | [_, _, _], _ => rfl
  have FDs := fun_mk (st := sDeeds) lDs cDs kDs
  have bDs := FDs.binds (ps := ["_law_bag_here", "_law_left", "_law_deep"]) fun _ _ _ _ _ _ us hl => match us, hl with | [_, _, _], _ => rfl
  have FTo := fun_mk (st := sTop) lTo cTo kTo
  have bTo := FTo.binds (ps := ["_law_bag_here", "_law_many"]) fun _ _ _ _ _ _ us hl => match us, hl with | [_, _], _ => rfl
  have FBo := fun_mk (st := sBo6) lBo cBo kBo
  have bBo := FBo.binds (ps := ["_law_bag_here"]) fun _ _ _ _ _ _ us hl => match us, hl with | [_], _ => rfl
  have FLo6 := fun_mk (st := sLo6) lLo6 cLo6 kLo6
  have bLo6 := FLo6.binds (ps := ["_law_more"]) fun _ _ _ _ _ _ us hl => match us, hl with | [_], _ => rfl
  have FLr6 := fun_mk (st := sLr6) lLr6 cLr6 kLr6
  have bLr6 := FLr6.binds (ps := ["_law_more"]) fun _ _ _ _ _ _ us hl => match us, hl with | [_], _ => rfl
  have FRt := fun_mk (st := sRi6) lRt cRt kRt
  have bRt := FRt.binds (ps := ["_law_asker", "_law_limit"]) fun _ _ _ _ _ _ us hl => match us, hl with | [_, _], _ => rfl
  have FLaw := fun_mk (st := sLaw) lLaw cLaw kLaw
  have bLaw := FLaw.binds (ps := ["_law_script"]) fun _ _ _ _ _ _ us hl => match us, hl with | [_], _ => rfl
  have APa : At K mg "pairs_in" sPairs ["first", "second"] fPa _ := ⟨FPa, PySem.W.mg_of X G aPa, bPa⟩
  have AAl : At K mg "alike" sAlike ["one", "other"] fAl _ := ⟨FAl, PySem.W.mg_of X G aAl, bAl⟩
  have ASg : At K mg "signs" sSigns ["thing"] fSg _ := ⟨FSg, PySem.W.mg_of X G aSg, bSg⟩
  have AIn : At K mg "is_name" sIsName ["part"] fIn _ := ⟨FIn, PySem.W.mg_of X G aIn, bIn⟩
  have AFt : At K mg "fits" sFits ["part", "sign"] fFt _ := ⟨FFt, PySem.W.mg_of X G aFt, bFt⟩
  have AHf : At K mg "has_form" sHasForm ["deed"] fHf _ := ⟨FHf, PySem.W.mg_of X G aHf, bHf⟩
  have ARi : At K mg "rows_in" sRowsIn ["deed"] fRi _ := ⟨FRi, PySem.W.mg_of X G aRi, bRi⟩
  have ALk : At K mg "look_through" sLook ["row", "floors", "ends"] fLk _ := ⟨FLk, PySem.W.mg_of X G aLk, bLk⟩
  have ALy : At K mg "lay_out" sLay ["row", "behind", "ends", "plan"] fLy _ := ⟨FLy, PySem.W.mg_of X G aLy, bLy⟩
  have AYe : At K mg "yes" sYes [] fYe _ := ⟨FYe, PySem.W.mg_of X G aYe, bYe⟩
  have AFn : At K mg "first_names" sFirst ["thing"] fFn _ := ⟨FFn, PySem.W.mg_of X G aFn, bFn⟩
  have ADo : At K mg "do_deed" sDo ["program", "point", "names"] fDo _ := ⟨FDo, PySem.W.mg_of X G aDo, bDo⟩
  have AMd : At K mg "thing_made" sMade ["deed", "names"] fMd _ := ⟨FMd, PySem.W.mg_of X G aMd, bMd⟩
  have ANu : At K mg "number" sNumber ["n"] fNu _ := ⟨FNu, PySem.W.mg_of X G aNu, bNu⟩
  have ACtd : At K mg "counted" sCounted ["thing"] fCtd _ := ⟨FCtd, PySem.W.mg_of X G aCtd, bCtd⟩
  have ACu : At K mg "cut" sCut ["thing", "depth"] fCu _ := ⟨FCu, PySem.W.mg_of X G aCu, bCu⟩
  have ACa : At K mg "cut_again" sCutA ["told", "depth"] fCa _ := ⟨FCa, PySem.W.mg_of X G aCa, bCa⟩
  have ACb : At K mg "cut_begin" sCutB ["thing", "depth"] fCb _ := ⟨FCb, PySem.W.mg_of X G aCb, bCb⟩
  have ACs : At K mg "cut_steps" sCutSt ["program", "stand", "depth"] fCs _ := ⟨FCs, PySem.W.mg_of X G aCs, bCs⟩
  have AWt : At K mg "ways_taken" sWaysT ["told", "ways"] fWt _ := ⟨FWt, PySem.W.mg_of X G aWt, bWt⟩
  have ACm : At K mg "cuts_made" sCutsM ["deed", "cuts", "depth"] fCm _ := ⟨FCm, PySem.W.mg_of X G aCm, bCm⟩
  have ASs3 : At K mg "surely_same" sSame3 ["one", "other"] fSs3 _ := ⟨FSs3, PySem.W.mg_of X G aSs3, bSs3⟩
  have APn : At K mg "pair_number" sPairN ["shelf", "one", "other"] fPn _ := ⟨FPn, PySem.W.mg_of X G aPn, bPn⟩
  have ATn : At K mg "thing_number" sThingN ["shelf", "thing"] fTn _ := ⟨FTn, PySem.W.mg_of X G aTn, bTn⟩
  have ANm : At K mg "number_made" sNumM ["walk", "deed"] fNm _ := ⟨FNm, PySem.W.mg_of X G aNm, bNm⟩
  have AGo : At K mg "go_on" sGoOn ["walk"] fGo _ := ⟨FGo, PySem.W.mg_of X G aGo, bGo⟩
  have AHw : At K mg "how_it_goes" sHow ["program", "thing", "budget"] fHw _ := ⟨FHw, PySem.W.mg_of X G aHw, bHw⟩
  have ABa : At K mg "_law_bag" sBag ["_law_script", "_law_at"] fBa _ := ⟨FBa, PySem.W.mg_of X G aBa, bBa⟩
  have ATa : At K mg "_law_take" sTake ["_law_bag_here", "_law_many"] fTa _ := ⟨FTa, PySem.W.mg_of X G aTa, bTa⟩
  have ATh : At K mg "_law_thing" sThing ["_law_bag_here", "_law_many"] fTh _ := ⟨FTh, PySem.W.mg_of X G aTh, bTh⟩
  have ANa : At K mg "_law_name" sName ["_law_bag_here"] fNa _ := ⟨FNa, PySem.W.mg_of X G aNa, bNa⟩
  have ADe : At K mg "_law_deed" sDeed ["_law_bag_here", "_law_left", "_law_deep"] fDe _ := ⟨FDe, PySem.W.mg_of X G aDe, bDe⟩
  have ADs : At K mg "_law_deeds" sDeeds ["_law_bag_here", "_law_left", "_law_deep"] fDs _ := ⟨FDs, PySem.W.mg_of X G aDs, bDs⟩
  have ATo : At K mg "_law_top" sTop ["_law_bag_here", "_law_many"] fTo _ := ⟨FTo, PySem.W.mg_of X G aTo, bTo⟩
  have ABo : At K mg "_law_bounder" sBo6 ["_law_bag_here"] fBo _ := ⟨FBo, PySem.W.mg_of X G aBo, bBo⟩
  have ALo6 : At K mg "_law_long" sLo6 ["_law_more"] fLo6 _ := ⟨FLo6, PySem.W.mg_of X G aLo6, bLo6⟩
  have ALr6 : At K mg "_law_longer" sLr6 ["_law_more"] fLr6 _ := ⟨FLr6, PySem.W.mg_of X G aLr6, bLr6⟩
  have ARt : At K mg "_law_right" sRi6 ["_law_asker", "_law_limit"] fRt _ := ⟨FRt, PySem.W.mg_of X G aRt, bRt⟩
  have DI : FunD K "__init__" "Thing.__init__" (defArgs sInit) (defBody sInit) (defScope sInit) [.non, .non] [] fI _ := ⟨⟨oI, odI, .ref TI, kVI, dcI, pmI, anI, cdI, ctI, slI, rfl, lI, cI, .inr ⟨by simp, TI, _, [.none, .none], nT, rfl, lT, rfl, .cons rfl (.cons rfl .nil)⟩, .inl rfl⟩, kI⟩
  have b0 := DI.binds1 (ps := ["self", "first", "second"]) 1 0 (by simp) rfl fun T kV doc pm an cdv ct us its h1 h2 => by
    match us, its, h1, h2 with
    | [a], [b, c], _, _ => exact ⟨_, rfl, rfl⟩
  have b3 := DI.binds1 (ps := ["self", "first", "second"]) 3 2 (by simp) rfl fun T kV doc pm an cdv ct us its h1 h2 => by
    match us, its, h1, h2 with
    | [a, b, c], [d, e], _, _ => exact ⟨_, rfl, rfl⟩
  obtain ⟨ds3, hv3, hb3⟩ := b3
  cases hv3
  have T : Txt K mg C := ⟨⟨pg, hd, po, sa⟩, nF, nS, nZ, PySem.W.mg_of X G aC, ⟨tM, PySem.W.mg_of X G aM⟩, PySem.W.mg_none_of X G z_len, PySem.W.mg_none_of X G z_range, PySem.W.mg_none_of X G z_isinstance, ca, cn, ct, cm, neC⟩
  have B : Blt mg := ⟨PySem.W.mg_none_of X G z_len, PySem.W.mg_none_of X G z_range, PySem.W.mg_none_of X G z_abs, PySem.W.mg_none_of X G z_int, PySem.W.mg_none_of X G z_str, PySem.W.mg_none_of X G z_max, PySem.W.mg_none_of X G z_min, PySem.W.mg_none_of X G z_all⟩
  have ml := PySem.W.mg_none_of X G z_list
  have frm : FrmC K w mg := ⟨⟨dF, esF, nFm, PySem.W.mg_of X G aFm, ⟨lFm, litF, lowF⟩, fun kf hkf => by
    simp only [forms, List.mem_cons, List.not_mem_nil, or_false] at hkf
    rcases hkf with rfl | rfl | rfl | rfl | rfl | rfl | rfl
    · exact ⟨_, fm0⟩
    · exact ⟨_, fm1⟩
    · exact ⟨_, fm2⟩
    · exact ⟨_, fm3⟩
    · exact ⟨_, fm4⟩
    · exact ⟨_, fm5⟩
    · exact ⟨_, fm6⟩⟩, ⟨tN1, PySem.W.mg_of X G aN1⟩, ⟨tN2, PySem.W.mg_of X G aN2⟩, ⟨tN3, PySem.W.mg_of X G aN3⟩, (PySem.W.mg_none_of X G z_bool), (PySem.W.mg_none_of X G z_tuple), (PySem.W.mg_none_of X G z_zip), (PySem.W.mg_none_of X G z_enumerate), kii, kib, ktt, kss⟩
  have TP : TxtP K mg CP := ⟨⟨pgP, hdP, poP, saP⟩, nDP, nPP, PySem.W.mg_of X G aP, caP, cn, ct, cmP, neP⟩
  have FPI := fun_mk (st := sPInit) lPI cPI kPI
  have FPL := fun_mk (st := sPLen) lPL cPL kPL
  have FPE := fun_mk (st := sPEq) lPE cPE kPE
  have bPI := FPI.binds (ps := ["self", "deeds"]) fun _ _ _ _ _ _ us hl => match us, hl with | [_, _], _ => rfl
  have bPL := FPL.binds (ps := ["self"]) fun _ _ _ _ _ _ us hl => match us, hl with | [_], _ => rfl
  have bPE := FPE.binds (ps := ["self", "other"]) fun _ _ _ _ _ _ us hl => match us, hl with | [_, _], _ => rfl
  have TR : TxtR K mg CR := ⟨⟨pgR, hdR, poR, saR⟩, n0R, n1R, n2R, PySem.W.mg_of X G aCR, caR, cn, ct, cmR, neR⟩
  have DRI : FunD K "__init__" "Run.__init__" (defArgs sRInit) (defBody sRInit) (defScope sRInit) [.non] [] fRI _ := ⟨⟨ocRI, odRI, .ref TRI, kVRI, dcRI, pmRI, anRI, cdRI, ctRI, slRI, rfl, lRI, cRI, .inr ⟨by simp, TRI, _, [.none], ntRI, rfl, tRI, rfl, .cons rfl .nil⟩, .inl rfl⟩, kRI⟩
  have DRu : FunD K "run" "run" (defArgs sRun) (defBody sRun) (defScope sRun) [.int 2000] [] fRu _ := ⟨⟨ocRu, odRu, .ref TRu, kVRu, dcRu, pmRu, anRu, cdRu, ctRu, slRu, rfl, lRu, cRu, .inr ⟨by simp, TRu, _, [.int 2000 tkRu], ntRu, rfl, tRu, rfl, .cons ⟨_, rfl⟩ .nil⟩, .inl rfl⟩, kRu⟩
  have bR3 := DRI.binds1 (ps := ["self", "word", "steps", "thing"]) 3 0 (by simp) rfl fun T kV doc pm an cdv ct us its h1 h2 => by
    match us, its, h1, h2 with
    | [a, b, c], [d], _, _ => exact ⟨_, rfl, rfl⟩
  have bR4 := DRI.binds1 (ps := ["self", "word", "steps", "thing"]) 4 1 (by simp) rfl fun T kV doc pm an cdv ct us its h1 h2 => by
    match us, its, h1, h2 with
    | [a, b, c, e], [d], _, _ => exact ⟨_, rfl, rfl⟩
  obtain ⟨dsR4, hvR4, hbR4⟩ := bR4
  cases hvR4
  have bU3 := DRu.binds1 (ps := ["program", "thing", "budget"]) 3 1 (by simp) rfl fun T kV doc pm an cdv ct us its h1 h2 => by
    match us, its, h1, h2 with
    | [a, b, c], [d], _, _ => exact ⟨_, rfl, rfl⟩
  obtain ⟨dsU3, hvU3, hbU3⟩ := bU3
  cases hvU3
  have TSf : TxtSh K mg S := ⟨⟨pgSf, hdSf, poSf, saSf⟩, n0Sf, n1Sf, n2Sf, n3Sf, n4Sf, PySem.W.mg_of X G aCSf⟩
  have TWl : TxtWk K mg W := ⟨⟨pgWl, hdWl, poWl, saWl⟩, n0Wl, n1Wl, n2Wl, n3Wl, n4Wl, PySem.W.mg_of X G aCWl⟩
  have FFi := fun_mk (st := sShI) lFi cFi kFi
  have bFi := FFi.binds (ps := ["self"]) fun _ _ _ _ _ _ us hl => match us, hl with | [_], _ => rfl
  have FWi := fun_mk (st := sWkI) lWi cWi kWi
  have bWi := FWi.binds (ps := ["self", "program", "shelf", "first"]) fun _ _ _ _ _ _ us hl => match us, hl with | [_, _, _, _], _ => rfl
  have DCl : FunD K "closed" "closed" (defArgs sClosed) (defBody sClosed) (defScope sClosed) [.int 300] [] fCl _ := ⟨⟨ocCl, odCl, .ref TCl, kVCl, dcCl, pmCl, anCl, cdCl, ctCl, slCl, rfl, lCl, cCl, .inr ⟨by simp, TCl, _, [.int 300 tkCl], ntCl, rfl, tCl, rfl, .cons ⟨_, rfl⟩ .nil⟩, .inl rfl⟩, kCl⟩
  have DEl : FunD K "endless" "endless" (defArgs sEndless) (defBody sEndless) (defScope sEndless) [.int 2000] [] fEl _ := ⟨⟨ocEl, odEl, .ref TEl, kVEl, dcEl, pmEl, anEl, cdEl, ctEl, slEl, rfl, lEl, cEl, .inr ⟨by simp, TEl, _, [.int 2000 tkEl], ntEl, rfl, tEl, rfl, .cons ⟨_, rfl⟩ .nil⟩, .inl rfl⟩, kEl⟩
  have DLt : FunD K "late" "late" (defArgs sLate) (defBody sLate) (defScope sLate) [.int 4000] [] fLt _ := ⟨⟨ocLt, odLt, .ref TLt, kVLt, dcLt, pmLt, anLt, cdLt, ctLt, slLt, rfl, lLt, cLt, .inr ⟨by simp, TLt, _, [.int 4000 tkLt], ntLt, rfl, tLt, rfl, .cons ⟨_, rfl⟩ .nil⟩, .inl rfl⟩, kLt⟩
  have b3Cl := DCl.binds1 (ps := ["program", "thing", "depth", "most"]) 4 1 (by simp) rfl fun T kV doc pm an cdv ct us its h1 h2 => by
    match us, its, h1, h2 with
    | [a, b, c, e], [d], _, _ => exact ⟨_, rfl, rfl⟩
  obtain ⟨ds3Cl, hv3Cl, hb3Cl⟩ := b3Cl
  cases hv3Cl
  have b3El := DEl.binds1 (ps := ["program", "thing", "budget"]) 3 1 (by simp) rfl fun T kV doc pm an cdv ct us its h1 h2 => by
    match us, its, h1, h2 with
    | [a, b, c], [d], _, _ => exact ⟨_, rfl, rfl⟩
  obtain ⟨ds3El, hv3El, hb3El⟩ := b3El
  cases hv3El
  have b2Lt := DLt.binds1 (ps := ["bounder", "budget"]) 1 0 (by simp) rfl fun T kV doc pm an cdv ct us its h1 h2 => by
    match us, its, h1, h2 with
    | [a], [d], _, _ => exact ⟨_, rfl, rfl⟩
  obtain ⟨ds2Lt, hv2Lt, hb2Lt⟩ := b2Lt
  have b3Lt := DLt.binds1 (ps := ["bounder", "budget"]) 2 1 (by simp) rfl fun T kV doc pm an cdv ct us its h1 h2 => by
    match us, its, h1, h2 with
    | [a, b], [d], _, _ => exact ⟨_, rfl, rfl⟩
  obtain ⟨ds3Lt, hv3Lt, hb3Lt⟩ := b3Lt
  cases hv3Lt
  have kbL := kb_dfltM (ps := ["bounder", "budget"]) DLt 0 ["bounder", "budget"] (by simp) fun T kV doc pm an cdv ct its us ws l1 l2 l3 => by
    match its, us, ws, l1, l2, l3 with
    | [d], [], [y, z], _, _, _ => exact ⟨_, rfl, rfl⟩
  refine ⟨PySem.W.fnOf "law" "law" (defArgs sLaw) (defBody sLaw) (defScope sLaw) .none kVLaw dcLaw pmLaw anLaw cdLaw ctLaw, fun s v => .of_eq rfl, fun base _ _ => ?_⟩
  have GI : FnOk P w K mg base CX0 2 fI _ ["self", "first", "second"] (spInit C) := ok_init DI T APa
  have M : Maker P w K mg base C fI _ := ⟨⟨mkC, aI, iI, kc⟩, GI, T.mgC, hb3, b0⟩
  have SE : Spc P w K mg base C "__eq__" 2 ["self", "other"] (spEqT C) := ⟨fEq, _, ⟨aEq, iEq⟩, ok_eq FEq T AAl, bEq⟩
  have dIN : Def P w K mg base "is_name" 1 ["part"] spIsName := ⟨fIn, _, AIn.mgf, kIn, ok_isName FIn B T frm, bIn⟩
  have dFt : Def P w K mg base "fits" 2 ["part", "sign"] (spFits K C) := ⟨fFt, _, PySem.W.mg_of X G aFt, kFt, ok_fits FFt B T frm dIN, bFt⟩
  have dHF : Def P w K mg base "has_form" 3 ["deed"] (spHasForm K C) := ⟨fHf, _, PySem.W.mg_of X G aHf, kHf, ok_hasForm FHf B T frm dFt, bHf⟩
  have dRI : Def P w K mg base "rows_in" 1 ["deed"] (spRowsIn K C) := ⟨fRi, _, ARi.mgf, kRi, ok_rowsIn FRi frm, bRi⟩
  have dLk : Def P w K mg base "look_through" 13 ["row", "floors", "ends"] (spLook K C 9) := ⟨fLk, _, ALk.mgf, kLk, ok_look FLk ALk.mgf bLk B T frm dHF dRI 9, bLk⟩
  have dLy : Def P w K mg base "lay_out" 11 ["row", "behind", "ends", "plan"] (spLay K C 9) := ⟨fLy, _, ALy.mgf, kLy, ok_lay FLy ALy.mgf bLy B frm dRI 9, bLy⟩
  have MP : MakerP P w K mg base C CP fPI _ := ⟨⟨mkCP, aPI, iPI, kcP⟩, ok_pinit FPI B T frm TP dLk dLy, TP.mgP, bPI⟩
  have FN := fun_mk (st := sTg) lN cN kfN
  have bN := FN.binds (ps := ["self", "bound"]) fun _ _ _ _ _ _ us hl => match us, hl with | [_, _], _ => rfl
  have gO : GexO K N := ⟨PySem.F.excBase_OverflowError, PySem.F.store_OverflowError, ⟨nmN, qN, NN, bsN, _, snN, subN, abN, colN, ddN, m0N, m1N, m2N, m3N, m5N, xN, fun _ => rfl⟩, ovN, saN, exN, tyN, kN⟩
  have tgC : TgC K mg N := ⟨PySem.W.mg_of X G aN, gO, plN, PySem.W.mg_none_of X G z_OverflowError, vV⟩
  have NM : TgM P w K mg base N fN _ := ⟨tgC, iN, tfN, ok_tg FN tgC, bN⟩
  have MXN : MakerN P w K mg base C fI N _ := ⟨⟨mkC, aI, iI, kc⟩, ok_initN DI T APa NM, T.mgC, hb3⟩
  have exm : PySem.W.exmOne K (.ref N) (.ref N) = some true := PySem.W.exm_ref exN hdN tyN scN
  have MH : Mth P w K mg base C "head" 1 ["self"] (spHead C) := ⟨fHd, _, ⟨aHd, iHd, kHd⟩, ok_head FHd T, bHd⟩
  have MT : Mth P w K mg base C "tail" 1 ["self"] (spTail C) := ⟨fTl, _, ⟨aTl, iTl, kTl⟩, ok_tail FTl T, bTl⟩
  have SPL : Spc P w K mg base CP "__len__" 1 ["self"] (spPLen K C CP) := ⟨fPL, _, ⟨aPL, iPL⟩, ok_plen FPL B TP, bPL⟩
  have MR : MkR P w K mg base CR fRI _ := ⟨⟨⟨mkR, aRI, iRI, kcR⟩, ok_rinit DRI TR, TR.mgR, hbR4⟩, hot_rinit DRI TR, bR3⟩
  have gMd := ok_made (P := P) (w := w) (base := base) (K := K) FMd T M MXN SE MH MT (ok_yes FYe M) AYe.mgf kYe bYe
  have gDo := ok_do (P := P) (w := w) (base := base) (CP := CP) FDo B T TP gMd AMd.mgf kMd bMd
  have DFn : Def P w K mg base "first_names" 4 ["thing"] (spFirst K C) := ⟨fFn, _, AFn.mgf, kFn, ok_first FFn (PySem.W.mg_of X G aN1) M, bFn⟩
  have DRun : Def P w K mg base "run" 7 ["program", "thing", "budget"] (spRun K C CP CR) := ⟨fRu, _, PySem.W.mg_of X G aRu, kRu, ok_run DRu B ml (PySem.W.mg_of X G aN) exm SPL DFn MR gDo ADo.mgf kDo bDo, hbU3⟩
  have mtu := PySem.W.mg_none_of X G z_tuple
  have hY : ∀ H, CuAt K H (.ref aY) yesC := fun H => Dp.tup (xs := [V.ref eY1, V.ref eY2]) (.inr ⟨_, _, nY, lYE, rfl, rfl, by show 2 ≤ sizeLine; decide, .cons rfl (.cons rfl .nil)⟩) (.cons (Dp.tup (.inr ⟨_, _, nY1, lY1, rfl, rfl, Nat.zero_le _, .nil⟩) .nil) (.cons (Dp.tup (.inr ⟨_, _, nY2, lY2, rfl, rfl, Nat.zero_le _, .nil⟩) .nil) .nil))
  have hDp : ∀ H, SqT K H aD [.int 1, .int 2, .int 3] := fun H => .inr ⟨_, _, nD, lDp, rfl, rfl, by show 3 ≤ sizeLine; decide, .cons ⟨_, rfl⟩ (.cons ⟨_, rfl⟩ (.cons ⟨_, rfl⟩ .nil))⟩
  have hBh : ∀ H, RAt K C H aB behD := fun H => ⟨[V.ref eT], .inr ⟨_, _, nB, lBh, rfl, rfl, by show 1 ≤ sizeLine; decide, .cons rfl .nil⟩, _, _, rfl, ⟨eT, eR, [V.ref eD], rfl, .inr ⟨_, _, nT2, lBt, rfl, rfl, by show 3 ≤ sizeLine; decide, .cons ⟨_, rfl⟩ (.cons ⟨_, rfl⟩ (.cons rfl .nil))⟩, by decide, .inr ⟨_, _, nR, lBr, rfl, rfl, by show 1 ≤ sizeLine; decide, .cons rfl .nil⟩, _, _, rfl, ⟨eD, rfl, .inr ⟨_, _, nD2, lBd, rfl, rfl, by show 3 ≤ sizeLine; decide, .cons ⟨_, rfl⟩ (.cons ⟨_, rfl⟩ (.cons ⟨_, rfl⟩ .nil))⟩, by decide, by decide⟩, rfl⟩, rfl⟩
  have DTk : Def P w K mg base "_law_take" 1 ["_law_bag_here", "_law_many"] spTake := ⟨fTa, _, ATa.mgf, kTa, ok_take FTa, bTa⟩
  have DTh : Def P w K mg base "_law_thing" 4 ["_law_bag_here", "_law_many"] (spThing C) := ⟨fTh, _, ATh.mgf, kTh, ok_thing FTh B M ATa, bTh⟩
  have DNm : Def P w K mg base "_law_name" 2 ["_law_bag_here"] spName := ⟨fNa, _, ANa.mgf, kNa, ok_name FNa DTk, bNa⟩
  have DDs : Def P w K mg base "_law_deeds" 14 ["_law_bag_here", "_law_left", "_law_deep"] (spDeeds K C 5) := ⟨fDs, _, ADs.mgf, kDs, ok_deeds FDs FDe B frm DTk DNm DTh ADs.mgf bDs ADe.mgf bDe 5, bDs⟩
  have DTo : Def P w K mg base "_law_top" 15 ["_law_bag_here", "_law_many"] (spTop K C) := ⟨fTo, _, ATo.mgf, kTo, ok_top FTo DDs, bTo⟩
  have DC : Def P w K mg base "cut" 6 ["thing", "depth"] (spCut K C 5) := ⟨fCu, _, ACu.mgf, kCu, ok_cut FCu ACu.mgf bCu T 5, bCu⟩
  have DCa : Def P w K mg base "cut_again" 6 ["told", "depth"] (spCutA K 5) := ⟨fCa, _, ACa.mgf, kCa, ok_cutA FCa ACa.mgf bCa 5, bCa⟩
  have DSs3 : Def P w K mg base "surely_same" 7 ["one", "other"] (spSame3 K 6) := ⟨fSs3, _, ASs3.mgf, kSs3, ok_same3 FSs3 ASs3.mgf bSs3 6, bSs3⟩
  have DWt : Def P w K mg base "ways_taken" 1 ["told", "ways"] (spWaysT K) := ⟨fWt, _, AWt.mgf, kWt, ok_waysT FWt ml, bWt⟩
  have DCm : Def P w K mg base "cuts_made" 8 ["deed", "cuts", "depth"] (spCutsM K C) := ⟨fCm, _, ACm.mgf, kCm, ok_cutsM FCm (PySem.W.mg_of X G aYE) hY DC DSs3, bCm⟩
  have DCs : Def P w K mg base "cut_steps" 9 ["program", "stand", "depth"] (spCutSt K C CP) := ⟨fCs, _, ACs.mgf, kCs, ok_cutSt FCs B TP SPL DWt DCm DCa, bCs⟩
  have DCb : Def P w K mg base "cut_begin" 7 ["thing", "depth"] (spCutB K C) := ⟨fCb, _, ACb.mgf, kCb, ok_cutB FCb mtu DC DFn, bCb⟩
  have DCl4 : Def P w K mg base "closed" 10 ["program", "thing", "depth", "most"] (spClosed K C CP) := ⟨fCl, _, PySem.W.mg_of X G aCl, kCl, ok_closed DCl B SPL DCb DCs, hb3Cl⟩
  have mNil := PySem.W.mg_of X G aNil
  have gPn := ok_pairN (P := P) (w := w) (base := base) FPn B TSf (PySem.W.mg_of X G aM) NM
  have DTn : Def P w K mg base "thing_number" 4 ["shelf", "thing"] (spThingN P w K C S) := ⟨fTn, _, ATn.mgf, kTn, ok_thingN FTn T mNil gPn APn.mgf kPn bPn, bTn⟩
  have gNm := ok_numM (P := P) (w := w) (base := base) FNm TWl TSf mNil gPn APn.mgf kPn bPn DTn
  have gGo := ok_goOn (P := P) (w := w) (base := base) FGo TWl TSf gNm ANm.mgf kNm bNm B
  have DHw : Def P w K mg base "how_it_goes" 8 ["program", "thing", "budget"] (spHow K C CP) := ⟨fHw, _, AHw.mgf, kHw, ok_how FHw B TWl TSf ⟨mkSf, aFi, iFi, kcSf⟩ (ok_shI FFi TSf mNil (PySem.W.mg_of X G aMk)) TSf.mgS bFi ⟨mkWl, aWi, iWi, kcWl⟩ (ok_wkI FWi TP TWl mNil (PySem.W.mg_of X G aN1)) TWl.mgW bWi DTn gGo AGo.mgf kGo bGo (PySem.W.mg_of X G aN) exm SPL, bHw⟩
  have DEl : Def P w K mg base "endless" 11 ["program", "thing", "budget"] (spEndless K C CP) := ⟨fEl, _, PySem.W.mg_of X G aEl, kEl, ok_endless DEl (PySem.W.mg_of X G aDp) hDp (PySem.W.mg_of X G aMs) DHw DCl4, hb3El⟩
  have DNu : Def P w K mg base "number" 4 ["n"] (spNumber C) := ⟨fNu, _, ANu.mgf, kNu, ok_number FNu T M, bNu⟩
  have SPE : Spc P w K mg base CP "__eq__" 21 ["self", "other"] (spPEq K C CP) := ⟨fPE, _, ⟨aPE, iPE⟩, ok_peq FPE T TP SE, bPE⟩
  have gLt := ok_late (P := P) (w := w) (base := base) DLt B TP TR (PySem.W.mg_of X G aMde) (PySem.W.mg_of X G aBh) hBh SPL MP DNu DRun DEl
  have DLt2 : Def P w K mg base "late" 16 ["bounder", "budget"] (spLate K C CP) := ⟨fLt, _, PySem.W.mg_of X G aLt, kLt, gLt, hb3Lt⟩
  have DLt4 : DefD P w K mg base "late" 16 ["bounder", "budget"] [.int 4000] (spLate K C CP) := ⟨⟨fLt, _, ds2Lt, PySem.W.mg_of X G aLt, kLt, gLt, hb2Lt, hv2Lt⟩⟩
  have KLt : DefM P w K mg base "late" 16 0 ["bounder", "budget"] ["bounder", "budget"] (spLate K C CP) := ⟨fLt, _, PySem.W.mg_of X G aLt, kLt, gLt, kbL⟩
  have DCt : Def P w K mg base "counted" 1 ["thing"] (spCounted C) := ⟨fCtd, _, ACtd.mgf, kCtd, ok_counted FCtd T, bCtd⟩
  have DBo : Def P w K mg base "_law_bounder" 16 ["_law_bag_here"] (spBo6 K C CP) := ⟨fBo, _, ABo.mgf, kBo, ok_bo6 FBo M MP DTk DTo DNu, bBo⟩
  have DLo : Def P w K mg base "_law_long" 4 ["_law_more"] (spLo6 K C) := ⟨fLo6, _, ALo6.mgf, kLo6, ok_lo6 FLo6 B M, bLo6⟩
  have DLr : Def P w K mg base "_law_longer" 4 ["_law_more"] (spLr6 K C) := ⟨fLr6, _, ALr6.mgf, kLr6, ok_lr6 FLr6 B M, bLr6⟩
  have DRi : Def P w K mg base "_law_right" 21 ["_law_asker", "_law_limit"] (spRi6 K C CP) := ⟨fRt, _, ARt.mgf, kRt, ok_ri6 FRt B (PySem.W.mg_none_of X G z_isinstance) (PySem.W.mg_none_of X G z_tuple) TP TR SE SPL DLt2 DNu DRun DEl, bRt⟩
  exact ok_law FLaw B TP MP SE SPE ⟨fBa, _, ABa.mgf, kBa, ok_bag FBa B, bBa⟩ DTk DBo DRi DLo DLr DLt2 DLt4 KLt DCt
theorem walk {l : PySem.W.OpenLaw} {q : Program} {loose : List Str} {XP : (Str → Option Value) → Heap → Prop} {YP : World → Heap → Prop} {d : DefRec} {K : Params → PySem.W.Frag} (hn : l.most = some 63) (hdf : d.params.defaults = [])
    (hY : ∀ (w : World) (h : Heap), YP w h → (K w.params).In h)
    (F : ∀ (w : World) (mg : Str → Option Value) (fa : Addr) (h : Heap), (K w.params).In h → h.Ns mainGlobals mg → mg d.name = some (.ref fa) →
      ∃ fd : FuncData, (∀ (s : Shared) (u : Value), BindsTo s fd ⟨[u], []⟩ [("_law_script", u)]) ∧ ∀ base : Heap, (K w.params).In base → base.Ns mainGlobals mg → FnOk l.prog w (K w.params) mg base CX0 25 fa fd ["_law_script"] (spLaw (K w.params))) :
    PySem.W.WalkO q loose XP YP l.row.toRowW d [] (fun f vs => PySem.call f vs) :=
  L2.walk_of (n := 63) (k := 25) (x := "_law_script") (CX := fun _ => CX0) (sp := fun w => spLaw (K w.params)) hn (by decide) hdf ⟨rfl, by decide, by decide⟩ hY F (fun _ _ a ns hl _ hS => ⟨a, ns, rfl, hS, hl, fun _ => rfl⟩) fun _ _ _ _ _ z => z
end Js

open PySem PySem.W PyProof.Rows in
set_option maxRecDepth 100000 in
set_option maxHeartbeats 0 in
theorem PySem.Challenge.cw_judgeslip_k36_late_ones_holds : PySem.Challenge.rw_judgeslip_k36_late_ones.Holds := by
  w_on; o_law; k_head; (case hw => w_witness2)
  k_fill
  refine Js.walk (l := PySem.Challenge.rw_judgeslip_k36_late_ones) rfl rfl (fun w h Y => PySem.W.kIn_of Y) ?F
  case F =>
    intro w mg fa h KX G hmg
    refine' Js.all_mk KX G hmg ?aC ?pg ?hd ?po ?sa ?mkC ?kc ?nF ?nS ?nZ ?ca ?cn ?ct ?cm ?neC ?aM ?aI ?iI ?lI ?cI ?kI ?lT ?aHd ?iHd ?lHd ?cHd ?kHd ?aTl ?iTl ?lTl ?cTl ?kTl ?aEq ?iEq ?lEq ?cEq ?kEq ?aPa ?lPa ?cPa ?kPa ?aAl ?lAl ?cAl ?kAl ?aSg ?lSg ?cSg ?kSg ?aIn ?lIn ?cIn ?kIn ?aFt ?lFt ?cFt ?kFt ?aHf ?lHf ?cHf ?kHf ?aRi ?lRi ?cRi ?kRi ?aLk ?lLk ?cLk ?kLk ?aLy ?lLy ?cLy ?kLy ?aYe ?lYe ?cYe ?kYe ?aFn ?lFn ?cFn ?kFn ?aDo ?lDo ?cDo ?kDo ?aMd ?lMd ?cMd ?kMd ?aNu ?lNu ?cNu ?kNu ?aCtd ?lCtd ?cCtd ?kCtd ?aCu ?lCu ?cCu ?kCu ?aCa ?lCa ?cCa ?kCa ?aCb ?lCb ?cCb ?kCb ?aCs ?lCs ?cCs ?kCs ?aWt ?lWt ?cWt ?kWt ?aCm ?lCm ?cCm ?kCm ?aSs3 ?lSs3 ?cSs3 ?kSs3 ?aPn ?lPn ?cPn ?kPn ?aTn ?lTn ?cTn ?kTn ?aNm ?lNm ?cNm ?kNm ?aGo ?lGo ?cGo ?kGo ?aHw ?lHw ?cHw ?kHw ?aBa ?lBa ?cBa ?kBa ?aTa ?lTa ?cTa ?kTa ?aTh ?lTh ?cTh ?kTh ?aNa ?lNa ?cNa ?kNa ?aDe ?lDe ?cDe ?kDe ?aDs ?lDs ?cDs ?kDs ?aTo ?lTo ?cTo ?kTo ?aBo ?lBo ?cBo ?kBo ?aLo6 ?lLo6 ?cLo6 ?kLo6 ?aLr6 ?lLr6 ?cLr6 ?kLr6 ?aRt ?lRt ?cRt ?kRt ?aLaw ?lLaw ?cLaw ?kLaw ?aP ?pgP ?hdP ?poP ?saP ?mkCP ?kcP ?nDP ?nPP ?caP ?cmP ?neP ?aFm ?lFm ?litF ?lowF ?aN1 ?aN2 ?aN3 ?kii ?kib ?ktt ?kss ?fm0 ?fm1 ?fm2 ?fm3 ?fm4 ?fm5 ?fm6 ?aPI ?iPI ?lPI ?cPI ?kPI ?aPL ?iPL ?lPL ?cPL ?kPL ?aPE ?iPE ?lPE ?cPE ?kPE ?aCR ?pgR ?hdR ?poR ?saR ?mkR ?kcR ?caR ?cmR ?neR ?n0R ?n1R ?n2R ?aRI ?iRI ?lRI ?cRI ?kRI ?tRI ?aRu ?lRu ?cRu ?kRu ?tRu ?aYE ?lYE ?lY1 ?lY2 ?aDp ?lDp ?aMs ?aNil ?aMk ?aMde ?aBh ?lBh ?lBt ?lBr ?lBd ?aCSf ?pgSf ?hdSf ?poSf ?saSf ?mkSf ?kcSf ?n0Sf ?n1Sf ?n2Sf ?n3Sf ?n4Sf ?aCWl ?pgWl ?hdWl ?poWl ?saWl ?mkWl ?kcWl ?n0Wl ?n1Wl ?n2Wl ?n3Wl ?n4Wl ?aFi ?iFi ?lFi ?cFi ?kFi ?aWi ?iWi ?lWi ?cWi ?kWi ?aCl ?lCl ?cCl ?kCl ?tCl ?aEl ?lEl ?cEl ?kEl ?tEl ?aLt ?lLt ?cLt ?kLt ?tLt ?aN ?xN ?ovN ?saN ?exN ?tyN ?kN ?plN ?vV ?iN ?tfN ?lN ?cN ?kfN ?hdN ?scN ?z_len ?z_range ?z_isinstance ?z_abs ?z_int ?z_str ?z_max ?z_min ?z_all ?z_bool ?z_tuple ?z_zip ?z_enumerate ?z_list ?z_OverflowError
    (case aC => k_is)
    (case pg => k_is)
    (case hd => k_is)
    (case po => k_is)
    (case sa => k_is)
    (case mkC => k_is)
    (case kc => k_is)
    (case nF => k_is)
    (case nS => k_is)
    (case nZ => k_is)
    (case ca => k_is)
    (case cn => k_is)
    (case ct => k_is)
    (case cm => k_is)
    (case neC => k_is)
    (case aM => k_is)
    (case aI => k_is)
    (case iI => k_is)
    (case lI => k_is)
    (case cI => k_is)
    (case kI => k_is)
    (case lT => k_is)
    (case aHd => k_is)
    (case iHd => k_is)
    (case lHd => k_is)
    (case cHd => k_is)
    (case kHd => k_is)
    (case aTl => k_is)
    (case iTl => k_is)
    (case lTl => k_is)
    (case cTl => k_is)
    (case kTl => k_is)
    (case aEq => k_is)
    (case iEq => k_is)
    (case lEq => k_is)
    (case cEq => k_is)
    (case kEq => k_is)
    (case aPa => k_is)
    (case lPa => k_is)
    (case cPa => k_is)
    (case kPa => k_is)
    (case aAl => k_is)
    (case lAl => k_is)
    (case cAl => k_is)
    (case kAl => k_is)
    (case aSg => k_is)
    (case lSg => k_is)
    (case cSg => k_is)
    (case kSg => k_is)
    (case aIn => k_is)
    (case lIn => k_is)
    (case cIn => k_is)
    (case kIn => k_is)
    (case aFt => k_is)
    (case lFt => k_is)
    (case cFt => k_is)
    (case kFt => k_is)
    (case aHf => k_is)
    (case lHf => k_is)
    (case cHf => k_is)
    (case kHf => k_is)
    (case aRi => k_is)
    (case lRi => k_is)
    (case cRi => k_is)
    (case kRi => k_is)
    (case aLk => k_is)
    (case lLk => k_is)
    (case cLk => k_is)
    (case kLk => k_is)
    (case aLy => k_is)
    (case lLy => k_is)
    (case cLy => k_is)
    (case kLy => k_is)
    (case aYe => k_is)
    (case lYe => k_is)
    (case cYe => k_is)
    (case kYe => k_is)
    (case aFn => k_is)
    (case lFn => k_is)
    (case cFn => k_is)
    (case kFn => k_is)
    (case aDo => k_is)
    (case lDo => k_is)
    (case cDo => k_is)
    (case kDo => k_is)
    (case aMd => k_is)
    (case lMd => k_is)
    (case cMd => k_is)
    (case kMd => k_is)
    (case aNu => k_is)
    (case lNu => k_is)
    (case cNu => k_is)
    (case kNu => k_is)
    (case aCtd => k_is)
    (case lCtd => k_is)
    (case cCtd => k_is)
    (case kCtd => k_is)
    (case aCu => k_is)
    (case lCu => k_is)
    (case cCu => k_is)
    (case kCu => k_is)
    (case aCa => k_is)
    (case lCa => k_is)
    (case cCa => k_is)
    (case kCa => k_is)
    (case aCb => k_is)
    (case lCb => k_is)
    (case cCb => k_is)
    (case kCb => k_is)
    (case aCs => k_is)
    (case lCs => k_is)
    (case cCs => k_is)
    (case kCs => k_is)
    (case aWt => k_is)
    (case lWt => k_is)
    (case cWt => k_is)
    (case kWt => k_is)
    (case aCm => k_is)
    (case lCm => k_is)
    (case cCm => k_is)
    (case kCm => k_is)
    (case aSs3 => k_is)
    (case lSs3 => k_is)
    (case cSs3 => k_is)
    (case kSs3 => k_is)
    (case aPn => k_is)
    (case lPn => k_is)
    (case cPn => k_is)
    (case kPn => k_is)
    (case aTn => k_is)
    (case lTn => k_is)
    (case cTn => k_is)
    (case kTn => k_is)
    (case aNm => k_is)
    (case lNm => k_is)
    (case cNm => k_is)
    (case kNm => k_is)
    (case aGo => k_is)
    (case lGo => k_is)
    (case cGo => k_is)
    (case kGo => k_is)
    (case aHw => k_is)
    (case lHw => k_is)
    (case cHw => k_is)
    (case kHw => k_is)
    (case aBa => k_is)
    (case lBa => k_is)
    (case cBa => k_is)
    (case kBa => k_is)
    (case aTa => k_is)
    (case lTa => k_is)
    (case cTa => k_is)
    (case kTa => k_is)
    (case aTh => k_is)
    (case lTh => k_is)
    (case cTh => k_is)
    (case kTh => k_is)
    (case aNa => k_is)
    (case lNa => k_is)
    (case cNa => k_is)
    (case kNa => k_is)
    (case aDe => k_is)
    (case lDe => k_is)
    (case cDe => k_is)
    (case kDe => k_is)
    (case aDs => k_is)
    (case lDs => k_is)
    (case cDs => k_is)
    (case kDs => k_is)
    (case aTo => k_is)
    (case lTo => k_is)
    (case cTo => k_is)
    (case kTo => k_is)
    (case aBo => k_is)
    (case lBo => k_is)
    (case cBo => k_is)
    (case kBo => k_is)
    (case aLo6 => k_is)
    (case lLo6 => k_is)
    (case cLo6 => k_is)
    (case kLo6 => k_is)
    (case aLr6 => k_is)
    (case lLr6 => k_is)
    (case cLr6 => k_is)
    (case kLr6 => k_is)
    (case aRt => k_is)
    (case lRt => k_is)
    (case cRt => k_is)
    (case kRt => k_is)
    (case aLaw => k_is)
    (case lLaw => k_is)
    (case cLaw => k_is)
    (case kLaw => k_is)
    (case aP => k_is)
    (case pgP => k_is)
    (case hdP => k_is)
    (case poP => k_is)
    (case saP => k_is)
    (case mkCP => k_is)
    (case kcP => k_is)
    (case nDP => k_is)
    (case nPP => k_is)
    (case caP => k_is)
    (case cmP => k_is)
    (case neP => k_is)
    (case aFm => k_is)
    (case lFm => k_is)
    (case litF => (repeat' (first | exact True.intro | refine ⟨⟨_, _, rfl, rfl⟩, ?_⟩)))
    (case lowF => (first | rfl | decide +kernel | k_is))
    (case aN1 => k_is)
    (case aN2 => k_is)
    (case aN3 => k_is)
    (case kii => (first | k_is | rfl | decide +kernel))
    (case kib => (first | k_is | rfl | decide +kernel))
    (case ktt => (first | k_is | rfl | decide +kernel))
    (case kss => (first | k_is | rfl | decide +kernel))
    (case fm0 => k_is)
    (case fm1 => k_is)
    (case fm2 => k_is)
    (case fm3 => k_is)
    (case fm4 => k_is)
    (case fm5 => k_is)
    (case fm6 => k_is)
    (case aPI => k_is)
    (case iPI => k_is)
    (case lPI => k_is)
    (case cPI => k_is)
    (case kPI => k_is)
    (case aPL => k_is)
    (case iPL => k_is)
    (case lPL => k_is)
    (case cPL => k_is)
    (case kPL => k_is)
    (case aPE => k_is)
    (case iPE => k_is)
    (case lPE => k_is)
    (case cPE => k_is)
    (case kPE => k_is)
    (case aCR => k_is)
    (case pgR => k_is)
    (case hdR => k_is)
    (case poR => k_is)
    (case saR => k_is)
    (case mkR => k_is)
    (case kcR => k_is)
    (case caR => k_is)
    (case cmR => k_is)
    (case neR => k_is)
    (case n0R => k_is)
    (case n1R => k_is)
    (case n2R => k_is)
    (case aRI => k_is)
    (case iRI => k_is)
    (case lRI => k_is)
    (case cRI => k_is)
    (case kRI => k_is)
    (case tRI => k_is)
    (case aRu => k_is)
    (case lRu => k_is)
    (case cRu => k_is)
    (case kRu => k_is)
    (case tRu => k_is)
    (case aYE => k_is)
    (case lYE => k_is)
    (case lY1 => k_is)
    (case lY2 => k_is)
    (case aDp => k_is)
    (case lDp => k_is)
    (case aMs => k_is)
    (case aNil => k_is)
    (case aMk => k_is)
    (case aMde => k_is)
    (case aBh => k_is)
    (case lBh => k_is)
    (case lBt => k_is)
    (case lBr => k_is)
    (case lBd => k_is)
    (case aCSf => k_is)
    (case pgSf => k_is)
    (case hdSf => k_is)
    (case poSf => k_is)
    (case saSf => k_is)
    (case mkSf => k_is)
    (case kcSf => k_is)
    (case n0Sf => k_is)
    (case n1Sf => k_is)
    (case n2Sf => k_is)
    (case n3Sf => k_is)
    (case n4Sf => k_is)
    (case aCWl => k_is)
    (case pgWl => k_is)
    (case hdWl => k_is)
    (case poWl => k_is)
    (case saWl => k_is)
    (case mkWl => k_is)
    (case kcWl => k_is)
    (case n0Wl => k_is)
    (case n1Wl => k_is)
    (case n2Wl => k_is)
    (case n3Wl => k_is)
    (case n4Wl => k_is)
    (case aFi => k_is)
    (case iFi => k_is)
    (case lFi => k_is)
    (case cFi => k_is)
    (case kFi => k_is)
    (case aWi => k_is)
    (case iWi => k_is)
    (case lWi => k_is)
    (case cWi => k_is)
    (case kWi => k_is)
    (case aCl => k_is)
    (case lCl => k_is)
    (case cCl => k_is)
    (case kCl => k_is)
    (case tCl => k_is)
    (case aEl => k_is)
    (case lEl => k_is)
    (case cEl => k_is)
    (case kEl => k_is)
    (case tEl => k_is)
    (case aLt => k_is)
    (case lLt => k_is)
    (case cLt => k_is)
    (case kLt => k_is)
    (case tLt => k_is)
    (case aN => k_is)
    (case xN => k_is)
    (case ovN => (first | kx_is | k_is | rfl | decide +kernel))
    (case saN => k_is)
    (case exN => k_is)
    (case tyN => k_is)
    (case kN => k_is)
    (case plN => k_is)
    (case vV => k_is)
    (case iN => k_is)
    (case tfN => k_is)
    (case lN => k_is)
    (case cN => k_is)
    (case kfN => k_is)
    (case hdN => k_is)
    (case scN => (first | rfl | k_is))
    (case z_len => k_is)
    (case z_range => k_is)
    (case z_isinstance => k_is)
    (case z_abs => k_is)
    (case z_int => k_is)
    (case z_str => k_is)
    (case z_max => k_is)
    (case z_min => k_is)
    (case z_all => k_is)
    (case z_bool => k_is)
    (case z_tuple => k_is)
    (case z_zip => k_is)
    (case z_enumerate => k_is)
    (case z_list => k_is)
    (case z_OverflowError => k_is)
