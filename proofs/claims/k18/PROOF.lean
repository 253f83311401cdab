import PyProof.Rows.All
import Wide.All
import OpenK.AllK
import Wide.FinOn
import PyProof.EqAt
import PyProof.EqKinds
import PyProof.TupleCall
import HandS.ForMost
import HandS.ForExc
import HandS.IsInst
import HandS.NoneIn
import HandS.Defaults
import HandS.MakeKw
import HandS.OwnEq
import HandS.Walk
import HandS.Rev
import HandS.FStr
import HandS.More
import KE.KCallOwn
import HandS.Conv
import HandS.Zip
import HandS.Zip0
import KE.GoesZip
import KE.GoesMore
import PyProof.NeKinds
import HandS.Replace
import KE.KDictCopyH
import HandS.Star
import PyProof.ListStr
import HandS.TryOnly
import HandS.ExcInit
import HandS.Steps
import HandS.TupLen
import HandS.ExcField
import HandS.ExcOwn
import HandS.WordsExc
import KE.KExcIs
import KE.KExcInit
import PyProof.ExcBaseAll.OverflowError
import PyProof.ExcBaseAll.ValueError
import HandS.HotCalls
import HandS.ExcInitHot
import HandS.ExcIs
import PyProof.Rows.EqNone
import HandS.Records
import HandS.TupAny
import HandS.TupMul
import HandS.Style
import KE.KExcLine
import PySem.Challenge.RW_judgeslip_k18_whole_programs_told
set_option Elab.async false
set_option linter.all false
set_option maxRecDepth 100000
set_option maxHeartbeats 2000000
/-! rules of our own: len, str, ==, != of an instance by its class's defs; x in a list of such -/
namespace JsLow
open PySem PySem.Spec PyProof.Rows PySem.W
section
variable {prog : Program} {w : World} {A : Around} {E : Value → Shared → Prop} {s : Shared} {K : Frag} {x C f : Addr} {ox : Obj} {od : Option Obj} {y tb : Value}
theorem ifBound_ne {M : Model} {args : List Value} {Q : Option Value → Shared → Prop} (X : K.In s.heap) (I : InstAt s.heap x ox C od) (hs : findIn K (.ref C) "__ne__" = some (some (.builtin "object.__ne__")))
    (h : wpAny M A (call (.builtin "object.__ne__") (.ref x :: args)) (fun v => Q (some v)) E s) : wpAny M A (callSpecialIfBound? (.ref x) "__ne__" args) Q E s := by
  simp only [callSpecialIfBound?, bindSpecialIfBound?]
  refine wpAny_holding (wpAny_bind (wpAny_bind (wpAny_bind (I.type.here ((looks_findIn X hs).here ?_)))))
  refine wpAny_bind (wpAny_askSetting (wpAny_ite ?_))
  have fin : wpAny M A (call (.builtin "object.__ne__") ([.ref x] ++ args) >>= fun v => pure (some v)) Q E s := wpAny_bind (wpAny_mono h (fun v s' h' => wpAny_pure h') fun _ _ h' => h')
  split
  · exact wpAny_bind (wpAny_of_eq (F.cmp_object.ne.bind _) (wpAny_pure (by exact fin)))
  · exact wpAny_tryCatch (wpAny_bind (wpAny_of_eq (F.cmp_object.ne.bind _) (wpAny_pure (by exact fin))))
theorem objNe_K {Q : Fin → Shared → Prop} (hu : A.units < cLine) (X : K.In s.heap) (I : InstAt s.heap x ox C od) (he : findIn K (.ref C) "__eq__" = some (some (.ref f))) (hf : isFn K (.ref f) = true)
    (hcall : wpAny (model prog w) A (call (.ref f) [.ref x, y]) (fun v s' => ∃ b, v = .bool b ∧ Q (.done (.ret (.bool (!b)))) s') E s) :
    wpAny (model prog w) A (Builtin.«object.__ne__» ⟨[.ref x, y], []⟩) Q E s := by
  unfold Builtin.«object.__ne__»
  repeat (first
    | with_reducible refine wpAny_cRoomFor hu ?_
    | (refine wpAny_bind (m := callSpecialIfBound? (.ref x) (Str.ofString "__eq__") [y])
        (ifBound_K X I he hf (wpAny_mono hcall (fun r s' hr => by
          obtain ⟨b, rfl, hq⟩ := hr
          repeat (first | exact hq | exact wpAny_pure hq | exact wpAny_truthy_bool hq | (refine wpAny_bind (m := truthy (.bool _)) (wpAny_truthy_bool ?_)) | wp_step)) fun _ _ e => e)))
    | wp_step)
/-- x != y by the class's __eq__ -/
theorem ne_K {Q : Value → Shared → Prop} (hu : A.units + 1 < cLine) (X : K.In s.heap) (I : InstAt s.heap x ox C od) (hb : Looks (model prog w) s.heap (typeOf y) tb) (hn : notFirst K C tb = true)
    (hm : mroIn K C (.type "object") = some true) (hne : findIn K (.ref C) "__ne__" = some (some (.builtin "object.__ne__"))) (he : findIn K (.ref C) "__eq__" = some (some (.ref f))) (hf : isFn K (.ref f) = true)
    (h : wpAny (model prog w) A.in1 (call (.ref f) [.ref x, y]) (fun v s' => ∃ b, v = .bool b ∧ Q (.bool (!b)) s') E s) : wpAny (model prog w) A (richCompare .NotEq (.ref x) y) Q E s := by
  have hu1 : A.in1.units < cLine := by show A.units + 1 < cLine; exact hu
  have one : wpAny (model prog w) A (tryCompare (.ref x) "__ne__" y) (fun r s' => ∃ v, r = some v ∧ Q v s') E s := by
    unfold tryCompare
    refine wpAny_bind (ifBound_ne X I hne ?_)
    refine wpAny_call (codeAny_call_builtin F.cmp_object.ne.plain F.cmpEntry_ne (check_slot F.cmpKind_ne F.cmpSplit_ne (I.type.andThen (looks_mroIn X hm)) (F.cmpArgs_ne _ _) (objNe_K (A := A.in1) hu1 X I he hf (wpAny_mono h (fun v s' hv => ?_) fun _ _ e => e))))
    obtain ⟨b, rfl, hq⟩ := hv
    first | exact ⟨b, rfl, wpAny_pure ⟨_, rfl, hq⟩⟩ | exact ⟨b, rfl, ⟨_, rfl, hq⟩⟩
  have hu0 : A.units < cLine := Nat.lt_of_succ_lt hu
  unfold richCompare
  simp only [oneThing_ref]
  refine wpAny_holding (wpAny_bind (wpAny_cRoomFor hu0 ?_))
  rw [cmpInfo_NotEq]
  dsimp only
  refine wpAny_bind (I.type.here (wpAny_bind (hb.here ?_)))
  split
  · rename_i q
    have e : subIn K tb (.ref C) = some false := by
      rcases Bool.or_eq_true_iff.mp hn with e | e
      · rw [beq_iff_eq.mp e] at q; simp at q
      · exact beq_iff_eq.mp e
    refine wpAny_bind ((looks_subIn X e).here ?_)
    simp only [Bool.false_eq_true, if_false]
    refine wpAny_bind (wpAny_mono one (fun r s' z => ?_) fun _ _ e => e)
    obtain ⟨v, rfl, hq⟩ := z
    exact wpAny_pure hq
  · refine wpAny_bind (wpAny_pure ?_)
    simp only [Bool.false_eq_true, if_false]
    refine wpAny_bind (wpAny_mono one (fun r s' z => ?_) fun _ _ e => e)
    obtain ⟨v, rfl, hq⟩ := z
    exact wpAny_pure hq
end
end JsLow

namespace L2
open PySem PySem.Spec PyProof.Rows
section
variable {X : Cx} {CX : CXT} {n : Nat} {C f : Addr} {fd : FuncData} {ps : List Str} {sp : Sp} {E : XK} {pins : List (Addr × Obj)} {σ : St} {H : Hp} {s : Shared}
/-- the callee runs somewhere below the body -/
theorem run_fnA {A : Around} {Q : VK} {us : List Value} {vs : List V} (F : FnOk X.prog X.w X.K X.mg X.base CX n f fd ps sp) (hr : Room n A) (e0 : Env0 X.prog X.w X.K X.mg X.base A X.stack s H) (hb : Binds X.K fd ps []) (hx : Passes CX X E)
    (I : Inv X pins σ H s) (r : Vals vs us) (h : sp vs H Q E) : wpAny (model X.prog X.w) A (call (.ref f) us) (EP X pins σ Q) X.xe s := by
  have hl : (us ++ []).length = ps.length := by rw [List.append_nil, ← r.length]; exact F.len _ _ _ _ h
  have hb' := hb s us I.kIn hl
  rw [List.append_nil] at hb'
  refine wpAny_call (codeAny_mono (F.run A X.stack s H ⟨us, []⟩ us vs Q E hr e0 hb' r h) fun r s' hq => ?_)
  cases r with
  | error e => exact hx pins σ H s e s' I hq
  | ok fl =>
    cases fl with
    | ret u => exact I.after hq
    | next => exact False.elim hq
    | brk => exact False.elim hq
    | cont => exact False.elim hq
theorem inst_of {a dx : Addr} {fs : List (Str × V)} (I : Inv X pins σ H s) (ha : H a = some (.ins C dx fs)) : ∃ od, PySem.W.InstAt s.heap a (PySem.W.instObj C dx) C (some od) := by
  obtain ⟨mA, J, _⟩ := ins_get I.hok ha
  obtain ⟨od, J, _⟩ := J.look
  exact ⟨od, J⟩
/-- what the text says of a class with a special def of its own -/
structure Own (K : PySem.W.Frag) (C : Addr) (name : Str) (f : Addr) : Prop where
  at_ : PySem.W.findIn K (.ref C) name = some (some (.ref f))
  fn : PySem.W.isFn K (.ref f) = true
/-- len(x) -/
def rLenOwn (C : Addr) (sp : Sp) (E : XK) : List V → Hp → VK → Prop := fun xs H Q => ∃ a dx fs, xs = [V.ref a] ∧ H a = some (.ins C dx fs) ∧ sp [.ref a] H (fun z H' => ∃ i : Int, z = .int i ∧ (0 ≤ i ∧ i < 2 ^ 63) ∧ Q (.int i) H') E
theorem call_lenOwn (o : Own X.K C "__len__" f) (F : FnOk X.prog X.w X.K X.mg X.base CX n f fd ps sp) (hb : Binds X.K fd ps []) (hr : Room (n + 1) X.A) (hx : Passes CX X E) : CallR X (.builtin "len") (rLenOwn C sp E) := by
  intro pins s σ H xs us Q I r h
  obtain ⟨a, dx, fs, rfl, ha, q⟩ := h
  obtain ⟨u, rfl, ru⟩ := vals1 r
  cases (show u = Value.ref a from ru)
  obtain ⟨od, J⟩ := inst_of I ha
  obtain ⟨m, hF⟩ := I.fr
  refine PySem.W.len_K hF I.ok.mod.kin J o.at_ o.fn (wpAny_mono (run_fnA (us := [.ref a]) (vs := [.ref a]) F hr.in1 I.env0.in1 hb hx I (.cons rfl .nil) q) (fun w s' z => ?_) fun _ _ x => x)
  obtain ⟨z', H', I', rz, i, ei, hi, qz⟩ := z
  subst ei
  obtain ⟨t, e⟩ := (show ∃ t, w = Value.int i t from rz)
  cases e
  exact ⟨hi, .int i, H', I'.tok _, ⟨_, rfl⟩, qz⟩
/-- str(x) -/
def rStrOwn (C : Addr) (sp : Sp) (E : XK) : List V → Hp → VK → Prop := fun xs H Q => ∃ a dx fs, xs = [V.ref a] ∧ H a = some (.ins C dx fs) ∧ sp [.ref a] H (fun z H' => ∃ i : Str, z = .str i ∧ Q (.str i) H') E
theorem call_strOwn (o : Own X.K C "__str__" f) (F : FnOk X.prog X.w X.K X.mg X.base CX n f fd ps sp) (hb : Binds X.K fd ps []) (hr : Room (n + 2) X.A) (hx : Passes CX X E) : CallR X (.type "str") (rStrOwn C sp E) := by
  intro pins s σ H xs us Q I r h
  obtain ⟨a, dx, fs, rfl, ha, q⟩ := h
  obtain ⟨u, rfl, ru⟩ := vals1 r
  cases (show u = Value.ref a from ru)
  obtain ⟨od, J⟩ := inst_of I ha
  have hr2 : Room n X.A.in1.in1 := (show Room (n + 1) X.A.in1 from Room.in1 hr).in1
  refine PySem.W.kso_call hr2.units0 I.kIn J o.at_ o.fn (wpAny_mono (run_fnA (us := [.ref a]) (vs := [.ref a]) F hr2 I.env0.in1.in1 hb hx I (.cons rfl .nil) q) (fun w s' z => ?_) fun _ _ x => x)
  obtain ⟨z', H', I', rz, i, ei, qz⟩ := z
  subst ei
  obtain ⟨t, e⟩ := (show ∃ t, w = Value.str i t from rz)
  cases e
  exact ⟨.str i, H', I', ⟨_, rfl⟩, qz⟩
/-- repr(x) -/
theorem call_reprOwn (o : Own X.K C "__repr__" f) (F : FnOk X.prog X.w X.K X.mg X.base CX n f fd ps sp) (hb : Binds X.K fd ps []) (hr : Room (n + 1) X.A) (hx : Passes CX X E) : CallR X (.builtin "repr") (rStrOwn C sp E) := by
  intro pins s σ H xs us Q I r h
  obtain ⟨a, dx, fs, rfl, ha, q⟩ := h
  obtain ⟨u, rfl, ru⟩ := vals1 r
  cases (show u = Value.ref a from ru)
  obtain ⟨od, J⟩ := inst_of I ha
  obtain ⟨m, hF⟩ := I.fr
  have hr2 : Room n X.A.in1 := Room.in1 hr
  refine PySem.W.repr_K hr2.units0 hF I.ok.mod.kin J o.at_ o.fn (wpAny_mono (run_fnA (us := [.ref a]) (vs := [.ref a]) F hr2 I.env0.in1 hb hx I (.cons rfl .nil) q) (fun w s' z => ?_) fun _ _ x => x)
  obtain ⟨z', H', I', rz, i, ei, qz⟩ := z
  subst ei
  obtain ⟨t, e⟩ := (show ∃ t, w = Value.str i t from rz)
  cases e
  exact ⟨.str i, H', I', ⟨_, rfl⟩, qz⟩
/-- x == y, both of the class at C, by its __eq__ -/
def rEqOwn (C : Addr) (sp : Sp) (E : XK) : R2 := fun x y H Q => ∃ a dx fs b dy gs, x = .ref a ∧ y = .ref b ∧ H a = some (.ins C dx fs) ∧ H b = some (.ins C dy gs) ∧ sp [x, y] H (fun z H' => ∃ b, z = .bl b ∧ Q (.bl b) H') E
def rNeOwn (C : Addr) (sp : Sp) (E : XK) : R2 := fun x y H Q => ∃ a dx fs b dy gs, x = .ref a ∧ y = .ref b ∧ H a = some (.ins C dx fs) ∧ H b = some (.ins C dy gs) ∧ sp [x, y] H (fun z H' => ∃ b, z = .bl b ∧ Q (.bl (!b)) H') E
/-- == of two of the class at A, below the body -/
theorem rc_own {A : Around} {Q : Bool → Hp → Prop} {a b dx dy : Addr} {fs gs : List (Str × V)} (o : Own X.K C "__eq__" f) (F : FnOk X.prog X.w X.K X.mg X.base CX n f fd ps sp) (hb : Binds X.K fd ps []) (hr : Room n A) (e0 : Env0 X.prog X.w X.K X.mg X.base A X.stack s H) (hx : Passes CX X E)
    (I : Inv X pins σ H s) (ha : H a = some (.ins C dx fs)) (hb' : H b = some (.ins C dy gs)) (q : sp [.ref a, .ref b] H (fun z H' => ∃ b, z = .bl b ∧ Q b H') E) :
    wpAny (model X.prog X.w) A (richCompare .Eq (.ref a) (.ref b)) (fun v s' => ∃ r, v = .bool r ∧ ∃ H', Inv X pins σ H' s' ∧ Q r H') X.xe s := by
  obtain ⟨od, J⟩ := inst_of I ha
  obtain ⟨od', J'⟩ := inst_of I hb'
  obtain ⟨m, hF⟩ := I.fr
  refine PySem.W.cmp_K (op := .Eq) (tb := .ref C) hr.units0 hF I.ok.mod.kin J J'.type (by simp [PySem.W.notFirst]) o.at_ o.fn (wpAny_mono (run_fnA (us := [.ref a, .ref b]) (vs := [.ref a, .ref b]) F hr e0 hb hx I (.cons rfl (.cons rfl .nil)) q) (fun w s' z => ?_) fun _ _ x => x)
  obtain ⟨z', H', I', rz, i, ei, qz⟩ := z
  subst ei
  cases (show w = Value.bool i from rz)
  exact ⟨i, rfl, H', I', qz⟩
theorem op_eqOwn (o : Own X.K C "__eq__" f) (F : FnOk X.prog X.w X.K X.mg X.base CX n f fd ps sp) (hb : Binds X.K fd ps []) (hr : Room n X.A) (hx : Passes CX X E) : OpR X (compareOp .Eq) (rEqOwn C sp E) := by
  intro pins s σ H x y v u Q I rx ry h
  obtain ⟨a, dx, fs, b, dy, gs, rfl, rfl, ha, hb', q⟩ := h
  cases (show v = Value.ref a from rx)
  cases (show u = Value.ref b from ry)
  show wpAny _ _ (richCompare .Eq (.ref a) (.ref b)) _ _ _
  refine wpAny_mono (rc_own (Q := fun r H' => Q (.bl r) H') o F hb hr I.env0 hx I ha hb' q) (fun w s' z => ?_) fun _ _ x => x
  obtain ⟨r, rfl, H', I', qz⟩ := z
  exact ⟨.bl r, H', I', rfl, qz⟩
/-- what != asks besides -/
structure OwnNe (K : PySem.W.Frag) (C : Addr) : Prop where
  ne : PySem.W.findIn K (.ref C) "__ne__" = some (some (.builtin "object.__ne__"))
  mro : PySem.W.mroIn K C (.type "object") = some true
theorem op_neOwn (o : Own X.K C "__eq__" f) (on : OwnNe X.K C) (F : FnOk X.prog X.w X.K X.mg X.base CX n f fd ps sp) (hb : Binds X.K fd ps []) (hr : Room (n + 1) X.A) (hx : Passes CX X E) : OpR X (compareOp .NotEq) (rNeOwn C sp E) := by
  intro pins s σ H x y v u Q I rx ry h
  obtain ⟨a, dx, fs, b, dy, gs, rfl, rfl, ha, hb', q⟩ := h
  cases (show v = Value.ref a from rx)
  cases (show u = Value.ref b from ry)
  show wpAny _ _ (richCompare .NotEq (.ref a) (.ref b)) _ _ _
  obtain ⟨od, J⟩ := inst_of I ha
  obtain ⟨od', J'⟩ := inst_of I hb'
  refine JsLow.ne_K (tb := .ref C) (hu_of hr) I.kIn J J'.type (by simp [PySem.W.notFirst]) on.mro on.ne o.at_ o.fn (wpAny_mono (run_fnA (us := [.ref a, .ref b]) (vs := [.ref a, .ref b]) F hr.in1 I.env0.in1 hb hx I (.cons rfl (.cons rfl .nil)) q) (fun w s' z => ?_) fun _ _ x => x)
  obtain ⟨z', H', I', rz, i, ei, qz⟩ := z
  subst ei
  cases (show w = Value.bool i from rz)
  exact ⟨i, rfl, .bl (!i), H', I', rfl, qz⟩
end
end L2

set_option Elab.async false
set_option linter.all false
set_option maxRecDepth 100000
set_option maxHeartbeats 2000000
namespace GQ
open PySem PySem.SeqAt
open AutoSeq1 (wpAny_loadPart')
open MeetsSeq MeetsSeq2 MeetsSeq3 SeqRoads2
section
variable {prog : Program} {w : World} {A : Around} {R : Result → Shared → Prop}
/-- x in a list: at each turn the list is read anew -/
def InI (prog : Program) (w : World) (A : Around) (R : Result → Shared → Prop) (l : Addr) (x : Value) (N : Nat) (I : Nat → Shared → Prop) : Prop :=
  ∀ i s, I i s → ∃ (items : Array Value) (n : Nat), s.heap.get? l = some { cls := .type "list", data := .seq items n } ∧ items.size = N ∧
    ∀ (h1 : i < items.size), wpAny (model prog w) A.in1 (eqBool items[i] x) (fun r s' => if r = true then R (.ok (.ret (.bool true))) s' else I (i + 1) s') (fun e s' => R (.error e) s') s
theorem in_loopG (l : Addr) (x : Value) (N : Nat) (I : Nat → Shared → Prop) (hl : InI prog w A R l x N I)
    (fin : ∀ s, I N s → R (.ok (.ret (.bool false))) s) (k : Nat) :
    ∀ i : Nat, N - i = k → i ≤ N → ∀ s, I i s →
      wpAny (model prog w) A.in1 (Builtin.«list.__contains__.loop» ⟨[.ref l, x, rawInt i], []⟩) (FinOf prog w A R) (fun e s' => R (.error e) s') s := by
  induction k with
  | zero =>
    intro i hk hi s h
    obtain ⟨items, n, hl1, hs1, _⟩ := hl _ _ h
    have hi' : i = N := by omega
    have hR : R (.ok (.ret (.bool false))) s := fin s (hi' ▸ h)
    obtain ⟨hp, g, d, tk, os⟩ := s
    wp_walk using wpAny_loadPart' hl1
    have hi1 : items[((i : Nat) : Int).toNat]? = none := by simp; omega
    rw [hi1]
    wp_walk
    exact hR
  | succ k ih =>
    intro i hk hi s h
    obtain ⟨items, n, hl1, hs1, turn⟩ := hl _ _ h
    have hlt : i < items.size := by omega
    have ht := turn hlt
    obtain ⟨hp, g, d, tk, os⟩ := s
    wp_walk using wpAny_loadPart' hl1
    have hi1 : items[((i : Nat) : Int).toNat]? = some items[i] := by simp [hlt]
    have hc : ((i : Int) + 1) = ((i + 1 : Nat) : Int) := by omega
    rw [hi1]
    refine wpAny_bind (wpAny_mono ht (fun r s2 h2 => ?_) fun _ _ x => x)
    cases r with
    | true =>
      rw [if_pos rfl] at h2
      obtain ⟨hp2, g2, d2, tk2, os2⟩ := s2
      wp_walk
      exact h2
    | false =>
      rw [if_neg Bool.false_ne_true] at h2
      have hrec := ih (i + 1) (by omega) (by omega) s2 h2
      obtain ⟨hp2, g2, d2, tk2, os2⟩ := s2
      wp_walk
      rw [hc]
      exact ⟨plainId_quiet plain_contains_loop _, codeAny_builtin entry_contains_loop (by
        rw [Around.under_plainId plain_contains_loop _]
        exact hrec)⟩
theorem list_inG (l : Addr) (x : Value) (N : Nat) (I : Nat → Shared → Prop) (hl : InI prog w A R l x N I)
    (fin : ∀ s, I N s → R (.ok (.ret (.bool false))) s) {s : Shared} (h : I 0 s) :
    wpAny (model prog w) A.in1 (Builtin.«list.__contains__» ⟨[.ref l, x], []⟩) (FinOf prog w A R) (fun e s' => R (.error e) s') s := by
  obtain ⟨items, n, hl1, hs1, _⟩ := hl _ _ h
  have hrec := in_loopG (A := A) (R := R) l x N I hl fin _ 0 rfl (Nat.zero_le _) s h
  obtain ⟨hp, g, d, tk, os⟩ := s
  wp_walk using wpAny_loadPart' hl1
  exact ⟨plainId_quiet plain_contains_loop _, codeAny_builtin entry_contains_loop (by
    rw [Around.under_plainId plain_contains_loop _]
    exact hrec)⟩
theorem op_in_listG {E : Value → Shared → Prop} {s : Shared} {l : Addr} {x : Value} {N : Nat} {Q : Value → Shared → Prop} (I : Nat → Shared → Prop)
    (hl : InI prog w A (wants (fun v s' => ∃ b, v = .bool b ∧ Q (.bool b) s') E) l x N I)
    (fin : ∀ s, I N s → Q (.bool false) s) (h : I 0 s) : wpAny (model prog w) A (compareOp .In x (.ref l)) Q E s := by
  obtain ⟨items, n, hl1, hs1, _⟩ := hl _ _ h
  show wpAny _ A (do return .bool (← contains (.ref l) x)) Q E s
  refine wpAny_bind (wpAny_contains_slot ⟨_, hl1, rfl⟩ F.slot_list_contains (wpAny_mono (call_here F.slot_list_contains ⟨_, hl1, rfl⟩ F.entry_list_contains (F.args_list_contains_2 _ _)
    (list_inG (R := wants (fun v s' => ∃ b, v = .bool b ∧ Q (.bool b) s') E) l x N I hl (fun s' q => ⟨false, rfl, fin s' q⟩) h)) (fun v s' hv => ?_) fun _ _ e => e))
  obtain ⟨b, rfl, hq⟩ := hv
  exact wpAny_truthy_bool (wpAny_pure hq)
end
end GQ
namespace L2
open PySem PySem.Spec PyProof.Rows
/-- how == answers, by the abstract heap -/
abbrev Tells := V → V → Bool → Hp → Prop
def EqT (X : Cx) (n : Nat) (D : Tells) : Prop :=
  ∀ (A : Around) (pins : List (Addr × Obj)) (s : Shared) (σ : St) (H : Hp) (x y : V) (u v : Value) (r : Bool), Sub X n A → Inv X pins σ H s → RelV x u → RelV y v → D x y r H →
    wpAny (model X.prog X.w) A (eqBool u v) (fun r' s' => r' = r ∧ ∃ H', Inv X pins σ H' s' ∧ Same H H') X.xe s
def rInT (D : Tells) : R2 := fun x y H Q => ∃ (p : Addr) (xs : List V) (bs : List Bool), y = .ref p ∧ H p = some (.lst xs) ∧ bs.length = xs.length ∧ (∀ (i : Nat) z b, xs[i]? = some z → bs[i]? = some b → D z x b H) ∧ ∀ H', Same H H' → Q (.bl (bs.any id)) H'
theorem op_inT {X : Cx} {n : Nat} {D : Tells} (h : EqT X n D) (mon : ∀ x y r H H', Same H H' → D x y r H → D x y r H') (hr : Room (n + 1) X.A) : OpR X (compareOp .In) (rInT D) := by
  intro pins s σ H x y v u Q I rx ry hq
  obtain ⟨p, xs, bs, rfl, hp, hl, hd, q⟩ := hq
  cases (show u = Value.ref p from ry)
  refine GQ.op_in_listG (N := xs.length) (fun i s' => (∃ H', Inv X pins σ H' s' ∧ Same H H') ∧ (bs.take i).any id = false) (fun i s' z => ?_) (fun s' z => ?_) ⟨⟨H, I, Same.refl H⟩, by simp⟩
  · obtain ⟨⟨H1, I1, e1⟩, nb⟩ := z
    obtain ⟨z, its, k, r, e⟩ := I1.hok p _ (e1 _ _ hp)
    refine ⟨its.toArray, k, e, by rw [List.size_toArray, ← r.length], fun h1 => ?_⟩
    have h1' : i < its.length := by simpa using h1
    have k1 : i < xs.length := by rw [r.length]; exact h1'
    have k2 : i < bs.length := by rw [hl]; exact k1
    obtain ⟨w', hw, rw'⟩ := r.get (List.getElem?_eq_getElem k1)
    have g1 : its[i]? = some its.toArray[i] := by rw [List.getElem?_eq_getElem h1'] <;> simp
    rw [g1] at hw
    rw [Option.some.inj hw]
    refine wpAny_mono (h X.A.in1 pins s' σ H1 _ x w' v _ ⟨hr.in1, rfl⟩ I1 rw' rx (mon _ _ _ _ _ e1 (hd i _ _ (List.getElem?_eq_getElem k1) (List.getElem?_eq_getElem k2)))) (fun r' s2 q2 => ?_) fun _ _ x => x
    obtain ⟨er, H2, I2, e2⟩ := q2
    subst er
    have tk : (bs.take (i + 1)).any id = bs[i] := by
      rw [List.take_succ_eq_append_getElem k2, List.any_append, nb]
      simp
    cases hb : bs[i] with
    | true =>
      rw [if_pos rfl]
      refine ⟨true, rfl, .bl true, H2, I2, rfl, ?_⟩
      have qq := q H2 (e1.trans e2)
      have : bs.any id = true := List.any_eq_true.mpr ⟨bs[i], List.getElem_mem k2, by rw [hb]; rfl⟩
      rw [this] at qq
      exact qq
    | false =>
      rw [if_neg Bool.false_ne_true]
      exact ⟨⟨H2, I2, e1.trans e2⟩, by rw [tk, hb]⟩
  · obtain ⟨⟨H1, I1, e1⟩, nb⟩ := z
    rw [← hl, List.take_length] at nb
    have qq := q H1 e1
    rw [nb] at qq
    exact ⟨.bl false, H1, I1, rfl, qq⟩
/-- == inside a list of two of the class at C -/
theorem eqT_own {X : Cx} {CX : CXT} {n : Nat} {C f : Addr} {fd : FuncData} {ps : List Str} {sp : Sp} {E : XK} {D : Tells} (o : Own X.K C "__eq__" f) (F : FnOk X.prog X.w X.K X.mg X.base CX n f fd ps sp) (hb : Binds X.K fd ps []) (hx : Passes CX X E)
    (hD : ∀ x y r H, D x y r H → ∃ a b dx dy fs gs, x = .ref a ∧ y = .ref b ∧ H a = some (.ins C dx fs) ∧ H b = some (.ins C dy gs) ∧ (a = b → r = true) ∧ sp [.ref a, .ref b] H (fun z H' => ∃ b, z = .bl b ∧ b = r ∧ Same H H') E) : EqT X n D := by
  intro A pins s σ H x y u v r sb I rx ry d
  obtain ⟨a, b, dx, dy, fs, gs, rfl, rfl, ha, hb', hab, q⟩ := hD _ _ _ _ d
  cases (show u = Value.ref a from rx)
  cases (show v = Value.ref b from ry)
  by_cases hc : a = b
  · subst hc
    rw [hab rfl]
    exact SeqAt.EqAt.same (A := A) (s := s) (.ref a) X.prog X.w X.xe _ ⟨rfl, H, I, Same.refl H⟩
  · have e0 : Env0 X.prog X.w X.K X.mg X.base A X.stack s H := by
      have e := I.env0
      exact ⟨by rw [sb.fr]; exact e.frames, e.mod, e.bs, e.bsz, e.funs, e.frf, e.hok, e.bare⟩
    refine GQ.eqBool_refG hc (wpAny_mono (rc_own (Q := fun r' H' => r' = r ∧ Same H H') o F hb sb.room e0 hx I ha hb' q) (fun w s' z => ?_) fun _ _ x => x)
    obtain ⟨r', hw, H', I', er, sm⟩ := z
    exact ⟨r', hw, er, H', I', sm⟩

/-! ### o[a:c] = ys -/
def gSlice (to : TE) (tl th : TO) : TG := fun v σ H Q => to σ H fun o H1 => tl σ H1 fun l H2 => th σ H2 fun u H3 => ∃ (p q : Addr) (xs ys : List V) (a c : Int), o = .ref p ∧ v = .ref q ∧ l = some a ∧ u = some c ∧ H3 p = some (.lst xs) ∧ H3 q = some (.lst ys) ∧ p ≠ q ∧
  0 ≤ a ∧ a ≤ c ∧ c ≤ xs.length ∧ xs.length + ys.length ≤ sizeLine ∧ Q σ (upd H3 p (.lst (xs.take a.toNat ++ ys ++ xs.drop c.toNat)))
theorem pg_slice {X : Cx} {o : Expr} {lo hi : Option Expr} {to : TE} {tl th : TO} {p2 pos : Pos} (ho : PE X o to) (hl : PO X lo tl) (hu : PO X hi th)
    (ha : ∀ v, assign (.Subscript o (.Slice lo hi none p2) pos) X.env v = (do
      let ov ← holding [v] (eval o X.env)
      let iv ← holding [v, ov] (eval (.Slice lo hi none p2) X.env)
      standAt pos
      holding [v, ov, iv] (setItem ov iv v)
      release [iv, v, ov] []) := by intro _; rfl) : PG X (.Subscript o (.Slice lo hi none p2) pos) (gSlice to tl th) := by
  refine ⟨fun pins s σ H v u Q I r h => ?_⟩
  rw [ha]
  refine wpAny_bind (wpAny_holding (thn (ho.run pins s σ H _ I h) fun ov s1 ⟨x, H1, I1, r1, q1⟩ => ?_))
  refine wpAny_bind (wpAny_holding (wpAny_Slice (thn (hl.run pins s1 σ H1 _ I1 q1) fun vl s2 ⟨l, H2, I2, pl, q2⟩ => thn (hu.run pins s2 σ H2 _ I2 q2) fun vu s3 ⟨m, H3, I3, pu, q3⟩ => ?_)))
  rw [evalPart_none]
  refine wpAny_pure ?_
  have I4 : Inv X pins σ H3 { s3 with heap := s3.heap.push { cls := .type "slice", data := .fields #[vl, vu, .none] } } := I3.kept (t' := s3.toks) fun b ob q => Heap.get?_push_of_some _ q
  obtain ⟨p, q, xs, ys, a, c, rfl, rfl, rfl, rfl, hp, hq, hne, h0, hac, hc, hz, k⟩ := q3
  cases (show ov = Value.ref p from r1)
  cases (show u = Value.ref q from r)
  refine wpAny_bind (wpAny_standAt (wpAny_bind (wpAny_holding ?_)))
  have ra : RelV (.int a) vl := by cases pl; exact ⟨_, rfl⟩
  have rc : RelV (.int c) vu := by cases pu; exact ⟨_, rfl⟩
  exact set_slice I4 hp hq hne (Heap.IsSliceOf.new ..) ra rc h0 hac hc hz fun s' I5 => wpAny_release ⟨σ, _, I5, k⟩

/-! ### enumerate(text) -/
def Itse (x : Str) : It := ⟨fun i _ => i < x.cps.size, fun i H v H' => ∃ T c, v = .ref T ∧ H T = none ∧ H' = upd H T (.tup [.int (i : Nat), .str ⟨#[c]⟩]) ∧ x.cps[i]? = some c, fun i _ => i = x.cps.size⟩
theorem draws_str {prog : Program} {w : World} {A : Around} (hh : A.handled = none) (it : Addr) (x : Str) (t : Tok) :
    Draws prog w A it [it] x.cps.size (fun i v => ∃ c u, x.cps[i]? = some c ∧ v = .str ⟨#[c]⟩ u) (fun i h => h.IsStrIter it (strIterType x) x t i) := by
  unfold strIterType
  split
  · exact Draws.strAscii hh it x t
  · exact Draws.strWide hh it x t
theorem turn_enumS {P : Program} {w : World} {K : PySem.W.Frag} {elts : List Expr} {kk : Nat} {tpos : Pos} (x : Str) (t : Tok) (e it : Addr) :
    Turn P w K (.Tuple elts kk tpos) (Itse x) [e, it] e (fun i h => (∃ old, IsEnum h e it ((i : Nat) : Int) old) ∧ h.IsStrIter it (strIterType x) x t i ∧ e ≠ it) where
  mem := by simp
  obj := fun i h st b hb => by
    obtain ⟨⟨old, he⟩, ⟨o, ho, hc, hd⟩, _⟩ := st
    have e' : b = e ∨ b = it := by simpa using hb
    rcases e' with z | z
    · rw [z]; exact ⟨_, he, fun v q => nomatch q⟩
    · rw [z]; exact ⟨o, ho, fun v q => by rw [hd] at q; cases q⟩
  keep := fun i h h' st k => let ⟨⟨old, he⟩, ⟨o, ho, r⟩, hne⟩ := st; ⟨⟨old, k e (by simp) _ he⟩, ⟨o, k it (by simp) o ho, r⟩, hne⟩
  item := by
    intro X hP hw hK hc i pins s σ H E I hf st hg
    subst hP hw hK
    obtain ⟨⟨old, he⟩, hit, hne⟩ := st
    have hel : e < s.heap.objs.size := Heap.lt_size he
    have hil : it < s.heap.objs.size := by obtain ⟨_, q, _⟩ := hit; exact Heap.lt_size q
    refine wpAny_pyNext_enum_itemD (draws_str (A := X.A.in1) (show X.A.in1.handled = none from I.ok.hd hc) it x t) he hit hg hne (by simpa using hne) fun u h' tk hPx ho hit' hT hsz hk => ?_
    obtain ⟨c, tu, hcx, rfl⟩ := hPx
    refine ⟨_, rfl, wpAny_letOwnedTupleGo_enum (s := { s with heap := h', toks := tk + 1 }) ho fun h'' he' sb => ?_⟩
    have hT2 : h''.get? s.heap.objs.size = some { cls := .type "tuple", data := .seq #[.int i tk, .str ⟨#[c]⟩ tu] } := (sb.2 _ (Nat.ne_of_gt hel)).trans hT
    have new : ObjOk X.prog X.w (upd H s.heap.objs.size (.tup [.int (i : Nat), .str ⟨#[c]⟩])) h'' s.heap.objs.size (.tup [.int (i : Nat), .str ⟨#[c]⟩]) :=
      ⟨by show 2 ≤ sizeLine; decide, [.int i tk, .str ⟨#[c]⟩ tu], .cons ⟨_, rfl⟩ (.cons ⟨_, rfl⟩ .nil), ⟨_, hT2, rfl, _, rfl⟩⟩
    have I1 : Inv X pins σ (upd H s.heap.objs.size (.tup [.int (i : Nat), .str ⟨#[c]⟩])) { s with heap := h'', toks := tk + 1 } :=
      I.turnedNew (ch := [e, it]) (fun b ob hb q => (sb.2 b (fun z => hb (by simp [z]))).trans (hk b ob (fun z => hb (by simp [z])) (fun z => hb (by simp [z])) q)) hf (Nat.le_refl _) new
    refine ⟨.ref s.heap.objs.size, _, I1, rfl, ⟨_, c, rfl, I.hok.fresh (Nat.le_refl _), rfl, hcx⟩, ⟨⟨.str ⟨#[c]⟩ tu, ?_⟩, ?_, hne⟩, fun b hb => ?_⟩
    · have e1 : ((i + 1 : Nat) : Int) = (i : Int) + 1 := by omega
      rw [e1]; exact he'
    · obtain ⟨o, q, r⟩ := hit'
      exact ⟨o, (sb.2 it (Ne.symm hne)).trans q, r⟩
    · have hb' : b < s.heap.objs.size := by
        have e' : b = e ∨ b = it := by simpa using hb
        rcases e' with z | z
        · rw [z]; exact hel
        · rw [z]; exact hil
      rw [upd_ne (Nat.ne_of_lt hb')]
      exact (hf b hb).1
  done := by
    intro X hP hw hK hc i pins s σ H E I hf st hg
    subst hP hw hK
    obtain ⟨⟨old, he⟩, hit, hne⟩ := st
    obtain ⟨f0, f1, f2, f3, f4, f5⟩ := hf it (by simp)
    have hin : i = x.cps.size := hg
    subst hin
    exact wpAny_pyNext_enum_endD (draws_str (A := X.A.in1) (show X.A.in1.handled = none from I.ok.hd hc) it x t) he hit fun h' eb => ⟨rfl, I.turned (t' := s.toks) (fun b o hb q => eb b o hb q) f0 f1 f3 f4 f5⟩
  self := fun A i s Q E st h => let ⟨⟨_, he⟩, _⟩ := st; wpAny_pyIter_enum he h
def iEnumS (ta : TA) : TI := fun σ H R => ta σ H fun vs H1 => ∃ x, vs = [.str x] ∧ R (Itse x) H1
theorem pi_enumS {X : Cx} {e : Expr} {ta : TA} {p pos tpos : Pos} {elts : List Expr} {kk : Nat} (hg : Gl X "enumerate") (hm : X.mg "enumerate" = none) (ha : PA X [e] ta) (hs : starEach [e] X.env = [(false, eval e X.env)] := by rfl) :
    PI X (.Tuple elts kk tpos) (.Call (.Name "enumerate" p) [e] [] pos) (iEnumS ta) := by
  refine ⟨fun pins s σ H R I h => ?_⟩
  refine Call_ (ld_blt I hg hm boot_enumerate (PyProof.Rows.callWith_type1 (thn (ha.run pos pins s σ H _ I h) fun us s1 ⟨vs, H1, I1, r1, q1⟩ => ?_) hs rfl))
  obtain ⟨x, ex, q⟩ := q1
  subst ex
  obtain ⟨u, rfl, ru⟩ := vals1 r1
  obtain ⟨t, rfl⟩ := ru
  refine call_enumerate_str fun h' he hit hsz hk => wpAny_pyIter_enum he ?_
  have I2 : Inv X pins σ H1 { s1 with heap := h' } := I1.kept (t' := s1.toks) hk
  refine ⟨s1.heap.objs.size + 1, [s1.heap.objs.size + 1, s1.heap.objs.size], _, _, H1, rfl, I2, turn_enumS x t (s1.heap.objs.size + 1) s1.heap.objs.size, ⟨⟨.none, he⟩, hit, Nat.succ_ne_self _⟩, fun b hb => ?_, q⟩
  have e' : b = s1.heap.objs.size + 1 ∨ b = s1.heap.objs.size := by simpa using hb
  have hle : s1.heap.objs.size ≤ b := by
    rcases e' with z | z
    · rw [z]; exact Nat.le_add_right _ _
    · rw [z]; exact Nat.le_refl _
  exact I1.fpOk hle (I1.hok.fresh hle)
theorem walk_enumS {z : Str} : Walk (Itse z) z.cps.size (fun _ => True) (fun i H v H' => ∃ T c, v = .ref T ∧ H T = none ∧ H' = upd H T (.tup [.int (i : Nat), .str ⟨#[c]⟩]) ∧ z.cps[i]? = some c) :=
  ⟨fun _ _ h _ => h, fun _ _ => rfl, fun _ _ _ _ _ _ y => y⟩
end L2

set_option Elab.async false
set_option linter.all false
set_option maxRecDepth 100000
set_option maxHeartbeats 2000000
namespace L2
open PySem PySem.Spec PyProof.Rows
/-! ### len(range(n)) -/
theorem call_len_range {prog : Program} {w : World} {A : Around} {E : Value → Shared → Prop} {s : Shared} {r : Addr} {a b : Int} {t u v : Tok} {Q : Value → Shared → Prop} (hr : IsRange s.heap r a b 1 t u v) (h : (b - a).toNat < 2 ^ 62)
    (hq : Q (.int ((b - a).toNat : Nat) (s.toks + 1)) { s with toks := s.toks + 1 + 1 }) : wpAny (model prog w) A (call (.builtin "len") [.ref r]) Q E s := by
  have hT : s.TypeIs (.ref r) "range" := ⟨_, hr, rfl⟩
  have hn : Builtin.Range.rangeSize a b 1 = ((b - a).toNat : Nat) := rangeSize_nat a b
  refine call_len_slot (n := ((b - a).toNat : Nat)) hT F.slot_range_len (fun Q' hq' => wpAny_call_entry F.slot_range_len hT F.entry_range_len ?_ (F.args_range_len_1 _)) (by omega) (by omega) hq
  obtain ⟨hp, g, d, tk, os⟩ := s
  unfold Builtin.«range.__len__»
  have h2 : ¬ ((((b - a).toNat : Nat) : Int) ≥ 2 ^ 63) := by omega
  refine wpAny_bind (wpAny_pure ?_)
  show wpAny _ _ (Builtin.Range.rangeFields (.ref r) >>= _) _ _ _
  unfold Builtin.Range.rangeFields
  repeat (first
    | (with_reducible refine wpAny_bind ?_)
    | (with_reducible refine wpAny_field hr rfl rfl ?_)
    | (with_reducible refine wpAny_pure ?_)
    | (simp only [hn, if_neg h2])
    | wp_step)
  all_goals first | exact ⟨_, rfl, hq'⟩ | exact hq' | skip
def tLenRg (te : St → Hp → (Int → Int → Hp → Prop) → Prop) : TE := fun σ H Q => te σ H fun a b H1 => (b - a).toNat < 2 ^ 62 ∧ Q (.int ((b - a).toNat : Nat)) H1
theorem pe_lenRg {X : Cx} {e : Expr} {te : St → Hp → (Int → Int → Hp → Prop) → Prop} {p pos : Pos} (hg : Gl X "len") (hm : X.mg "len" = none) (he : PRg X e te) (na : starEach [e] X.env = (false, eval e X.env) :: starEach [] X.env := by rfl) :
    PE X (.Call (.Name "len" p) [e] [] pos) (tLenRg te) := by
  refine ⟨fun pins s σ H Q I h => ?_⟩
  refine Call_ (ld_blt I hg hm PySem.boot_len (PyProof.Rows.callWith_builtin1 (args_cons (thn (he pins s σ H _ I h) fun x s1 ⟨r, a, b, t, u, v, H1, ex, hr, I1, ok, q⟩ => args_nil ?_) na) na rfl))
  subst ex
  exact call_len_range hr ok ⟨.int _, H1, I1.tok _, ⟨_, rfl⟩, q⟩
end L2

set_option Elab.async false
set_option linter.all false
set_option maxRecDepth 100000
set_option maxHeartbeats 2000000
/-! for a, b in zip(list, text) -/
namespace JsZL
open PySem PySem.Spec PyProof.Rows L2
abbrev zs1 (h : Heap) (l : Addr) : Heap := h.push { cls := .type "list_iterator", data := .fields #[.ref l, .int 0 0] }
abbrev zs2 (h : Heap) (l : Addr) (x : Str) (t : Tok) : Heap := (zs1 h l).push { cls := .type (strIterType x), data := .fields #[.str x t, .int 0 0] }
abbrev zs3 (h : Heap) (l : Addr) (x : Str) (t : Tok) : Heap := (zs2 h l x t).push { cls := .type "tuple", data := .seq #[.ref h.objs.size, .ref (zs1 h l).objs.size] }
abbrev zs4 (h : Heap) (l : Addr) (x : Str) (t : Tok) : Heap := (zs3 h l x t).push { cls := .type "tuple", data := .seq #[.none, .none] }
abbrev zs5 (h : Heap) (l : Addr) (x : Str) (t : Tok) : Heap := (zs4 h l x t).push { cls := .type "zip", data := .fields #[.none, .bool false, .bool false, .ref (zs2 h l x t).objs.size, .ref (zs3 h l x t).objs.size] }
theorem new_zipLS (l : Addr) (x : Str) (t : Tok) (us : Array Value) :
    Meets (Builtin.«zip.__new__» ⟨[.type "zip", .ref l, .str x t], []⟩) (fun _ R s => s.heap.IsList l us ∧ R (.ok (.ret (.ref (zs4 s.heap l x t).objs.size))) { s with heap := zs5 s.heap l x t }) :=
  .of_wp fun prog w A R s h => by
    obtain ⟨hp, g, d, tk, os⟩ := s; obtain ⟨h1, h⟩ := h
    have hsub := sub_zip
    have hL : Heap.IsList (Shared.heap ⟨hp, g, d, tk, os⟩) l us := h1
    wp_walk using wpAny_pyIter_list hL, wpAny_pyIter_strU
    exact ⟨_, rfl, h⟩
section
variable {prog : Program} {w : World} {A : Around} {E : Value → Shared → Prop} {s : Shared}
theorem call_zipLS {l : Addr} {x : Str} {t : Tok} {us : Array Value} {Q : Value → Shared → Prop} (hl : s.heap.IsList l us)
    (h : ∀ h', IsZip h' (s.heap.objs.size + 4) (s.heap.objs.size + 2) (s.heap.objs.size + 3) .none → IsPair h' (s.heap.objs.size + 2) (.ref s.heap.objs.size) (.ref (s.heap.objs.size + 1)) →
      IsPair h' (s.heap.objs.size + 3) .none .none → h'.IsListIter s.heap.objs.size l 0 → h'.IsStrIter (s.heap.objs.size + 1) (strIterType x) x t 0 → h'.objs.size = s.heap.objs.size + 5 →
      (∀ c o, s.heap.get? c = some o → h'.get? c = some o) → Q (.ref (s.heap.objs.size + 4)) { s with heap := h' }) :
    wpAny (model prog w) A (call (.type "zip") [.ref l, .str x t]) Q E s := by
  refine callType_new F.called_zip (by decide) (F.typeCall_zip_2 _ _) (F.newCall_zip_2 _ _) (fun obj => F.args_object_init_3 obj _ _) F.entry_zip_new (new_zipLS l x t us) ⟨hl, ?_⟩
  have z1 : (zs1 s.heap l).objs.size = s.heap.objs.size + 1 := Heap.size_push ..
  have z2 : (zs2 s.heap l x t).objs.size = s.heap.objs.size + 2 := by rw [Heap.size_push, z1]
  have z3 : (zs3 s.heap l x t).objs.size = s.heap.objs.size + 3 := by rw [Heap.size_push, z2]
  have z4 : (zs4 s.heap l x t).objs.size = s.heap.objs.size + 4 := by rw [Heap.size_push, z3]
  have z5 : (zs5 s.heap l x t).objs.size = s.heap.objs.size + 5 := by rw [Heap.size_push, z4]
  have g5 : (zs5 s.heap l x t).get? (zs4 s.heap l x t).objs.size = some _ := Heap.get?_push_size _ rfl
  have g4 : (zs5 s.heap l x t).get? (zs3 s.heap l x t).objs.size = some _ := Heap.get?_push_of_some _ (Heap.get?_push_size _ rfl)
  have g3 : (zs5 s.heap l x t).get? (zs2 s.heap l x t).objs.size = some _ := Heap.get?_push_of_some _ (Heap.get?_push_of_some _ (Heap.get?_push_size _ rfl))
  have g2 : (zs5 s.heap l x t).get? (zs1 s.heap l).objs.size = some _ := Heap.get?_push_of_some _ (Heap.get?_push_of_some _ (Heap.get?_push_of_some _ (Heap.get?_push_size _ rfl)))
  have g1 : (zs5 s.heap l x t).get? s.heap.objs.size = some _ := Heap.get?_push_of_some _ (Heap.get?_push_of_some _ (Heap.get?_push_of_some _ (Heap.get?_push_of_some _ (Heap.get?_push_size _ rfl))))
  show _ ∧ _
  rw [z2, z3, z4] at g5
  rw [z1, z2] at g3
  rw [z3] at g4
  rw [z1] at g2
  rw [z4]
  exact ⟨⟨_, g5, rfl⟩, h _ g5 g3 g4 ⟨_, g1, rfl, rfl⟩ ⟨_, g2, rfl, rfl⟩ z5 fun c o q => Heap.get?_push_of_some _ (Heap.get?_push_of_some _ (Heap.get?_push_of_some _ (Heap.get?_push_of_some _ (Heap.get?_push_of_some _ q))))⟩
end
/-- the tuple at a as it stands at each turn, and the text's signs -/
def ItLS (K : PySem.W.Frag) (a : Addr) (t : Str) : It :=
  ⟨fun i H => ∃ (xs : List V) (x : V) (c : Nat), SqL K H a xs ∧ xs[i]? = some x ∧ t.cps[i]? = some c,
    fun i H v H' => ∃ T x c, v = .ref T ∧ H T = none ∧ H' = upd H T (.tup [x, .str ⟨#[c]⟩]) ∧ (∀ xs, SqL K H a xs → xs[i]? = some x) ∧ t.cps[i]? = some c,
    fun i H => ∃ xs : List V, SqL K H a xs ∧ i ≤ xs.length ∧ i ≤ t.cps.size ∧ (i = xs.length ∨ i = t.cps.size)⟩
theorem turn_LS {P : Program} {w : World} {K : PySem.W.Frag} {elts : List Expr} {kk : Nat} {tpos : Pos} {a z TI TO i1 i2 : Addr} (t : Str) (tk : Tok) (D : ZipSep2 z TI TO i1 i2 [i1, a] [i2]) (ha : a ≠ i1) :
    Turn P w K (.Tuple elts kk tpos) (ItLS K a t) [z, TI, TO, i1, i2] z (fun i h => IsZip h z TI TO .none ∧ IsPair h TI (.ref i1) (.ref i2) ∧ (∃ x y, IsPair h TO x y) ∧ h.IsListIter i1 a i ∧ h.IsStrIter i2 (strIterType t) t tk i) where
  mem := by simp
  obj := fun i h st c hc => by
    obtain ⟨hz, hTI, ⟨x, y, hTO⟩, ⟨o1, e1, _, d1⟩, ⟨o2, e2, _, d2⟩⟩ := st
    have e' : c = z ∨ c = TI ∨ c = TO ∨ c = i1 ∨ c = i2 := by simpa using hc
    rcases e' with q | q | q | q | q
    · rw [q]; exact ⟨_, hz, fun v q => nomatch q⟩
    · rw [q]; exact ⟨_, hTI, fun v q => nomatch q⟩
    · rw [q]; exact ⟨_, hTO, fun v q => nomatch q⟩
    · rw [q]; exact ⟨o1, e1, fun v q => by rw [d1] at q; cases q⟩
    · rw [q]; exact ⟨o2, e2, fun v q => by rw [d2] at q; cases q⟩
  keep := fun i h h' st k => by
    obtain ⟨hz, hTI, ⟨x, y, hTO⟩, h1, ⟨o, ho, r⟩⟩ := st
    exact ⟨k z (by simp) _ hz, k TI (by simp) _ hTI, ⟨x, y, k TO (by simp) _ hTO⟩, h1.at fun o q => k i1 (by simp) o q, ⟨o, k i2 (by simp) o ho, r⟩⟩
  item := by
    intro X hP hw hK hc i pins s σ H E I hf st hg
    subst hP hw hK
    obtain ⟨hz, hTI, ⟨x0, y0, hTO⟩, h1, h2⟩ := st
    obtain ⟨xs, x, c, hqx, hx, hcx⟩ := hg
    obtain ⟨us, rv, p0, _⟩ := I.list hqx
    have p := p0.isList
    obtain ⟨u, hu, ru⟩ := rv.get hx
    have hzl : z < s.heap.objs.size := Heap.lt_size hz
    have hh : X.A.in1.handled = none := I.ok.hd hc
    have li : i < us.toArray.size := by
      have := (List.getElem?_eq_some_iff.mp hu).1
      simpa using this
    have lc : i < t.cps.size := (Array.getElem?_eq_some_iff.mp hcx).1
    refine wpAny_pyNext_zipD2_item D (Draws.list hh i1 a ha us.toArray) (Draws.text hh i2 t tk) hz hTI hTO ⟨h1, p⟩ h2 li lc fun v1 v2 h' tk' q1 q2 z' TO' s1' s2' hT hsz hk => ?_
    obtain ⟨c', tu, hc', rfl⟩ := q2
    have ev : v1 = u := by
      have : us.toArray[i]? = some u := by simpa using hu
      exact Option.some.inj (q1.symm.trans this)
    subst ev
    cases Option.some.inj (hc'.symm.trans hcx)
    refine ⟨_, rfl, wpAny_letOwnedTupleGo_zip (s := { s with heap := h', toks := tk' }) z' fun h'' z'' sb => ?_⟩
    have hT2 : h''.get? s.heap.objs.size = some { cls := .type "tuple", data := .seq #[v1, .str ⟨#[c]⟩ tu] } := (sb.2 _ (Nat.ne_of_gt hzl)).trans hT
    have new : ObjOk X.prog X.w (upd H s.heap.objs.size (.tup [x, .str ⟨#[c]⟩])) h'' s.heap.objs.size (.tup [x, .str ⟨#[c]⟩]) := ⟨by show 2 ≤ sizeLine; decide, [v1, .str ⟨#[c]⟩ tu], .cons ru (.cons ⟨_, rfl⟩ .nil), ⟨_, hT2, rfl, _, rfl⟩⟩
    have I1 : Inv X pins σ (upd H s.heap.objs.size (.tup [x, .str ⟨#[c]⟩])) { s with heap := h'', toks := tk' } :=
      I.turnedNew (ch := [z, TI, TO, i1, i2]) (fun c o hb q => (sb.2 c (fun q' => hb (by simp [q']))).trans (hk c o (fun q' => hb (by simp [q'])) (fun q' => hb (by simp [q'])) (fun q' => hb (by simp [q'])) (fun q' => hb (by simp [q'])) q)) hf (Nat.le_refl _) new
    refine ⟨.ref s.heap.objs.size, _, I1, rfl, ⟨_, x, c, rfl, I.hok.fresh (Nat.le_refl _), rfl, fun l hl => by rw [I.list_inj hl hqx]; exact hx, hcx⟩, ⟨z'', ?_, ⟨v1, .str ⟨#[c]⟩ tu, ?_⟩, ?_, ?_⟩, fun b hb => ?_⟩
    · exact (sb.2 _ D.TIz).trans (hk _ _ D.TIz D.TITO D.TIi1 D.TIi2 hTI)
    · exact (sb.2 _ D.TOz).trans TO'
    · exact s1'.1.at fun o q => (sb.2 _ (Ne.symm D.zi1)).trans q
    · obtain ⟨o, ho, r⟩ := s2'
      exact ⟨o, (sb.2 _ (Ne.symm D.zi2)).trans ho, r⟩
    · have hlt : b < s.heap.objs.size := by
        have e' : b = z ∨ b = TI ∨ b = TO ∨ b = i1 ∨ b = i2 := by simpa using hb
        rcases e' with q | q | q | q | q
        · rw [q]; exact hzl
        · rw [q]; exact Heap.lt_size hTI
        · rw [q]; exact Heap.lt_size hTO
        · rw [q]; obtain ⟨_, e1, _⟩ := h1; exact Heap.lt_size e1
        · rw [q]; obtain ⟨_, e2, _⟩ := h2; exact Heap.lt_size e2
      rw [upd_ne (Nat.ne_of_lt hlt)]
      exact (hf b hb).1
  done := by
    intro X hP hw hK hc i pins s σ H E I hf st hg
    subst hP hw hK
    obtain ⟨hz, hTI, ⟨x0, y0, hTO⟩, h1, h2⟩ := st
    obtain ⟨xs, hqx, l1, l2, hend⟩ := hg
    obtain ⟨us, rv, p0, _⟩ := I.list hqx
    have p := p0.isList
    have lu : us.toArray.size = xs.length := by rw [List.size_toArray, ← rv.length]
    have hh : X.A.in1.handled = none := I.ok.hd hc
    exact wpAny_pyNext_zipD2_end D (Draws.list hh i1 a ha us.toArray) (Draws.text hh i2 t tk) hz hTI hTO ⟨h1, p⟩ h2 (by omega) l2 (by omega) fun h' tk' hk => ⟨rfl, I.turnedL (t' := tk') (ch := [z, TI, TO, i1, i2]) (fun c o hb q =>
      hk c o (fun q' => hb (by simp [q'])) (fun q' => hb (by simp [q'])) (fun q' => hb (by simp [q'])) (fun q' => hb (by simp [q'])) q) hf⟩
  self := fun A i s Q E st h => wpAny_pyIter_zip st.1 h
end JsZL
namespace L2
open PySem PySem.Spec PyProof.Rows
def iZipLS (K : PySem.W.Frag) (ta : TA) : TI := fun σ H R => ta σ H fun vs H1 => ∃ a t xs, vs = [.ref a, .str t] ∧ SqL K H1 a xs ∧ R (JsZL.ItLS K a t) H1
theorem pi_zipLS {X : Cx} {e e2 : Expr} {ta : TA} {p pos tpos : Pos} {elts : List Expr} {kk : Nat} (hg : Gl X "zip") (hm : X.mg "zip" = none) (ha : PA X [e, e2] ta)
    (hs : starEach [e, e2] X.env = (false, eval e X.env) :: starEach [e2] X.env := by rfl) (hpl : (backTo pos (starEach [e2] X.env)).any (·.1) = false := by rfl) : PI X (.Tuple elts kk tpos) (.Call (.Name "zip" p) [e, e2] [] pos) (iZipLS X.K ta) := by
  refine ⟨fun pins s σ H R I h => ?_⟩
  refine Call_ (ld_blt I hg hm PyProof.Rows.boot_zip (PyProof.Rows.callWith_type1 (thn (ha.run pos pins s σ H _ I h) fun us s1 ⟨vs, H1, I1, r1, q1⟩ => ?_) hs hpl))
  obtain ⟨a, t, xs, ex, hqx, q⟩ := q1
  subst ex
  cases r1 with
  | cons r rr =>
    cases rr with
    | cons r' rr =>
      cases rr
      cases r
      obtain ⟨tk, rfl⟩ := r'
      have fresh5 : ∀ c, c ∈ [s1.heap.objs.size + 4, s1.heap.objs.size + 2, s1.heap.objs.size + 3, s1.heap.objs.size, s1.heap.objs.size + 1] → FpOk X pins H1 c := fun c hcm => by
        have hle : s1.heap.objs.size ≤ c := by
          simp only [List.mem_cons, List.not_mem_nil, or_false] at hcm
          omega
        exact I1.fpOk hle (I1.hok.fresh hle)
      obtain ⟨its, rv, p0, _⟩ := I1.list hqx
      have p1 := p0.isList
      obtain ⟨o1, ho1, _⟩ := id p1
      have la := Heap.lt_size ho1
      refine JsZL.call_zipLS p1 fun h' hz hTI hTO h1 h2 hsz hk => wpAny_pyIter_zip hz ?_
      have I2 : Inv X pins σ H1 { s1 with heap := h' } := I1.kept (t' := s1.toks) hk
      have D : ZipSep2 (s1.heap.objs.size + 4) (s1.heap.objs.size + 2) (s1.heap.objs.size + 3) s1.heap.objs.size (s1.heap.objs.size + 1) [s1.heap.objs.size, a] [s1.heap.objs.size + 1] := by
        have la2 : ∀ k, s1.heap.objs.size + k ≠ a := fun k h => absurd la (by rw [← h]; exact Nat.not_lt.mpr (Nat.le_add_right _ _))
        constructor <;> simp <;> first | omega | exact la2 _
      exact ⟨s1.heap.objs.size + 4, [s1.heap.objs.size + 4, s1.heap.objs.size + 2, s1.heap.objs.size + 3, s1.heap.objs.size, s1.heap.objs.size + 1], _, _, H1, rfl, I2, JsZL.turn_LS t tk D (Nat.ne_of_lt la), ⟨hz, hTI, ⟨_, _, hTO⟩, h1, h2⟩, fresh5, q⟩
theorem walk_zipLS {K : PySem.W.Frag} {a : Addr} {t : Str} {xs : List V} {n : Nat} (hn : n = min xs.length t.cps.size) : Walk (JsZL.ItLS K a t) n (fun H => SqL K H a xs) (fun i H v H' => ∃ T x c, v = .ref T ∧ H T = none ∧ H' = upd H T (.tup [x, .str ⟨#[c]⟩]) ∧ xs[i]? = some x ∧ t.cps[i]? = some c) :=
  ⟨fun i H hi hq => by
      have h1 : i < xs.length := by omega
      have h2 : i < t.cps.size := by omega
      exact ⟨xs, xs[i], t.cps[i], hq, List.getElem?_eq_getElem h1, Array.getElem?_eq_getElem h2⟩, fun H hq => ⟨xs, hq, by omega, by omega, by omega⟩, fun i H v H' hi hq y => by
      obtain ⟨T, x, c, e1, e2, e3, e4, e5⟩ := y
      exact ⟨T, x, c, e1, e2, e3, e4 xs hq, e5⟩⟩
end L2

set_option Elab.async false
set_option linter.all false
set_option maxRecDepth 100000
set_option maxHeartbeats 2000000
/-! trees: what a thing is; their texts; how they stand in the heap -/
namespace Js
open PySem L2
inductive Tr where
  | nil
  | pr (l r : Tr)
  deriving DecidableEq
namespace Tr
def size : Tr → Nat
  | nil => 0
  | pr l r => 1 + l.size + r.size
def codes : Tr → List Nat
  | nil => [46]
  | pr l r => 40 :: (l.codes ++ (r.codes ++ [41]))
def text (t : Tr) : Str := ⟨t.codes.toArray⟩
theorem text_list (t : Tr) : t.text.cps.toList = t.codes := rfl
theorem codes_len : ∀ t : Tr, t.codes.length = 3 * t.size + 1
  | nil => rfl
  | pr l r => by
    have h1 := codes_len l
    have h2 := codes_len r
    simp only [codes, size, List.length_cons, List.length_append, List.length_nil]
    omega
theorem text_len (t : Tr) : t.text.length = 3 * t.size + 1 := by
  have h : t.text.length = t.codes.length := by
    show t.codes.toArray.size = _
    rw [List.size_toArray]
  rw [h, codes_len]
/-- codes are read in one way -/
theorem codes_pre : ∀ (t u : Tr) (p q : List Nat), t.codes ++ p = u.codes ++ q → t = u ∧ p = q
  | nil, nil, p, q, h => ⟨rfl, by simpa [codes] using h⟩
  | nil, pr l r, p, q, h => by simp [codes] at h
  | pr l r, nil, p, q, h => by simp [codes] at h
  | pr l r, pr l' r', p, q, h => by
    simp only [codes, List.cons_append, List.append_assoc, List.cons.injEq, true_and] at h
    obtain ⟨e1, h1⟩ := codes_pre l l' _ _ h
    obtain ⟨e2, h2⟩ := codes_pre r r' _ _ h1
    subst e1 e2
    simp only [List.nil_append, List.cons.injEq, true_and] at h2
    exact ⟨rfl, h2⟩
theorem codes_inj {t u : Tr} (h : t.codes = u.codes) : t = u := (codes_pre t u [] [] (by simpa using h)).1
theorem text_inj {t u : Tr} (h : t.text = u.text) : t = u := codes_inj (by rw [← text_list, ← text_list, h])
theorem size_nil {t : Tr} (h : t.size = 0) : t = nil := by
  cases t with
  | nil => rfl
  | pr l r => simp [size] at h
theorem small_eq {t u : Tr} (h : t.size = u.size) (h1 : t.size ≤ 1) : t = u := by
  cases t with
  | nil => exact (size_nil h.symm).symm
  | pr l r =>
    cases u with
    | nil => simp [size] at h
    | pr l' r' =>
      simp only [size] at h h1
      have e1 := size_nil (t := l) (by omega)
      have e2 := size_nil (t := r) (by omega)
      have e3 := size_nil (t := l') (by omega)
      have e4 := size_nil (t := r') (by omega)
      rw [e1, e2, e3, e4]
def head : Tr → Tr
  | nil => nil
  | pr l _ => l
def tail : Tr → Tr
  | nil => nil
  | pr _ r => r
end Tr
open Tr (small_eq)
/-! ### the attributes -/
theorem n_fs : ¬ (("first" : Str) = "second") := by decide +kernel
theorem n_fz : ¬ (("first" : Str) = "size") := by decide +kernel
theorem n_sf : ¬ (("second" : Str) = "first") := by decide +kernel
theorem n_sz : ¬ (("second" : Str) = "size") := by decide +kernel
def tf (f s : V) (n : Int) : List (Str × V) := putF "size" (.int n) (putF "second" s (putF "first" f []))
theorem tf_len (f s : V) (n : Int) : (tf f s n).length ≤ 3 := by
  unfold tf
  have h1 := length_putF "first" f []
  have h2 := length_putF "second" s (putF "first" f [])
  have h3 := length_putF "size" (.int n) (putF "second" s (putF "first" f []))
  simp only [List.length_nil] at h1
  omega
theorem tf_first (f s : V) (n : Int) : (tf f s n).lookup ("first" : Str) = some f := by
  unfold tf
  rw [lookup_putF, if_neg n_fz, lookup_putF, if_neg n_fs, lookup_putF, if_pos rfl]
theorem tf_second (f s : V) (n : Int) : (tf f s n).lookup ("second" : Str) = some s := by
  unfold tf
  rw [lookup_putF, if_neg n_sz, lookup_putF, if_pos rfl]
theorem tf_size (f s : V) (n : Int) : (tf f s n).lookup ("size" : Str) = some (.int n) := by
  unfold tf
  rw [lookup_putF, if_pos rfl]
theorem tf_no (f s : V) (n : Int) {m : Str} (h1 : ¬ m = "size") (h2 : ¬ m = "second") (h3 : ¬ m = "first") : (tf f s n).lookup m = none := by
  unfold tf
  rw [lookup_putF, if_neg h1, lookup_putF, if_neg h2, lookup_putF, if_neg h3]
  all_goals rfl
/-- a thing stands at a -/
inductive Th (C : Addr) (H : Hp) : Addr → Tr → Prop where
  | nil {a dx : Addr} (h : H a = some (.ins C dx (tf .non .non 0))) : Th C H a .nil
  | pr {a dx b c : Addr} {l r : Tr} (h : H a = some (.ins C dx (tf (.ref b) (.ref c) ((Tr.pr l r).size : Nat)))) (hl : Th C H b l) (hr : Th C H c r) : Th C H a (.pr l r)
/-- all that is no list stays -/
def KT (H H' : Hp) : Prop := ∀ a o, H a = some o → (∀ xs, o ≠ HO.lst xs) → H' a = some o
theorem KT.of {H H' : Hp} (s : Same H H') : KT H H' := fun _ _ h _ => s _ _ h
theorem KT.refl (H : Hp) : KT H H := fun _ _ h _ => h
theorem KT.trans {H H1 H2 : Hp} (a : KT H H1) (b : KT H1 H2) : KT H H2 := fun x o h n => b x o (a x o h n) n
theorem KT.lst {H : Hp} {p : Addr} {o : HO} {xs : List V} (hp : H p = some (.lst xs)) : KT H (upd H p o) := fun a u h n => by
  rw [upd_ne]
  · exact h
  · intro e
    subst e
    exact n _ (Option.some.inj (h.symm.trans hp))
theorem KT.new {H : Hp} {p : Addr} {o : HO} (hp : H p = none) : KT H (upd H p o) := fun a u h n => by
  rw [upd_ne (ne_of_none h hp)]
  exact h
theorem _root_.L2.Same.new {H : Hp} {p : Addr} {o : HO} (hp : H p = none) : Same H (upd H p o) := fun a u h => by
  rw [upd_ne (ne_of_none h hp)]
  exact h
/-- a list that is new since H0 changes -/
theorem _root_.L2.Same.set {H0 H : Hp} {p : Addr} {o : HO} (s : Same H0 H) (hp : H0 p = none) : Same H0 (upd H p o) := fun a u h => by
  rw [upd_ne (ne_of_none h hp)]
  exact s _ _ h
theorem Th.kt {C : Addr} {H H' : Hp} (k : KT H H') {a : Addr} {t : Tr} (h : Th C H a t) : Th C H' a t := by
  induction h with
  | nil h => exact .nil (k _ _ h (fun _ e => nomatch e))
  | pr h _ _ ih1 ih2 => exact .pr (k _ _ h (fun _ e => nomatch e)) ih1 ih2
theorem Th.same {C : Addr} {H H' : Hp} (s : Same H H') {a : Addr} {t : Tr} (h : Th C H a t) : Th C H' a t := h.kt (KT.of s)
theorem Th.obj {C : Addr} {H : Hp} {a : Addr} {t : Tr} (h : Th C H a t) : ∃ dx f s, H a = some (.ins C dx (tf f s (t.size : Nat))) := by
  cases h with
  | nil h => exact ⟨_, _, _, h⟩
  | pr h _ _ => exact ⟨_, _, _, h⟩
theorem tf_ref_inj {C dx dx' : Addr} {f s f' s' : V} {n n' : Int} (h : HO.ins C dx (tf f s n) = HO.ins C dx' (tf f' s' n')) : f = f' ∧ s = s' ∧ n = n' := by
  injection h with _ _ h3
  have e1 := congrArg (List.lookup ("first" : Str)) h3
  have e2 := congrArg (List.lookup ("second" : Str)) h3
  have e3 := congrArg (List.lookup ("size" : Str)) h3
  rw [tf_first, tf_first] at e1
  rw [tf_second, tf_second] at e2
  rw [tf_size, tf_size] at e3
  exact ⟨Option.some.inj e1, Option.some.inj e2, V.int.inj (Option.some.inj e3)⟩
theorem Th.inj {C : Addr} {H : Hp} {a : Addr} {t u : Tr} (h : Th C H a t) (h' : Th C H a u) : t = u := by
  induction h generalizing u with
  | nil h =>
    cases h' with
    | nil _ => rfl
    | pr h' _ _ =>
      have e := Option.some.inj (h.symm.trans h')
      exact V.noConfusion (tf_ref_inj e).1
  | pr h _ _ ih1 ih2 =>
    cases h' with
    | nil h' =>
      have e := Option.some.inj (h.symm.trans h')
      exact V.noConfusion (tf_ref_inj e).1
    | pr h' h1 h2 =>
      have e := tf_ref_inj (Option.some.inj (h.symm.trans h'))
      have e1 := V.ref.inj e.1
      have e2 := V.ref.inj e.2.1
      subst e1 e2
      rw [ih1 h1, ih2 h2]
/-- a pair: what its attributes hold -/
theorem Th.pair {C : Addr} {H : Hp} {a : Addr} {l r : Tr} (h : Th C H a (.pr l r)) : ∃ dx b c, H a = some (.ins C dx (tf (.ref b) (.ref c) ((Tr.pr l r).size : Nat))) ∧ Th C H b l ∧ Th C H c r := by
  cases h with
  | pr h hl hr => exact ⟨_, _, _, h, hl, hr⟩
theorem pr_tru (l r : Tr) : true = ((((Tr.pr l r).size : Nat) : Int) != 0) := by
  have : (((Tr.pr l r).size : Nat) : Int) ≠ 0 := by simp only [Tr.size]; omega
  exact (bne_iff_ne.mpr this).symm
/-! ### stacks: the top comes first -/
theorem last_rev {α : Type} (v : α) (r : List α) : (v :: r).reverse[(v :: r).reverse.length - 1]? = some v := by
  rw [List.reverse_cons, List.length_append, List.length_reverse]
  show (r.reverse ++ [v])[r.length + 1 - 1]? = some v
  rw [Nat.add_sub_cancel, List.getElem?_append_right (by rw [List.length_reverse]; exact Nat.le_refl _), List.length_reverse, Nat.sub_self]
  rfl
theorem drop_rev {α : Type} (v : α) (r : List α) : (v :: r).reverse.dropLast = r.reverse := by
  rw [List.reverse_cons, List.dropLast_concat]
theorem push_rev {α : Type} (v : α) (r : List α) : r.reverse ++ [v] = (v :: r).reverse := by
  rw [List.reverse_cons]
/-! ### two stacks of things -/
/-- a pair of things, in a tuple -/
def PrAt (C : Addr) (H : Hp) (v : V) (p : Tr × Tr) : Prop := ∃ q a b, v = .ref q ∧ H q = some (.tup [.ref a, .ref b]) ∧ Th C H a p.1 ∧ Th C H b p.2
theorem PrAt.kt {C : Addr} {H H' : Hp} (k : KT H H') {v : V} {p : Tr × Tr} (h : PrAt C H v p) : PrAt C H' v p := by
  obtain ⟨q, a, b, e, hq, h1, h2⟩ := h
  exact ⟨q, a, b, e, k _ _ hq (fun _ e => nomatch e), h1.kt k, h2.kt k⟩
theorem prs_kt {C : Addr} {H H' : Hp} (k : KT H H') : ∀ {rs : List V} {ps : List (Tr × Tr)}, Paired (PrAt C H) rs ps → Paired (PrAt C H') rs ps
  | _, _, .nil => .nil
  | _, _, .cons h t => .cons (h.kt k) (prs_kt k t)
def pm (ps : List (Tr × Tr)) : Nat := (ps.map fun p => 2 * p.1.size + 1).sum
theorem pm_cons (p : Tr × Tr) (ps : List (Tr × Tr)) : pm (p :: ps) = 2 * p.1.size + 1 + pm ps := by simp [pm]
theorem pm_len : ∀ ps : List (Tr × Tr), ps.length ≤ pm ps
  | [] => Nat.zero_le _
  | p :: ps => by
    have := pm_len ps
    rw [pm_cons, List.length_cons]
    omega
/-- a thing that waits, or a bracket to shut -/
def WtAt (C : Addr) (H : Hp) (v : V) (o : Option Tr) : Prop := (v = .non ∧ o = none) ∨ ∃ a t, v = .ref a ∧ o = some t ∧ Th C H a t
theorem WtAt.kt {C : Addr} {H H' : Hp} (k : KT H H') {v : V} {o : Option Tr} (h : WtAt C H v o) : WtAt C H' v o := by
  rcases h with h | ⟨a, t, e1, e2, h⟩
  · exact .inl h
  · exact .inr ⟨a, t, e1, e2, h.kt k⟩
theorem wts_kt {C : Addr} {H H' : Hp} (k : KT H H') : ∀ {rs : List V} {ps : List (Option Tr)}, Paired (WtAt C H) rs ps → Paired (WtAt C H') rs ps
  | _, _, .nil => .nil
  | _, _, .cons h t => .cons (h.kt k) (wts_kt k t)
def wout : Option Tr → List Nat
  | none => [41]
  | some t => t.codes
def wouts (ps : List (Option Tr)) : List Nat := (ps.map wout).flatten
theorem wouts_cons (p : Option Tr) (ps : List (Option Tr)) : wouts (p :: ps) = wout p ++ wouts ps := by simp [wouts]
def wm1 : Option Tr → Nat
  | none => 1
  | some t => 3 * t.size + 1
def wm (ps : List (Option Tr)) : Nat := (ps.map wm1).sum
theorem wm_cons (p : Option Tr) (ps : List (Option Tr)) : wm (p :: ps) = wm1 p + wm ps := by simp [wm]
theorem wm_len : ∀ ps : List (Option Tr), ps.length ≤ wm ps
  | [] => Nat.zero_le _
  | p :: ps => by
    have := wm_len ps
    rw [wm_cons, List.length_cons]
    cases p with
    | none => simp only [wm1]; omega
    | some t => simp only [wm1]; omega
theorem line4 : 100000 < sizeLine := by rw [sizeLine_eq]; decide
end Js

set_option Elab.async false
set_option linter.all false
set_option maxRecDepth 100000
set_option maxHeartbeats 2000000
namespace Js
open PySem L2
def top (i : Nat) : Stmt := PySem.Challenge.pw_judgeslip_k18_whole_programs_told.main.body.getD i (.Pass ⟨0, 0, 0, 0⟩)
abbrev sInit : Stmt := inClass (top 7) 0
abbrev sHead : Stmt := inClass (top 7) 1
abbrev sTail : Stmt := inClass (top 7) 2
abbrev sLen : Stmt := inClass (top 7) 3
abbrev sEq : Stmt := inClass (top 7) 4
abbrev sStr : Stmt := inClass (top 7) 5
abbrev sRepr : Stmt := inClass (top 7) 6
abbrev sPairs : Stmt := top 8
abbrev sAlike : Stmt := top 9
abbrev sSigns : Stmt := top 10
/-- what the text says of Thing, and which built-ins are as they were -/
structure Txt (K : PySem.W.Frag) (mg : Str → Option Value) (C : Addr) : Prop where
  cl : Cls K C
  nF : NoAttr K C "first"
  nS : NoAttr K C "second"
  nZ : NoAttr K C "size"
  mgC : mg "Thing" = some (.ref C)
  mgM : ∃ t, mg "MOST_PAIRS" = some (.int 4000 t)
  len : mg "len" = none
  range : mg "range" = none
  isi : mg "isinstance" = none
  ca : PySem.W.findIn K (.ref C) "__class__" = some (some (.builtin "object.__class__"))
  cn : PySem.W.specialIn K (.builtin "object.__class__") "__get__" = some (some (.builtin "getset_descriptor.__get__"))
  ct : PySem.W.takesIn K (.builtin "object.__class__") = some true
  cm : PySem.W.mroIn K C (.type "object") = some true
  ne : PySem.W.findIn K (.ref C) "__ne__" = some (some (.builtin "object.__ne__"))
/-- a def of the top: where it stands -/
structure At (K : PySem.W.Frag) (mg : Str → Option Value) (x : Str) (st : Stmt) (ps : List Str) (f : Addr) (fd : FuncData) : Prop where
  F : Fun K x x st f fd
  mgf : mg x = some (.ref f)
  b : Binds K fd ps []
/-! ### promises -/
def PairsOf (C : Addr) (H : Hp) (x y : V) (n : Nat) : Prop := (x = .non ∧ y = .non ∧ n = 0) ∨ ∃ a b t u, x = .ref a ∧ y = .ref b ∧ Th C H a t ∧ Th C H b u ∧ n = 1 + t.size + u.size
def spPairs (C : Addr) : Sp := fun vs H Q _ => ∃ x y n, vs = [x, y] ∧ PairsOf C H x y n ∧ Q (.int (n : Nat)) H
def spInit (C : Addr) : Sp := fun vs H Q _ => ∃ (p dx : Addr) (x y : V) (n : Nat), vs = [.ref p, x, y] ∧ H p = some (.ins C dx []) ∧ PairsOf C H x y n ∧ n ≤ 4000 ∧ Q .non (upd H p (.ins C dx (tf x y (n : Nat))))
def spHead (C : Addr) : Sp := fun vs H Q _ => ∃ a t, vs = [.ref a] ∧ Th C H a t ∧ ∀ b, Th C H b t.head → Q (.ref b) H
def spTail (C : Addr) : Sp := fun vs H Q _ => ∃ a t, vs = [.ref a] ∧ Th C H a t ∧ ∀ b, Th C H b t.tail → Q (.ref b) H
def spLen (C : Addr) : Sp := fun vs H Q _ => ∃ a t, vs = [.ref a] ∧ Th C H a t ∧ t.size ≤ 4000 ∧ Q (.int (t.size : Nat)) H
def spEqT (C : Addr) : Sp := fun vs H Q _ => ∃ a b t u, vs = [.ref a, .ref b] ∧ Th C H a t ∧ Th C H b u ∧ t.size ≤ 4000 ∧ ∀ H', Same H H' → Q (.bl (decide (t = u))) H'
def sgn (c : Nat) : V := .str ⟨#[c]⟩
def spSigns (C : Addr) : Sp := fun vs H Q _ => ∃ a t, vs = [.ref a] ∧ Th C H a t ∧ t.size ≤ 4000 ∧ ∀ p H', Same H H' → H p = none → H' p = some (.lst (t.codes.map sgn)) → Q (.ref p) H'
def spStr (C : Addr) : Sp := fun vs H Q _ => ∃ a t, vs = [.ref a] ∧ Th C H a t ∧ t.size ≤ 4000 ∧ ∀ H', Same H H' → Q (.str t.text) H'
theorem mk_pr {C a b : Addr} {H : Hp} {t u : Tr} {Q : VK} {E : XK} (ha : Th C H a t) (hb : Th C H b u) (hz : 1 + t.size + u.size ≤ 4000) (k : ∀ x H', Same H H' → H x = none → Th C H' x (.pr t u) → Q (.ref x) H') :
    ∀ x dx, H x = none → H dx = none → dx ≠ x → spInit C (.ref x :: ([.ref a, .ref b] ++ [])) (upd (upd H dx (.own x)) x (.ins C dx [])) (fun v H3 => v = .non ∧ Q (.ref x) H3) E := by
  intro x dx nx ndx ne
  have s0 : Same H (upd (upd H dx (.own x)) x (.ins C dx [])) := fun b o e => by
    rw [upd_ne (ne_of_none e nx), upd_ne (ne_of_none e ndx)]
    exact e
  refine ⟨x, dx, _, _, 1 + t.size + u.size, rfl, upd_same, .inr ⟨a, b, t, u, rfl, rfl, ha.same s0, hb.same s0, rfl⟩, hz, rfl, ?_⟩
  rw [upd_upd]
  have s1 : Same H (upd (upd H dx (.own x)) x (.ins C dx (tf (.ref a) (.ref b) ((1 + t.size + u.size : Nat) : Int)))) := fun b o e => by
    rw [upd_ne (ne_of_none e nx), upd_ne (ne_of_none e ndx)]
    exact e
  exact k x _ s1 nx (.pr upd_same (ha.same s1) (hb.same s1))
theorem mk_nil {C : Addr} {H : Hp} {Q : VK} {E : XK} (k : ∀ x H', Same H H' → H x = none → Th C H' x .nil → Q (.ref x) H') :
    ∀ x dx, H x = none → H dx = none → dx ≠ x → spInit C (.ref x :: ([] ++ [.non, .non])) (upd (upd H dx (.own x)) x (.ins C dx [])) (fun v H3 => v = .non ∧ Q (.ref x) H3) E := by
  intro x dx nx ndx ne
  refine ⟨x, dx, _, _, 0, rfl, upd_same, .inl ⟨rfl, rfl, rfl⟩, by decide, rfl, ?_⟩
  rw [upd_upd]
  have s1 : Same H (upd (upd H dx (.own x)) x (.ins C dx (tf .non .non ((0 : Nat) : Int)))) := fun b o e => by
    rw [upd_ne (ne_of_none e nx), upd_ne (ne_of_none e ndx)]
    exact e
  exact k x _ s1 nx (.nil upd_same)
section
variable {P : Program} {w : World} {K : PySem.W.Frag} {mg : Str → Option Value} {base : Heap} {C : Addr}
theorem scP : FnScope ["first", "second"] ["first", "second"] (defScope sPairs) := ⟨rfl, rfl, rfl, by decide +kernel, rfl, by decide +kernel, by decide +kernel⟩
theorem ok_pairs {f : Addr} {fd : FuncData} (F : Fun K "pairs_in" "pairs_in" sPairs f fd) (T : Txt K mg C) : FnOk P w K mg base CX0 1 f fd ["first", "second"] (spPairs C) := by
  refine F.ok scP (fun vs H Q E h => ?_) (fun cdv A outer s H vs Q E hr h => ?_)
  · obtain ⟨x, y, n, rfl, _⟩ := h
    rfl
  · obtain ⟨x, y, n, rfl, hp, k⟩ := h
    refine ⟨_, pss_cons (ps_if (PW.pt (pw_and (pt_cmp (pc_isN (pv 0))) (pw_and1 (pt_cmp (pc_isN (pv 1)))))) (pss_one (ps_ret pe_int)) pss_nil)
      (pss_one (ps_ret (pe_op op_add (pe_op op_add pe_int (pe_fld (pv 0) rfl)) (pe_fld (pv 1) rfl)))), ?_⟩
    rcases hp with ⟨rfl, rfl, rfl⟩ | ⟨a, b, t, u, rfl, rfl, ha, hb, rfl⟩
    · refine ⟨_, rfl, _, rfl, ?_⟩
      refine iteT ⟨_, rfl, _, rfl, ?_⟩
      exact iteT k
    · refine ⟨_, rfl, _, rfl, ?_⟩
      refine iteF ?_
      refine iteF ?_
      obtain ⟨dx, f1, s1, h1⟩ := ha.obj
      obtain ⟨dy, f2, s2, h2⟩ := hb.obj
      refine ⟨_, rfl, _, _, _, _, _, rfl, h1, T.cl, T.nZ, tf_size _ _ _, _, _, rfl, rfl, _, rfl, _, _, _, _, _, rfl, h2, T.cl, T.nZ, tf_size _ _ _, _, _, rfl, rfl, ?_⟩
      have e : ((1 : Int) + (t.size : Nat) + (u.size : Nat)) = ((1 + t.size + u.size : Nat) : Int) := by omega
      show Q (V.int ((1 : Int) + (t.size : Nat) + (u.size : Nat))) H
      rw [e]
      exact k
theorem scI : FnScope ["self", "first", "second", "size"] ["self", "first", "second"] (defScope sInit) := ⟨rfl, rfl, rfl, by decide +kernel, rfl, by decide +kernel, by decide +kernel⟩
theorem ok_init {f fP : Addr} {fd fdP : FuncData} (F : FunD K "__init__" "Thing.__init__" (defArgs sInit) (defBody sInit) (defScope sInit) [.non, .non] [] f fd) (T : Txt K mg C) (AP : At K mg "pairs_in" sPairs ["first", "second"] fP fdP) : FnOk P w K mg base CX0 2 f fd ["self", "first", "second"] (spInit C) := by
  have GP : FnOk P w K mg base CX0 1 fP fdP ["first", "second"] (spPairs C) := ok_pairs AP.F T
  obtain ⟨tm, mgM⟩ := T.mgM
  refine F.ok scI (fun vs H Q E h => ?_) (fun cdv A outer s H vs Q E hr h => ?_)
  · obtain ⟨p, dx, x, y, n, rfl, _⟩ := h
    rfl
  · obtain ⟨p, dx, x, y, n, rfl, hp, hxy, hn, k⟩ := h
    refine ⟨_, PSs.nox (pss_cons (ps_set (i := 3) scI.nd rfl (Or.inl rfl) (pe_call GP hr rfl AP.mgf AP.F.kp AP.b .nil pass0 (pa_cons (pv 1) (pa_cons (pv 2) pa_nil))))
      (pss_cons (ps_if (pt_cmpR op_gt (pv 3) (pe_glob (v := .int 4000) rfl mgM ⟨_, rfl⟩) (nomark _)) (pss_one ps_never) pss_nil)
      (pss_cons (ps_fld (pv 0) (pv 1) rfl) (pss_cons (ps_fld (pv 0) (pv 2) rfl) (pss_one (ps_fld (pv 0) (pv 3) rfl)))))), ?_⟩
    refine ⟨_, rfl, _, rfl, x, y, n, rfl, hxy, ?_⟩
    refine ⟨_, rfl, _, _, rfl, rfl, _, rfl, ?_⟩
    have ed : decide ((4000 : Int) < (n : Nat)) = false := decide_eq_false (by omega)
    rw [ed]
    refine iteF ?_
    refine ⟨_, rfl, _, rfl, p, C, dx, [], rfl, hp, T.cl, T.nF, (by show 0 < 1000; decide), ?_⟩
    refine ⟨_, rfl, _, rfl, p, C, dx, _, rfl, upd_same, T.cl, T.nS, Nat.lt_of_le_of_lt (length_putF _ _ _) (by show 0 + 1 < 1000; decide), ?_⟩
    refine ⟨_, rfl, _, rfl, p, C, dx, _, rfl, upd_same, T.cl, T.nZ, ?_, ?_⟩
    · have h1 := length_putF "first" x []
      have h2 := length_putF "second" y (putF "first" x [])
      simp only [List.length_nil] at h1
      omega
    · show Q .non (upd (upd (upd H p _) p _) p (.ins C dx (tf x y (n : Nat))))
      rw [upd_upd, upd_upd]
      exact k
theorem scH : FnScope ["self"] ["self"] (defScope sHead) := ⟨rfl, rfl, rfl, by decide +kernel, rfl, by decide +kernel, by decide +kernel⟩
theorem ok_head {f : Addr} {fd : FuncData} (F : Fun K "head" "Thing.head" sHead f fd) (T : Txt K mg C) : FnOk P w K mg base CX0 1 f fd ["self"] (spHead C) := by
  refine F.ok scH (fun vs H Q E h => ?_) (fun cdv A outer s H vs Q E hr h => ?_)
  · obtain ⟨a, t, rfl, _⟩ := h
    rfl
  · obtain ⟨a, t, rfl, ha, k⟩ := h
    refine ⟨_, pss_one (ps_ret (pe_ifExp (pt_truth (pe_fld (pv 0) rfl) (by intro _; rfl)) (pe_fld (pv 0) rfl) (pv 0))), ?_⟩
    have ha' := ha
    cases ha with
    | nil h =>
      refine ⟨_, rfl, _, _, _, _, _, rfl, h, T.cl, T.nZ, tf_size _ _ _, _, rfl, ?_⟩
      exact iteF ⟨_, rfl, k _ ha'⟩
    | @pr _ dx b c l r h hl hr' =>
      refine ⟨_, rfl, _, _, _, _, _, rfl, h, T.cl, T.nZ, tf_size _ _ _, true, ?_, ?_⟩
      · show true = ((((Tr.pr l r).size : Nat) : Int) != 0)
        exact pr_tru l r
      · exact iteT ⟨_, rfl, _, _, _, _, _, rfl, h, T.cl, T.nF, tf_first _ _ _, k _ hl⟩
theorem scTl : FnScope ["self"] ["self"] (defScope sTail) := ⟨rfl, rfl, rfl, by decide +kernel, rfl, by decide +kernel, by decide +kernel⟩
theorem ok_tail {f : Addr} {fd : FuncData} (F : Fun K "tail" "Thing.tail" sTail f fd) (T : Txt K mg C) : FnOk P w K mg base CX0 1 f fd ["self"] (spTail C) := by
  refine F.ok scTl (fun vs H Q E h => ?_) (fun cdv A outer s H vs Q E hr h => ?_)
  · obtain ⟨a, t, rfl, _⟩ := h
    rfl
  · obtain ⟨a, t, rfl, ha, k⟩ := h
    refine ⟨_, pss_one (ps_ret (pe_ifExp (pt_truth (pe_fld (pv 0) rfl) (by intro _; rfl)) (pe_fld (pv 0) rfl) (pv 0))), ?_⟩
    have ha' := ha
    cases ha with
    | nil h =>
      refine ⟨_, rfl, _, _, _, _, _, rfl, h, T.cl, T.nZ, tf_size _ _ _, _, rfl, ?_⟩
      exact iteF ⟨_, rfl, k _ ha'⟩
    | @pr _ dx b c l r h hl hr' =>
      refine ⟨_, rfl, _, _, _, _, _, rfl, h, T.cl, T.nZ, tf_size _ _ _, true, ?_, ?_⟩
      · show true = ((((Tr.pr l r).size : Nat) : Int) != 0)
        exact pr_tru l r
      · exact iteT ⟨_, rfl, _, _, _, _, _, rfl, h, T.cl, T.nS, tf_second _ _ _, k _ hr'⟩
theorem scLn : FnScope ["self"] ["self"] (defScope sLen) := ⟨rfl, rfl, rfl, by decide +kernel, rfl, by decide +kernel, by decide +kernel⟩
theorem ok_len {f : Addr} {fd : FuncData} (F : Fun K "__len__" "Thing.__len__" sLen f fd) (T : Txt K mg C) : FnOk P w K mg base CX0 1 f fd ["self"] (spLen C) := by
  refine F.ok scLn (fun vs H Q E h => ?_) (fun cdv A outer s H vs Q E hr h => ?_)
  · obtain ⟨a, t, rfl, _⟩ := h
    rfl
  · obtain ⟨a, t, rfl, ha, hz, k⟩ := h
    refine ⟨_, pss_one (ps_ret (pe_lenRg rfl T.len (prg_1 rfl T.range (pe_fld (pv 0) rfl)))), ?_⟩
    obtain ⟨dx, f1, s1, h⟩ := ha.obj
    refine ⟨_, rfl, _, _, _, _, _, rfl, h, T.cl, T.nZ, tf_size _ _ _, _, rfl, ?_, ?_⟩
    · omega
    · have e : (((((t.size : Nat) : Int) - 0).toNat : Nat) : Int) = (t.size : Nat) := by omega
      show Q (.int (((((t.size : Nat) : Int) - 0).toNat : Nat) : Int)) H
      rw [e]
      exact k
end
end Js

set_option Elab.async false
set_option linter.all false
set_option maxRecDepth 100000
set_option maxHeartbeats 2000000
namespace Js
open PySem L2
def spAlike (C : Addr) : Sp := spEqT C
section
variable {P : Program} {w : World} {K : PySem.W.Frag} {mg : Str → Option Value} {base : Heap} {C : Addr}
theorem scA : FnScope ["one", "other", "waiting", "left", "right"] ["one", "other"] (defScope sAlike) := ⟨rfl, rfl, rfl, by decide +kernel, rfl, by decide +kernel, by decide +kernel⟩
theorem ok_alike {f : Addr} {fd : FuncData} (F : Fun K "alike" "alike" sAlike f fd) (T : Txt K mg C) : FnOk P w K mg base CX0 1 f fd ["one", "other"] (spAlike C) := by
  refine F.ok scA (fun vs H Q E h => ?_) (fun cdv A outer s H vs Q E hr h => ?_)
  · obtain ⟨a, b, t, u, rfl, _⟩ := h
    rfl
  · obtain ⟨a, b, t, u, rfl, ha, hb, hz, k⟩ := h
    refine ⟨_, pss_cons (ps_set (i := 2) scA.nd rfl (Or.inl rfl) (pe_lst (pa_cons (pe_tup (pa_cons (pv 0) (pa_cons (pv 1) pa_nil))) pa_nil)))
      (pss_cons (ps_while PassesOwn.never (pt_truth (pv 2) (by intro _; rfl))
        (pss_cons (ps_asg (pe_bm0 PySem.F.plainAttrs_list PySem.F.slot_list_pop PySem.F.type_list_pop mt_pop (pv 2)) (pg_tup rfl (pgs_cons (pg_name (i := 3) scA.nd rfl (Or.inl rfl)) (pgs_cons (pg_name (i := 4) scA.nd rfl (Or.inl rfl)) pgs_nil))))
        (pss_cons (ps_if (pt_cmpR op_ne (pe_fld (pv 3) rfl) (pe_fld (pv 4) rfl) (nomark _)) (pss_one (ps_ret pe_bl)) pss_nil)
        (pss_one (ps_if (pt_cmpR op_gt (pe_fld (pv 3) rfl) pe_int (nomark _))
          (pss_cons (ps_expr (pe_bm PySem.F.plainAttrs_list PySem.F.slot_list_append PySem.F.type_list_append mt_append (pv 2) (pa_cons (pe_tup (pa_cons (pe_fld (pv 3) rfl) (pa_cons (pe_fld (pv 4) rfl) pa_nil))) pa_nil)))
          (pss_one (ps_expr (pe_bm PySem.F.plainAttrs_list PySem.F.slot_list_append PySem.F.type_list_append mt_append (pv 2) (pa_cons (pe_tup (pa_cons (pe_fld (pv 3) rfl) (pa_cons (pe_fld (pv 4) rfl) pa_nil))) pa_nil))))) pss_nil)))))
      (pss_one (ps_ret pe_bl))), ?_⟩
    refine ⟨_, rfl, _, rfl, (by show 2 ≤ sizeLine; decide), fun q0 nq0 => ?_⟩
    refine ⟨(by show 1 ≤ sizeLine; decide), fun wl nwl => ?_⟩
    have hwl : H wl = none := by
      have := nwl
      unfold upd at this
      split at this
      · cases this
      · exact this
    have nqw : q0 ≠ wl := ne_of_none (o := .tup [.ref a, .ref b]) upd_same nwl
    -- the loop
    refine ⟨fun m σ H' => ∃ (rs : List V) (ps : List (Tr × Tr)) (x3 x4 : Option V), σ = [some (.ref a), some (.ref b), some (.ref wl), x3, x4] ∧ Same H H' ∧ H' wl = some (.lst rs.reverse) ∧ Paired (PrAt C H') rs ps ∧
      ((∀ p ∈ ps, p.1 = p.2) ↔ t = u) ∧ m = pm ps ∧ m ≤ 2 * t.size + 1, ?_, ?_⟩
    · have s1 : Same H (upd (upd H q0 (.tup [.ref a, .ref b])) wl (.lst [.ref q0])) := (Same.new nq0).set hwl
      refine ⟨_, [.ref q0], [(t, u)], none, none, rfl, s1, upd_same, .cons ⟨q0, a, b, rfl, ?_, ha.same s1, hb.same s1⟩ .nil, ?_, rfl, ?_⟩
      · exact (upd_ne nqw).trans upd_same
      · simp
      · simp [pm]
    · rintro m σ H' ⟨rs, ps, x3, x4, rfl, s1, hw, hps, hiff, rfl, hm⟩
      refine ⟨_, rfl, !rs.reverse.isEmpty, .inl ⟨_, SqL.of hw, rfl⟩, ?_⟩
      cases hps with
      | nil =>
        refine iteF ?_
        have : t = u := hiff.mp (fun p hp => by cases hp)
        have z := k H' s1
        rw [decide_eq_true this] at z
        exact z
      | @cons v p rs ps hv hps =>
        have e1 : (!(v :: rs).reverse.isEmpty) = true := by simp
        rw [e1]
        refine iteT ⟨fun σ' H2 => ∃ m', m' < pm (p :: ps) ∧ _, fun σ' H2 z => z, ?_⟩
        obtain ⟨q, x, y, rfl, hq, hx, hy⟩ := hv
        have hlen : rs.length ≤ pm ps := by rw [Paired.length hps]; exact pm_len ps
        rw [pm_cons] at hm
        refine ⟨_, rfl, .inl ⟨rfl, _, SqL.of hw⟩, wl, _, _, rfl, rfl, hw, last_rev _ _, ?_⟩
        rw [drop_rev]
        have nqwl : q ≠ wl := ne_of hq hw (by intro z; cases z)
        have k1 : KT H' (upd H' wl (.lst rs.reverse)) := KT.lst hw
        have s2 : Same H (upd H' wl (.lst rs.reverse)) := s1.set hwl
        have hx2 := hx.kt k1
        have hy2 := hy.kt k1
        have hps2 := prs_kt k1 hps
        obtain ⟨dx, f1, g1, h1⟩ := hx2.obj
        obtain ⟨dy, f2, g2, h2⟩ := hy2.obj
        refine ⟨q, _, rfl, SqT.of ((upd_ne nqwl).trans hq), rfl, _, _, rfl, _, _, rfl, rfl, ?_⟩
        refine ⟨_, rfl, _, _, _, _, _, rfl, h1, T.cl, T.nZ, tf_size _ _ _, _, rfl, _, _, _, _, _, rfl, h2, T.cl, T.nZ, tf_size _ _ _, rfl, _, rfl, ?_⟩
        by_cases hsz : p.1.size = p.2.size
        · have ed : (!decide (V.int (p.1.size : Nat) = V.int (p.2.size : Nat))) = false := by rw [hsz]; simp
          rw [ed]
          refine iteF ?_
          refine ⟨_, rfl, _, _, _, _, _, rfl, h1, T.cl, T.nZ, tf_size _ _ _, _, _, rfl, rfl, _, rfl, ?_⟩
          by_cases h1z : 1 < p.1.size
          · have ed2 : decide ((1 : Int) < (p.1.size : Nat)) = true := decide_eq_true (by omega)
            rw [ed2]
            refine iteT ?_
            obtain ⟨t1, u1⟩ := p
            cases t1 with
            | nil => simp [Tr.size] at h1z
            | pr l1 r1 =>
            cases u1 with
            | nil => simp [Tr.size] at hsz
            | pr l2 r2 =>
            obtain ⟨dx', b1, c1, hX, hb1, hc1⟩ := hx2.pair
            obtain ⟨dy', b2, c2, hY, hb2, hc2⟩ := hy2.pair
            -- waiting.append((left.second, right.second))
            refine ⟨_, rfl, .inl ⟨rfl, _, SqL.of upd_same⟩, _, rfl, _, _, _, _, _, rfl, hX, T.cl, T.nS, tf_second _ _ _, _, rfl, _, _, _, _, _, rfl, hY, T.cl, T.nS, tf_second _ _ _, (by show 2 ≤ sizeLine; decide), fun q1 nq1 => ?_⟩
            have nq1w : wl ≠ q1 := ne_of_none (o := .lst rs.reverse) upd_same nq1
            have hsl := line4
            simp only [Tr.size] at hm
            refine ⟨wl, _, _, rfl, rfl, (upd_ne nq1w).trans upd_same, (by rw [List.length_reverse]; omega), ?_⟩
            have k2 : KT (upd H' wl (.lst rs.reverse)) (upd (upd (upd H' wl (.lst rs.reverse)) q1 (.tup [.ref c1, .ref c2])) wl (.lst (rs.reverse ++ [.ref q1]))) := (KT.new nq1).trans (KT.lst ((upd_ne nq1w).trans upd_same))
            have s3 : Same H (upd (upd (upd H' wl (.lst rs.reverse)) q1 (.tup [.ref c1, .ref c2])) wl (.lst (rs.reverse ++ [.ref q1]))) := (s2.trans (Same.new nq1)).set hwl
            have hq1 : (upd (upd (upd H' wl (.lst rs.reverse)) q1 (.tup [.ref c1, .ref c2])) wl (.lst (rs.reverse ++ [.ref q1]))) q1 = some (.tup [.ref c1, .ref c2]) := (upd_ne (Ne.symm nq1w)).trans upd_same
            have hw3 : (upd (upd (upd H' wl (.lst rs.reverse)) q1 (.tup [.ref c1, .ref c2])) wl (.lst (rs.reverse ++ [.ref q1]))) wl = some (.lst (rs.reverse ++ [.ref q1])) := upd_same
            have hX3 := k2 _ _ hX (fun _ e => nomatch e)
            have hY3 := k2 _ _ hY (fun _ e => nomatch e)
            have hps3 := prs_kt k2 hps2
            have hb1' := hb1.kt k2
            have hc1' := hc1.kt k2
            have hb2' := hb2.kt k2
            have hc2' := hc2.kt k2
            revert s3 hq1 hw3 hX3 hY3 hps3 hb1' hc1' hb2' hc2'
            generalize (upd (upd (upd H' wl (.lst rs.reverse)) q1 (.tup [.ref c1, .ref c2])) wl (.lst (rs.reverse ++ [.ref q1]))) = H3
            intro s3 hq1 hw3 hX3 hY3 hps3 hb1' hc1' hb2' hc2'
            -- waiting.append((left.first, right.first))
            refine ⟨_, rfl, .inl ⟨rfl, _, SqL.of hw3⟩, _, rfl, _, _, _, _, _, rfl, hX3, T.cl, T.nF, tf_first _ _ _, _, rfl, _, _, _, _, _, rfl, hY3, T.cl, T.nF, tf_first _ _ _, (by show 2 ≤ sizeLine; decide), fun q2 nq2 => ?_⟩
            have nq2w : wl ≠ q2 := ne_of_none hw3 nq2
            refine ⟨wl, _, _, rfl, rfl, (upd_ne nq2w).trans hw3, (by rw [List.length_append, List.length_reverse, List.length_singleton]; omega), ?_⟩
            have k4 : KT H3 (upd (upd H3 q2 (.tup [.ref b1, .ref b2])) wl (.lst (rs.reverse ++ [.ref q1] ++ [.ref q2]))) := (KT.new nq2).trans (KT.lst ((upd_ne nq2w).trans hw3))
            refine ⟨pm ((l1, l2) :: (r1, r2) :: ps), ?_, .ref q2 :: .ref q1 :: rs, (l1, l2) :: (r1, r2) :: ps, _, _, rfl, (s3.trans (Same.new nq2)).set hwl, ?_, .cons ⟨q2, b1, b2, rfl, (upd_ne (Ne.symm nq2w)).trans upd_same, hb1'.kt k4, hb2'.kt k4⟩ (.cons ⟨q1, c1, c2, rfl, k4 _ _ hq1 (fun _ e => nomatch e), hc1'.kt k4, hc2'.kt k4⟩ (prs_kt k4 hps3)), ?_, rfl, ?_⟩
            · rw [pm_cons, pm_cons, pm_cons]
              simp only [Tr.size]
              omega
            · rw [upd_same, push_rev, push_rev]
            · rw [← hiff]
              simp only [List.mem_cons, forall_eq_or_imp, Tr.pr.injEq]
              constructor
              · rintro ⟨h1, h2, h3⟩
                exact ⟨⟨h1, h2⟩, h3⟩
              · rintro ⟨⟨h1, h2⟩, h3⟩
                exact ⟨h1, h2, h3⟩
            · rw [pm_cons, pm_cons]
              show 2 * l1.size + 1 + (2 * r1.size + 1 + pm ps) ≤ _
              omega
          · have ed2 : decide ((1 : Int) < (p.1.size : Nat)) = false := decide_eq_false (by omega)
            rw [ed2]
            refine iteF ?_
            have ep : p.1 = p.2 := Tr.small_eq hsz (by omega)
            refine ⟨pm ps, by rw [pm_cons]; omega, rs, ps, _, _, rfl, s2, upd_same, hps2, ?_, rfl, by omega⟩
            rw [← hiff]
            simp [ep]
        · have ed : (!decide (V.int (p.1.size : Nat) = V.int (p.2.size : Nat))) = true := by
            simp
            omega
          rw [ed]
          refine iteT ?_
          have : ¬ t = u := fun z => hsz (by rw [hiff.mpr z p (by simp)])
          have z := k _ s2
          rw [decide_eq_false this] at z
          exact z
theorem scE : FnScope ["self", "other"] ["self", "other"] (defScope sEq) := ⟨rfl, rfl, rfl, by decide +kernel, rfl, by decide +kernel, by decide +kernel⟩
theorem kit_self (K : PySem.W.Frag) (C : Addr) : PySem.W.kitOne K (.ref C) (.ref C) = some true := by
  unfold PySem.W.kitOne
  rw [if_pos (by simp)]
theorem ok_eq {f fA : Addr} {fd fdA : FuncData} (F : Fun K "__eq__" "Thing.__eq__" sEq f fd) (T : Txt K mg C) (AA : At K mg "alike" sAlike ["one", "other"] fA fdA) : FnOk P w K mg base CX0 2 f fd ["self", "other"] (spEqT C) := by
  have GA : FnOk P w K mg base CX0 1 fA fdA ["one", "other"] (spAlike C) := ok_alike AA.F T
  refine F.ok scE (fun vs H Q E h => ?_) (fun cdv A outer s H vs Q E hr h => ?_)
  · obtain ⟨a, b, t, u, rfl, _⟩ := h
    rfl
  · obtain ⟨a, b, t, u, rfl, ha, hb, hz, k⟩ := h
    refine ⟨_, pss_one (ps_ret (pe_and (pe_callB call_isi (by rfl) T.isi PyProof.Rows.boot_isinstance (pa_cons (pv 1) (pa_cons (pe_glob (v := .ref C) rfl T.mgC rfl) pa_nil)))
      (pe_one (pe_call GA hr rfl AA.mgf AA.F.kp AA.b .nil pass0 (pa_cons (pv 0) (pa_cons (pv 1) pa_nil)))))), ?_⟩
    obtain ⟨dy, f2, g2, h2⟩ := hb.obj
    refine ⟨_, rfl, _, _, _, _, true, rfl, ClsV.own C, .base (.ins h2 T.cl T.ca T.cn T.ct T.cm), kit_self _ _, true, rfl, ?_⟩
    refine iteT ?_
    exact ⟨_, rfl, _, rfl, a, b, t, u, rfl, ha, hb, hz, k⟩
theorem e41 : ((")" : Str)) = ⟨#[41]⟩ := by decide +kernel
theorem e40 : (("(" : Str)) = ⟨#[40]⟩ := by decide +kernel
theorem e46 : (("." : Str)) = ⟨#[46]⟩ := by decide +kernel
theorem scS : FnScope ["thing", "found", "waiting", "part"] ["thing"] (defScope sSigns) := ⟨rfl, rfl, rfl, by decide +kernel, rfl, by decide +kernel, by decide +kernel⟩
theorem ok_signs {f : Addr} {fd : FuncData} (F : Fun K "signs" "signs" sSigns f fd) (T : Txt K mg C) : FnOk P w K mg base CX0 1 f fd ["thing"] (spSigns C) := by
  refine F.ok scS (fun vs H Q E h => ?_) (fun cdv A outer s H vs Q E hr h => ?_)
  · obtain ⟨a, t, rfl, _⟩ := h
    rfl
  · obtain ⟨a, t, rfl, ha, hz, k⟩ := h
    refine ⟨_, pss_cons (ps_set (i := 1) scS.nd rfl (Or.inl rfl) (pe_lst pa_nil)) (pss_cons (ps_set (i := 2) scS.nd rfl (Or.inl rfl) (pe_lst (pa_cons (pv 0) pa_nil)))
      (pss_cons (ps_while PassesOwn.never (pt_truth (pv 2) (by intro _; rfl))
        (pss_cons (ps_set (i := 3) scS.nd rfl (Or.inl rfl) (pe_bm0 PySem.F.plainAttrs_list PySem.F.slot_list_pop PySem.F.type_list_pop mt_pop (pv 2)))
        (pss_one (ps_if (pt_cmp (pc_isN (pv 3)))
          (pss_one (ps_expr (pe_bm PySem.F.plainAttrs_list PySem.F.slot_list_append PySem.F.type_list_append mt_append (pv 1) (pa_cons pe_str pa_nil))))
          (pss_one (ps_if (pt_cmpR op_eq (pe_fld (pv 3) rfl) pe_int (nomark _))
            (pss_one (ps_expr (pe_bm PySem.F.plainAttrs_list PySem.F.slot_list_append PySem.F.type_list_append mt_append (pv 1) (pa_cons pe_str pa_nil))))
            (pss_cons (ps_expr (pe_bm PySem.F.plainAttrs_list PySem.F.slot_list_append PySem.F.type_list_append mt_append (pv 1) (pa_cons pe_str pa_nil)))
              (pss_one (ps_expr (pe_bm PySem.F.plainAttrs_list PySem.F.slot_list_extend PySem.F.type_list_extend mt_extend (pv 2) (pa_cons (pe_lst (pa_cons pe_non (pa_cons (pe_fld (pv 3) rfl) (pa_cons (pe_fld (pv 3) rfl) pa_nil)))) pa_nil)))))))))))
      (pss_one (ps_ret (pv 1))))), ?_⟩
    refine ⟨Nat.zero_le _, fun fl nfl => ?_⟩
    refine ⟨_, rfl, (by show 1 ≤ sizeLine; decide), fun wl nwl => ?_⟩
    have nfw : fl ≠ wl := ne_of_none (o := .lst []) upd_same nwl
    have hwl : H wl = none := by
      have := nwl
      rw [upd_ne (Ne.symm nfw)] at this
      exact this
    have hsl := line4
    refine ⟨fun m σ H' => ∃ (rs : List V) (ps : List (Option Tr)) (dn : List Nat) (x3 : Option V), σ = [some (.ref a), some (.ref fl), some (.ref wl), x3] ∧ Same H H' ∧ H' fl = some (.lst (dn.map sgn)) ∧ H' wl = some (.lst rs.reverse) ∧ Paired (WtAt C H') rs ps ∧
      dn ++ wouts ps = t.codes ∧ m = wm ps ∧ m ≤ 3 * t.size + 1, ?_, ?_⟩
    · have s1 : Same H (upd (upd H fl (.lst [])) wl (.lst [.ref a])) := (Same.new nfl).set hwl
      refine ⟨_, [.ref a], [some t], [], none, rfl, s1, (upd_ne nfw).trans upd_same, upd_same, .cons (.inr ⟨a, t, rfl, rfl, ha.same s1⟩) .nil, ?_, rfl, ?_⟩
      · simp [wouts, wout]
      · simp [wm, wm1]
    · rintro m σ H' ⟨rs, ps, dn, x3, rfl, s1, hf, hw, hps, hc, rfl, hm⟩
      have hcl := congrArg List.length hc
      rw [List.length_append, Tr.codes_len] at hcl
      refine ⟨_, rfl, !rs.reverse.isEmpty, .inl ⟨_, SqL.of hw, rfl⟩, ?_⟩
      cases hps with
      | nil =>
        refine iteF ?_
        have e : dn = t.codes := by simpa [wouts] using hc
        subst e
        exact ⟨_, rfl, k fl H' s1 nfl hf⟩
      | @cons v p rs ps hv hps =>
        have e1 : (!(v :: rs).reverse.isEmpty) = true := by simp
        rw [e1]
        refine iteT ⟨fun σ' H2 => ∃ m', m' < wm (p :: ps) ∧ _, fun σ' H2 z => z, ?_⟩
        have hlen : rs.length ≤ wm ps := by rw [Paired.length hps]; exact wm_len ps
        rw [wm_cons] at hm
        rw [wouts_cons] at hc
        refine ⟨_, rfl, .inl ⟨rfl, _, SqL.of hw⟩, wl, _, _, rfl, rfl, hw, last_rev _ _, ?_⟩
        rw [drop_rev]
        have k1 : KT H' (upd H' wl (.lst rs.reverse)) := KT.lst hw
        have s2 : Same H (upd H' wl (.lst rs.reverse)) := s1.set hwl
        have hf2 : (upd H' wl (.lst rs.reverse)) fl = some (.lst (dn.map sgn)) := (upd_ne nfw).trans hf
        have hw2 : (upd H' wl (.lst rs.reverse)) wl = some (.lst rs.reverse) := upd_same
        have hv2 := hv.kt k1
        have hps2 := wts_kt k1 hps
        revert s2 hf2 hw2 hv2 hps2
        generalize (upd H' wl (.lst rs.reverse)) = H2
        intro s2 hf2 hw2 hv2 hps2
        have hd : (dn.map sgn).length < sizeLine := by rw [List.length_map]; omega
        rcases hv2 with ⟨rfl, rfl⟩ | ⟨x, t1, rfl, rfl, hx⟩
        · refine ⟨_, rfl, _, rfl, ?_⟩
          refine iteT ?_
          refine ⟨_, rfl, .inl ⟨rfl, _, SqL.of hf2⟩, fl, _, _, rfl, rfl, hf2, hd, ?_⟩
          refine ⟨wm ps, by rw [wm_cons]; simp only [wm1]; omega, rs, ps, dn ++ [41], _, rfl, s2.set nfl, ?_, (upd_ne (Ne.symm nfw)).trans hw2, wts_kt (KT.lst hf2) hps2, ?_, rfl, by omega⟩
          · rw [upd_same, List.map_append, e41]
            rfl
          · rw [← hc]
            simp [wout]
        · refine ⟨_, rfl, _, rfl, ?_⟩
          refine iteF ?_
          obtain ⟨dx, f1, g1, h1⟩ := hx.obj
          refine ⟨_, rfl, _, _, _, _, _, rfl, h1, T.cl, T.nZ, tf_size _ _ _, rfl, _, rfl, ?_⟩
          have hx' := hx
          cases hx with
          | nil h =>
            refine iteT ?_
            refine ⟨_, rfl, .inl ⟨rfl, _, SqL.of hf2⟩, fl, _, _, rfl, rfl, hf2, hd, ?_⟩
            refine ⟨wm ps, by rw [wm_cons]; simp only [wm1]; omega, rs, ps, dn ++ [46], _, rfl, s2.set nfl, ?_, (upd_ne (Ne.symm nfw)).trans hw2, wts_kt (KT.lst hf2) hps2, ?_, rfl, by omega⟩
            · rw [upd_same, List.map_append, e46]
              rfl
            · rw [← hc]
              simp [wout, Tr.codes]
          | @pr _ dx' b c l r h hl hr' =>
            have ed : decide (V.int ((Tr.pr l r).size : Nat) = V.int 0) = false := by
              simp only [Tr.size, decide_eq_false_iff_not, V.int.injEq]
              omega
            rw [ed]
            refine iteF ?_
            refine ⟨_, rfl, .inl ⟨rfl, _, SqL.of hf2⟩, fl, _, _, rfl, rfl, hf2, hd, ?_⟩
            have k3 : KT H2 (upd H2 fl (.lst (dn.map sgn ++ [.str "("]))) := KT.lst hf2
            have s3 : Same H (upd H2 fl (.lst (dn.map sgn ++ [.str "("]))) := s2.set nfl
            have hf3 : (upd H2 fl (.lst (dn.map sgn ++ [.str "("]))) fl = some (.lst ((dn ++ [40]).map sgn)) := by
              rw [upd_same, List.map_append, e40]
              rfl
            have hw3 : (upd H2 fl (.lst (dn.map sgn ++ [.str "("]))) wl = some (.lst rs.reverse) := (upd_ne (Ne.symm nfw)).trans hw2
            have h3 := k3 _ _ h (fun _ e => nomatch e)
            have hl3 := hl.kt k3
            have hr3 := hr'.kt k3
            have hps3 := wts_kt k3 hps2
            revert s3 hf3 hw3 h3 hl3 hr3 hps3
            generalize (upd H2 fl (.lst (dn.map sgn ++ [.str "("]))) = H3
            intro s3 hf3 hw3 h3 hl3 hr3 hps3
            refine ⟨_, rfl, .inl ⟨rfl, _, SqL.of hw3⟩, _, rfl, _, _, _, _, _, rfl, h3, T.cl, T.nS, tf_second _ _ _, _, rfl, _, _, _, _, _, rfl, h3, T.cl, T.nF, tf_first _ _ _, (by show 3 ≤ sizeLine; decide), fun q nq => ?_⟩
            have nqw : wl ≠ q := ne_of_none hw3 nq
            have nqf : fl ≠ q := ne_of_none hf3 nq
            simp only [wm1, Tr.size] at hm
            refine ⟨wl, q, _, _, rfl, rfl, (upd_ne nqw).trans hw3, upd_same, (by rw [List.length_reverse]; show rs.length + 3 ≤ sizeLine; omega), ?_⟩
            have k4 : KT H3 (upd (upd H3 q (.lst [.non, .ref c, .ref b])) wl (.lst (rs.reverse ++ [.non, .ref c, .ref b]))) := (KT.new nq).trans (KT.lst ((upd_ne nqw).trans hw3))
            refine ⟨wm (some l :: some r :: none :: ps), ?_, .ref b :: .ref c :: .non :: rs, some l :: some r :: none :: ps, dn ++ [40], _, rfl, (s3.trans (Same.new nq)).set hwl, (upd_ne nfw).trans ((upd_ne nqf).trans hf3), ?_,
              .cons (.inr ⟨b, l, rfl, rfl, hl3.kt k4⟩) (.cons (.inr ⟨c, r, rfl, rfl, hr3.kt k4⟩) (.cons (.inl ⟨rfl, rfl⟩) (wts_kt k4 hps3))), ?_, rfl, ?_⟩
            · rw [wm_cons, wm_cons, wm_cons, wm_cons]
              simp only [wm1, Tr.size]
              omega
            · rw [upd_same]
              simp
            · rw [← hc, wouts_cons, wouts_cons, wouts_cons]
              simp [wout, Tr.codes]
            · rw [wm_cons, wm_cons, wm_cons]
              simp only [wm1]
              omega
theorem joinL_signs : ∀ cs : List Nat, TL.joinL [] ((cs.map fun c => (⟨#[c]⟩ : Str)).map TL.tl) = cs
  | [] => rfl
  | [c] => rfl
  | c :: d :: r => by
    have ih := joinL_signs (d :: r)
    show [c] ++ ([] ++ TL.joinL [] (((d :: r).map fun c => (⟨#[c]⟩ : Str)).map TL.tl)) = c :: d :: r
    rw [ih]
    rfl
theorem join_signs (cs : List Nat) : (PySem.Txt.join ("" : Str) (cs.map fun c => (⟨#[c]⟩ : Str))) = ⟨cs.toArray⟩ := by
  rw [TL.join_eq]
  apply PyProof.Rows.ext_toList
  exact (TL.tl_join _ _).trans (joinL_signs cs)
theorem sum_signs : ∀ cs : List Nat, ((cs.map fun c => (⟨#[c]⟩ : Str)).map (·.length)).sum = cs.length
  | [] => rfl
  | c :: r => by
    have ih := sum_signs r
    rw [List.map_cons, List.map_cons, List.sum_cons, ih, List.length_cons]
    show 1 + _ = _
    omega
theorem scSt : FnScope ["self"] ["self"] (defScope sStr) := ⟨rfl, rfl, rfl, by decide +kernel, rfl, by decide +kernel, by decide +kernel⟩
theorem ok_str {f fS : Addr} {fd fdS : FuncData} (F : Fun K "__str__" "Thing.__str__" sStr f fd) (T : Txt K mg C) (AS : At K mg "signs" sSigns ["thing"] fS fdS) : FnOk P w K mg base CX0 2 f fd ["self"] (spStr C) := by
  have GS : FnOk P w K mg base CX0 1 fS fdS ["thing"] (spSigns C) := ok_signs AS.F T
  refine F.ok scSt (fun vs H Q E h => ?_) (fun cdv A outer s H vs Q E hr h => ?_)
  · obtain ⟨a, t, rfl, _⟩ := h
    rfl
  · obtain ⟨a, t, rfl, ha, hz, k⟩ := h
    refine ⟨_, pss_one (ps_ret (pe_join pe_str (pe_call GS hr rfl AS.mgf AS.F.kp AS.b .nil pass0 (pa_cons (pv 0) pa_nil)))), ?_⟩
    refine ⟨⟨_, rfl⟩, _, rfl, a, t, rfl, ha, hz, fun p H' s1 np hp => ?_⟩
    refine ⟨_, p, t.codes.map (fun c => (⟨#[c]⟩ : Str)), rfl, rfl, .inl (SqL.of (by rw [hp, List.map_map]; rfl)), ?_, ?_⟩
    · rw [sum_signs, Tr.codes_len, List.length_map, Tr.codes_len]
      show 3 * t.size + 1 + (3 * t.size + 1) * 0 ≤ 16777216
      omega
    · show Q (.str (PySem.Txt.join ("" : Str) (t.codes.map fun c => (⟨#[c]⟩ : Str)))) H'
      rw [join_signs]
      exact k H' s1
end
end Js

set_option Elab.async false
set_option linter.all false
set_option maxRecDepth 100000
set_option maxHeartbeats 2000000
namespace Js
open PySem L2
/-- how a Thing is made -/
structure Maker (P : Program) (w : World) (K : PySem.W.Frag) (mg : Str → Option Value) (base : Heap) (C fI : Addr) (fdI : FuncData) : Prop where
  M : Mk K C fI
  G : FnOk P w K mg base CX0 2 fI fdI ["self", "first", "second"] (spInit C)
  mgC : mg "Thing" = some (.ref C)
  b2 : Binds K fdI ["self", "first", "second"] []
  b0 : ∃ ds, Vals [V.non, V.non] ds ∧ Binds K fdI ["self", "first", "second"] ds
/-- Thing(x, y) -/
def tT (C : Addr) (t : TA) : TE := fun σ H Q => t σ H fun vs H1 => ∃ a b t u, vs = [.ref a, .ref b] ∧ Th C H1 a t ∧ Th C H1 b u ∧ 1 + t.size + u.size ≤ 4000 ∧ ∀ z H', Same H1 H' → H1 z = none → Th C H' z (.pr t u) → Q (.ref z) H'
/-- Thing() -/
def tT0 (C : Addr) : TE := fun _ H Q => ∀ z H', Same H H' → H z = none → Th C H' z .nil → Q (.ref z) H'
section
open PyProof.Rows
variable {X : Cx} {C fI : Addr} {fdI : FuncData} {p pos : Pos} {e : Expr} {es : List Expr} {t : TA}
theorem pe_T2 (mk : Maker X.prog X.w X.K X.mg X.base C fI fdI) (hr : Room 3 X.A) (hg : Gl X "Thing") (ha : PA X (e :: es) t)
    (he : starEach (e :: es) X.env = (false, eval e X.env) :: starEach es X.env := by rfl) (hpl : (backTo pos (starEach es X.env)).any (·.1) = false := by rfl) : PE X (.Call (.Name "Thing" p) (e :: es) [] pos) (tT C t) := by
  refine ⟨fun pins s σ H Q I h => ?_⟩
  refine wpAny_Call_Name_kw (ld_glob I hg mk.mgC ?_ (by decide))
  refine PySem.W.callWith_K (h₀ := X.base) I.ok.mod.kin mk.M.kp (thn (ha.run pos pins s σ H _ I h) fun us s1 ⟨vs, H1, I1, r, q⟩ => ⟨I1.kIn, ?_⟩) he hpl
  obtain ⟨a, b, t, u, rfl, h1, h2, hz, k⟩ := q
  exact run_make mk.M mk.G hr mk.b2 .nil pass0 I1 r (mk_pr h1 h2 hz k)
theorem pe_T0 (mk : Maker X.prog X.w X.K X.mg X.base C fI fdI) (hr : Room 3 X.A) (hg : Gl X "Thing") : PE X (.Call (.Name "Thing" p) [] [] pos) (tT0 C) := by
  obtain ⟨ds, hv, hb⟩ := mk.b0
  refine ⟨fun pins s σ H Q I h => ?_⟩
  refine wpAny_Call_Name_kw (ld_glob I hg mk.mgC ?_ (by decide))
  exact PySem.W.callWith_K0 I.kIn mk.M.kp (run_make (us := []) mk.M mk.G hr hb hv pass0 I .nil (mk_nil h))
end
def ThV (C : Addr) (H : Hp) (v : V) (t : Tr) : Prop := ∃ a, v = .ref a ∧ Th C H a t
theorem ThV.kt {C : Addr} {H H' : Hp} (k : KT H H') {v : V} {t : Tr} (h : ThV C H v t) : ThV C H' v t := by
  obtain ⟨a, e, h⟩ := h
  exact ⟨a, e, h.kt k⟩
theorem ths_kt {C : Addr} {H H' : Hp} (k : KT H H') : ∀ {vs : List V} {ts : List Tr}, Paired (ThV C H) vs ts → Paired (ThV C H') vs ts
  | _, _, .nil => .nil
  | _, _, .cons h t => .cons (h.kt k) (ths_kt k t)
theorem paired_get {α β : Type} {F : α → β → Prop} : ∀ {xs : List α} {ys : List β}, Paired F xs ys → ∀ {i : Nat} {x : α}, xs[i]? = some x → ∃ y, ys[i]? = some y ∧ F x y
  | _, _, .nil, i, x, h => by simp at h
  | _, _, .cons h t, 0, x, e => by
    simp at e
    subst e
    exact ⟨_, rfl, h⟩
  | _, _, .cons h t, i + 1, x, e => by
    simp at e
    obtain ⟨y, e1, e2⟩ := paired_get t e
    exact ⟨y, by simpa using e1, e2⟩
theorem paired_snoc {α β : Type} {F : α → β → Prop} : ∀ {xs : List α} {ys : List β} {x : α} {y : β}, Paired F xs ys → F x y → Paired F (xs ++ [x]) (ys ++ [y])
  | _, _, _, _, .nil, h => .cons h .nil
  | _, _, _, _, .cons h t, h' => .cons h (paired_snoc t h')
end Js

set_option Elab.async false
set_option linter.all false
set_option maxRecDepth 100000
set_option maxHeartbeats 2000000
namespace Js
open PySem L2
abbrev sNumber : Stmt := top 12
abbrev sRow : Stmt := top 14
def num : Nat → Tr
  | 0 => .nil
  | n + 1 => .pr .nil (num n)
theorem num_size : ∀ n, (num n).size = n
  | 0 => rfl
  | n + 1 => by simp only [num, Tr.size, num_size n]; omega
def rowT : List Tr → Tr
  | [] => .nil
  | t :: r => .pr t (rowT r)
def spNumber (C : Addr) : Sp := fun vs H Q _ => ∃ n : Nat, vs = [.int (n : Nat)] ∧ n ≤ 4000 ∧ ∀ a H', Same H H' → Th C H' a (num n) → Q (.ref a) H'
def spRow (C : Addr) : Sp := fun vs H Q _ => ∃ l xs ts, vs = [.ref l] ∧ H l = some (.lst xs) ∧ Paired (ThV C H) xs ts ∧ (rowT ts).size ≤ 4000 ∧ ∀ a H', Same H H' → Th C H' a (rowT ts) → Q (.ref a) H'
theorem row_drop (ts : List Tr) (i : Nat) (t : Tr) (h : ts[i]? = some t) : rowT (ts.drop i) = .pr t (rowT (ts.drop (i + 1))) := by
  have hi := (List.getElem?_eq_some_iff.mp h).1
  have e := (List.getElem?_eq_some_iff.mp h).2
  rw [List.drop_eq_getElem_cons hi, e, rowT]
theorem row_drop_size : ∀ (ts : List Tr) (i : Nat), (rowT (ts.drop i)).size ≤ (rowT ts).size
  | [], i => by simp
  | t :: r, 0 => by simp
  | t :: r, i + 1 => by
    have := row_drop_size r i
    simp only [List.drop_succ_cons, rowT, Tr.size]
    omega
section
variable {P : Program} {w : World} {K : PySem.W.Frag} {mg : Str → Option Value} {base : Heap} {C fI : Addr} {fdI : FuncData}
theorem scN : FnScope ["n", "told", "step"] ["n"] (defScope sNumber) := ⟨rfl, rfl, rfl, by decide +kernel, rfl, by decide +kernel, by decide +kernel⟩
theorem ok_number {f : Addr} {fd : FuncData} (F : Fun K "number" "number" sNumber f fd) (T : Txt K mg C) (mk : Maker P w K mg base C fI fdI) : FnOk P w K mg base CX0 4 f fd ["n"] (spNumber C) := by
  refine F.ok scN (fun vs H Q E h => ?_) (fun cdv A outer s H vs Q E hr h => ?_)
  · obtain ⟨n, rfl, _⟩ := h
    rfl
  · obtain ⟨n, rfl, hn, k⟩ := h
    refine ⟨_, pss_cons (ps_set (i := 1) scN.nd rfl (Or.inl rfl) (pe_T0 mk hr rfl))
      (pss_cons (ps_for PassesOwn.never rfl (pi_range1 rfl T.range (pa_cons (pv 0) pa_nil)) (pg_name (i := 2) scN.nd rfl (Or.inl rfl))
        (pss_one (ps_set (i := 1) scN.nd rfl (Or.inl rfl) (pe_T2 mk hr rfl (pa_cons (pe_T0 mk hr rfl) (pa_cons (pv 1) pa_nil))))))
      (pss_one (ps_ret (pv 1)))), ?_⟩
    intro x0 H1 s1 _ h1
    refine ⟨_, rfl, _, rfl, by omega, by omega, for_range (n := ((n : Nat) : Int).toNat) (fun i σ H' => ∃ x a, σ = [some (.int (n : Nat)), some (.ref a), x] ∧ Same H H' ∧ Th C H' a (num i)) ⟨none, x0, rfl, s1, h1⟩ ?_ ?_⟩
    · rintro i σ H2 hi ⟨x, a, rfl, s2, h2⟩
      intro x1 H3 s3 _ h3
      refine ⟨_, rfl, _, _, _, _, rfl, h3, h2.same s3, ?_, fun x2 H4 s4 _ h4 => ?_⟩
      · rw [num_size]
        simp only [Tr.size]
        omega
      · exact ⟨_, x2, rfl, (s2.trans s3).trans s4, h4⟩
    · rintro σ H2 ⟨x, a, rfl, s2, h2⟩
      refine ⟨_, rfl, k a H2 s2 ?_⟩
      have e : ((n : Nat) : Int).toNat = n := by omega
      rw [e] at h2
      exact h2
theorem scR : FnScope ["things", "told", "part"] ["things"] (defScope sRow) := ⟨rfl, rfl, rfl, by decide +kernel, rfl, by decide +kernel, by decide +kernel⟩
theorem ok_row {f : Addr} {fd : FuncData} (F : Fun K "row" "row" sRow f fd) (T : Txt K mg C) (mrev : mg "reversed" = none) (mk : Maker P w K mg base C fI fdI) : FnOk P w K mg base CX0 4 f fd ["things"] (spRow C) := by
  refine F.ok scR (fun vs H Q E h => ?_) (fun cdv A outer s H vs Q E hr h => ?_)
  · obtain ⟨l, xs, ts, rfl, _⟩ := h
    rfl
  · obtain ⟨l, xs, ts, rfl, hl, hps, hz, k⟩ := h
    refine ⟨_, pss_cons (ps_set (i := 1) scR.nd rfl (Or.inl rfl) (pe_T0 mk hr rfl))
      (pss_cons (ps_for PassesOwn.never rfl (pi_reversed rfl mrev (pa_cons (pv 0) pa_nil)) (pg_name (i := 2) scR.nd rfl (Or.inl rfl))
        (pss_one (ps_set (i := 1) scR.nd rfl (Or.inl rfl) (pe_T2 mk hr rfl (pa_cons (pv 2) (pa_cons (pv 1) pa_nil))))))
      (pss_one (ps_ret (pv 1)))), ?_⟩
    have hlen := Paired.length hps
    intro x0 H1 s1 _ h1
    refine ⟨_, rfl, l, xs, rfl, SqL.of (s1 _ _ hl), for_it (walk_rev (K := K) (a := l) (xs := xs)) (fun i σ H' => ∃ x a, σ = [some (.ref l), some (.ref a), x] ∧ Same H H' ∧ Th C H' a (rowT (ts.drop (xs.length - i)))) ⟨none, x0, rfl, s1, ?_⟩ ?_ ?_ ?_⟩
    · rw [Nat.sub_zero, hlen, List.drop_length]
      exact h1
    · rintro i σ H2 _ ⟨x, a, rfl, s2, h2⟩
      exact SqL.of (s2 _ _ hl)
    · rintro i y σ H2 H3 hi ⟨x, a, rfl, s2, h2⟩ ⟨rfl, hy⟩
      obtain ⟨ty, e1, b, rfl, hb⟩ := paired_get hps hy
      have e2 := row_drop ts _ _ e1
      have e3 : xs.length - 1 - i + 1 = xs.length - i := by omega
      have e4 : xs.length - 1 - i = xs.length - (i + 1) := by omega
      have hsz := row_drop_size ts (xs.length - 1 - i)
      rw [e2, e3] at hsz
      refine ⟨_, rfl, _, rfl, _, _, _, _, rfl, hb.same s2, h2, ?_, fun x2 H4 s4 _ h4 => ?_⟩
      · simp only [Tr.size] at hsz
        omega
      · refine ⟨_, x2, rfl, s2.trans s4, ?_⟩
        rw [← e4, e2, e3]
        exact h4
    · rintro σ H2 ⟨x, a, rfl, s2, h2⟩
      rw [Nat.sub_self, List.drop_zero] at h2
      exact ⟨_, rfl, k a H2 s2 h2⟩
end
end Js

set_option Elab.async false
set_option linter.all false
set_option maxRecDepth 100000
set_option maxHeartbeats 2000000
namespace Js
open PySem L2
abbrev sBag : Stmt := top 67
abbrev sTake : Stmt := top 68
/-- which built-ins are as they were -/
structure Blt (mg : Str → Option Value) : Prop where
  len : mg "len" = none
  range : mg "range" = none
  abs : mg "abs" = none
  int : mg "int" = none
  str : mg "str" = none
  max : mg "max" = none
  min : mg "min" = none
  all : mg "all" = none
structure BagOk (H : Hp) (p : Addr) : Prop where
  ex : ∃ x0 x1 pr x3 : Int, H p = some (.lst [.int x0, .int x1, .int pr, .int x3]) ∧ 0 ≤ x0 ∧ 0 ≤ x1 ∧ x1 < 2147483648 ∧ 0 < pr ∧ pr < 2147483648
/-- all but what stands at p stays -/
def KB (p : Addr) (H H' : Hp) : Prop := ∀ a o, a ≠ p → H a = some o → H' a = some o
theorem KB.refl (p : Addr) (H : Hp) : KB p H H := fun _ _ _ h => h
theorem KB.of {p : Addr} {H H' : Hp} (s : Same H H') : KB p H H' := fun _ _ _ h => s _ _ h
theorem KB.trans {p : Addr} {H H1 H2 : Hp} (a : KB p H H1) (b : KB p H1 H2) : KB p H H2 := fun x o n h => b x o n (a x o n h)
theorem KB.set {p : Addr} {H : Hp} {o : HO} : KB p H (upd H p o) := fun x u n h => by rw [upd_ne n]; exact h
theorem KB.kt {p : Addr} {H H' : Hp} (k : KB p H H') {xs : List V} (hp : H p = some (.lst xs)) : KT H H' := fun a o h n => k a o (fun z => by subst z; exact n _ (Option.some.inj (h.symm.trans hp))) h
theorem BagOk.kt {p : Addr} {H H' : Hp} (b : BagOk H p) (k : KB p H H') : KT H H' := by
  obtain ⟨x0, x1, pr, x3, h, _⟩ := b.ex
  exact k.kt h
theorem BagOk.same {p : Addr} {H H' : Hp} (b : BagOk H p) (s : Same H H') : BagOk H' p := by
  obtain ⟨x0, x1, pr, x3, h, r⟩ := b.ex
  exact ⟨x0, x1, pr, x3, s _ _ h, r⟩
theorem BagOk.some {p : Addr} {H : Hp} (b : BagOk H p) : ∃ xs, H p = some (.lst xs) := by
  obtain ⟨x0, x1, pr, x3, h, r⟩ := b.ex
  exact ⟨_, h⟩
def spBag (K : PySem.W.Frag) : Sp := fun vs H Q _ => ∃ (a : Addr) (ns : List Int) (k : Nat), vs = [.ref a, .int (k : Nat)] ∧ SqL K H a (ns.map V.int) ∧ k < 8 ∧ ∀ p H', Same H H' → H p = none → BagOk H' p → Q (.ref p) H'
def spTake : Sp := fun vs H Q _ => ∃ (p : Addr) (m : Int), vs = [.ref p, .int m] ∧ BagOk H p ∧ 0 < m ∧ m < 1073741824 ∧ ∀ (d : Int) H', KB p H H' → BagOk H' p → 0 ≤ d → d < m → Q (.int d) H'
def primes : List V := [.int 2147483629, .int 2147483587, .int 2147483579, .int 2147483563, .int 2147483549, .int 2147483543, .int 2147483497, .int 2147483489]
theorem prime_at (k : Nat) (hk : k < 8) : ∃ pr : Int, atI primes ((k : Int) % 8) = some (.int pr) ∧ 0 < pr ∧ pr < 2147483648 := by
  have e : ((k : Int) % 8) = (k : Nat) := by omega
  rw [e]
  match k, hk with
  | 0, _ => exact ⟨_, atI_nat rfl, by decide, by decide⟩
  | 1, _ => exact ⟨_, atI_nat rfl, by decide, by decide⟩
  | 2, _ => exact ⟨_, atI_nat rfl, by decide, by decide⟩
  | 3, _ => exact ⟨_, atI_nat rfl, by decide, by decide⟩
  | 4, _ => exact ⟨_, atI_nat rfl, by decide, by decide⟩
  | 5, _ => exact ⟨_, atI_nat rfl, by decide, by decide⟩
  | 6, _ => exact ⟨_, atI_nat rfl, by decide, by decide⟩
  | 7, _ => exact ⟨_, atI_nat rfl, by decide, by decide⟩
section
variable {P : Program} {w : World} {K : PySem.W.Frag} {mg : Str → Option Value} {base : Heap} {C fI : Addr} {fdI : FuncData}
theorem scB : FnScope ["_law_script", "_law_at", "_law_cell", "_law_prime"] ["_law_script", "_law_at"] (defScope sBag) := ⟨rfl, rfl, rfl, by decide +kernel, rfl, by decide +kernel, by decide +kernel⟩
theorem ok_bag {f : Addr} {fd : FuncData} (F : Fun K "_law_bag" "_law_bag" sBag f fd) (B : Blt mg) : FnOk P w K mg base CX0 1 f fd ["_law_script", "_law_at"] (spBag K) := by
  refine F.ok scB (fun vs H Q E h => ?_) (fun cdv A outer s H vs Q E hr h => ?_)
  · obtain ⟨a, ns, k, rfl, _⟩ := h
    rfl
  · obtain ⟨a, ns, kk, rfl, hS, hk, k⟩ := h
    refine ⟨_, pss_cons (ps_set (i := 2) scB.nd rfl (Or.inl rfl) pe_int)
      (pss_cons (ps_if (pt_cmpR op_lt (pv 1) (pe_callB call_len_seq (by rfl) B.len PySem.boot_len (pa_cons (pv 0) pa_nil)) (nomark _))
        (pss_one (ps_set (i := 2) scB.nd rfl (Or.inl rfl) (pe_callB call_abs (by rfl) B.abs PyProof.Rows.boot_abs (pa_cons (pe_ix ix_list (pv 0) (pv 1) (fun _ _ => rfl)) pa_nil)))) pss_nil)
      (pss_cons (ps_set (i := 3) scB.nd rfl (Or.inl rfl) (pe_ix ix_list (pe_lst (pa_cons pe_int (pa_cons pe_int (pa_cons pe_int (pa_cons pe_int (pa_cons pe_int (pa_cons pe_int (pa_cons pe_int (pa_cons pe_int pa_nil))))))))) (pe_op op_mod (pv 1) pe_int) (fun _ _ => rfl)))
      (pss_one (ps_ret (pe_lst (pa_cons (pe_op op_mul (pv 2) (pe_callTy call_int1 (by rfl) B.int PyProof.Rows.boot_int (pa_cons (pe_cmpR op_ge (pv 2) (pe_op op_pow pe_int pe_int) (nomark _)) pa_nil)))
        (pa_cons (pe_op op_mod (pe_op op_pow (pe_op op_add (pe_op op_add (pe_op op_mod (pv 2) pe_int) (pe_op op_mul pe_int (pv 1))) pe_int) pe_int) (pv 3)) (pa_cons (pv 3) (pa_cons pe_int pa_nil))))))))), ?_⟩
    -- behind the first if
    have rest : ∀ (cell : Int), 0 ≤ cell → tSeq (tAsg (tOp (rIxL K) (tLst (tCons (tC (V.int 2147483629)) (tCons (tC (V.int 2147483587)) (tCons (tC (V.int 2147483579)) (tCons (tC (V.int 2147483563)) (tCons (tC (V.int 2147483549)) (tCons (tC (V.int 2147483543)) (tCons (tC (V.int 2147483497)) (tCons (tC (V.int 2147483489)) tNil))))))))) (tOp (rI (fun _ j => 0 < j) fun i j => .int (i % j)) (tVar 1) (tC (V.int 8)))) (gName 3))
        (tRet (tLst (tCons (tOp (rI CMul fun i j => .int (i * j)) (tVar 2) (tCB (fun xs H Q => (∃ i, xs = [.int i] ∧ Q (.int i) H) ∨ ∃ k, xs = [.bl k] ∧ Q (.int (if k then 1 else 0)) H) (tCons (tOp (rI0 fun i j => .bl (decide (j ≤ i))) (tVar 2) (tOp (rI CPow fun i j => .int (i ^ j.toNat)) (tC (.int 10)) (tC (.int 18)))) tNil)))
          (tCons (tOp (rI (fun _ j => 0 < j) fun i j => .int (i % j)) (tOp (rI CPow fun i j => .int (i ^ j.toNat)) (tOp (rI0 fun i j => .int (i + j)) (tOp (rI0 fun i j => .int (i + j)) (tOp (rI (fun _ j => 0 < j) fun i j => .int (i % j)) (tVar 2) (tC (.int 2147483647))) (tOp (rI CMul fun i j => .int (i * j)) (tC (.int 104729)) (tVar 1))) (tC (.int 7))) (tC (.int 5))) (tVar 3)) (tCons (tVar 3) (tCons (tC (.int 0)) tNil))))))
        { nx := fun _ H' => Q .non H', rt := Q } [some (.ref a), some (.int (kk : Nat)), some (.int cell), none] H := by
      intro cell hc
      refine ⟨(by show 8 ≤ sizeLine; decide), fun pl npl => ?_⟩
      obtain ⟨pr, e1, e2, e3⟩ := prime_at kk hk
      refine ⟨_, rfl, _, _, rfl, rfl, (by show (0 : Int) < 8; decide), pl, _, _, _, rfl, rfl, SqL.of upd_same, e1, ?_⟩
      refine ⟨_, rfl, _, rfl, _, _, rfl, rfl, ⟨by decide, by decide, by decide⟩, _, _, rfl, rfl, .inr ⟨_, rfl, _, _, rfl, rfl, .inr ?_, ?_⟩⟩
      · split
        · exact ⟨by decide, by decide⟩
        · exact ⟨by decide, by decide⟩
      · refine ⟨_, rfl, _, _, rfl, rfl, (by show (0 : Int) < 2147483647; decide), _, rfl, _, _, rfl, rfl, .inl ⟨by decide, by decide⟩, _, _, rfl, rfl, _, _, rfl, rfl, _, _, rfl, rfl, ⟨by decide, by decide, ?_⟩, _, rfl, _, _, rfl, rfl, e2, _, rfl, (by show 4 ≤ sizeLine; decide), fun p np => ?_⟩
        · have h1 : 0 ≤ cell % 2147483647 := Int.emod_nonneg _ (by decide)
          have h2 : cell % 2147483647 < 2147483647 := Int.emod_lt_of_pos _ (by decide)
          show (cell % 2147483647 + 104729 * (kk : Int) + 7).natAbs < 2 ^ 64
          omega
        · have hne : H p = none := (Same.new npl).free np
          refine k p _ ((Same.new npl).trans (Same.new np)) hne ⟨_, _, pr, 0, upd_same, ?_, ?_, ?_, e2, e3⟩
          · split
            · simpa using hc
            · simp
          · exact Int.emod_nonneg _ (by omega)
          · exact Int.lt_trans (Int.emod_lt_of_pos _ e2) e3
    refine ⟨_, rfl, _, rfl, a, _, rfl, .inl hS, _, _, rfl, rfl, _, rfl, ?_⟩
    refine ite2 (fun hlt => ?_) (fun _ => rest 0 (by decide))
    have hlt' : kk < ns.length := by
      have := of_decide_eq_true hlt
      rw [List.length_map] at this
      omega
    refine ⟨_, rfl, _, rfl, a, _, _, _, rfl, rfl, hS, atI_nat (v := .int ns[kk]) (by rw [List.getElem?_map, List.getElem?_eq_getElem hlt']; rfl), _, rfl, ?_⟩
    exact rest _ (by split <;> omega)
theorem scTk : FnScope ["_law_bag_here", "_law_many", "_law_digit"] ["_law_bag_here", "_law_many"] (defScope sTake) := ⟨rfl, rfl, rfl, by decide +kernel, rfl, by decide +kernel, by decide +kernel⟩
theorem ok_take {f : Addr} {fd : FuncData} (F : Fun K "_law_take" "_law_take" sTake f fd) : FnOk P w K mg base CX0 1 f fd ["_law_bag_here", "_law_many"] spTake := by
  refine F.ok scTk (fun vs H Q E h => ?_) (fun cdv A outer s H vs Q E hr h => ?_)
  · obtain ⟨p, m, rfl, _⟩ := h
    rfl
  · obtain ⟨p, m, rfl, ⟨x0, x1, pr, x3, hp, h0, h1, h1', hp0, hp1⟩, hm0, hm1, k⟩ := h
    refine ⟨_, pss_cons (ps_if (pt_cmpR op_gt (pe_ix ix_list (pv 0) pe_int (fun _ _ => rfl)) pe_int (nomark _))
        (pss_cons (ps_set (i := 2) scTk.nd rfl (Or.inl rfl) (pe_op op_mod (pe_ix ix_list (pv 0) pe_int (fun _ _ => rfl)) (pv 1)))
        (pss_cons (ps_asg (pe_op op_fdiv (pe_ix ix_list (pv 0) pe_int (fun _ _ => rfl)) (pv 1)) (pg_sub (pv 0) pe_int set_list)) (pss_one (ps_ret (pv 2))))) pss_nil)
      (pss_cons (ps_asg (pe_op op_add (pe_ix ix_list (pv 0) pe_int (fun _ _ => rfl)) pe_int) (pg_sub (pv 0) pe_int set_list))
      (pss_cons (ps_asg (pe_op op_mod (pe_op op_add (pe_op op_add (pe_op op_mul (pe_ix ix_list (pv 0) pe_int (fun _ _ => rfl)) pe_int) (pe_op op_mul pe_int (pe_ix ix_list (pv 0) pe_int (fun _ _ => rfl)))) pe_int) (pe_ix ix_list (pv 0) pe_int (fun _ _ => rfl))) (pg_sub (pv 0) pe_int set_list))
      (pss_one (ps_ret (pe_op op_mod (pe_op op_mod (pe_op op_pow (pe_op op_fdiv (pe_ix ix_list (pv 0) pe_int (fun _ _ => rfl)) pe_int) pe_int) pe_int) (pv 1)))))), ?_⟩
    refine ⟨_, rfl, p, _, _, .int x0, rfl, rfl, SqL.of hp, rfl, _, _, rfl, rfl, _, rfl, ?_⟩
    refine ite2 (fun hlt => ?_) (fun _ => ?_)
    · refine ⟨_, rfl, p, _, _, .int x0, rfl, rfl, SqL.of hp, rfl, _, rfl, _, _, rfl, rfl, hm0, ?_⟩
      refine ⟨_, rfl, p, _, _, .int x0, rfl, rfl, SqL.of hp, rfl, _, rfl, _, _, rfl, rfl, ⟨hm0, hm1⟩, _, rfl, p, _, _, 0, rfl, rfl, hp, rfl, ?_⟩
      refine ⟨_, rfl, k _ _ KB.set ⟨x0 / m, x1, pr, x3, upd_same, ?_, h1, h1', hp0, hp1⟩ ?_ ?_⟩
      · exact Int.ediv_nonneg h0 (by omega)
      · exact Int.emod_nonneg _ (by omega)
      · exact Int.emod_lt_of_pos _ hm0
    · refine ⟨_, rfl, p, _, _, .int x3, rfl, rfl, SqL.of hp, rfl, _, _, rfl, rfl, _, rfl, p, _, _, 3, rfl, rfl, hp, rfl, ?_⟩
      have hp2 : (upd H p (.lst [.int x0, .int x1, .int pr, .int (x3 + 1)])) p = some (.lst [.int x0, .int x1, .int pr, .int (x3 + 1)]) := upd_same
      refine ⟨_, rfl, p, _, _, .int x1, rfl, rfl, SqL.of hp2, rfl, _, _, rfl, rfl, .inr ⟨by decide, by decide⟩, _, rfl, p, _, _, .int (x3 + 1), rfl, rfl, SqL.of hp2, rfl, _, _, rfl, rfl, .inl ⟨by decide, by decide⟩, _, _, rfl, rfl, _, _, rfl, rfl, _, rfl, p, _, _, .int pr, rfl, rfl, SqL.of hp2, rfl, _, _, rfl, rfl, hp0, _, rfl, p, _, _, 1, rfl, rfl, hp2, rfl, ?_⟩
      have g0 : 0 ≤ (x1 * 48271 + 7919 * (x3 + 1) + 11) % pr := Int.emod_nonneg _ (by omega)
      have g1 : (x1 * 48271 + 7919 * (x3 + 1) + 11) % pr < pr := Int.emod_lt_of_pos _ hp0
      have hp3 : (upd (upd H p (.lst [.int x0, .int x1, .int pr, .int (x3 + 1)])) p (.lst [.int x0, .int ((x1 * 48271 + 7919 * (x3 + 1) + 11) % pr), .int pr, .int (x3 + 1)])) p = some (.lst [.int x0, .int ((x1 * 48271 + 7919 * (x3 + 1) + 11) % pr), .int pr, .int (x3 + 1)]) := upd_same
      refine ⟨_, rfl, p, _, _, .int ((x1 * 48271 + 7919 * (x3 + 1) + 11) % pr), rfl, rfl, SqL.of hp3, rfl, _, _, rfl, rfl, ⟨by decide, by decide⟩, _, _, rfl, rfl, ⟨by decide, by decide, ?_⟩, _, _, rfl, rfl, (by show (0 : Int) < 2147483629; decide), _, rfl, _, _, rfl, rfl, hm0, ?_⟩
      · generalize (x1 * 48271 + 7919 * (x3 + 1) + 11) % pr = y at g0 g1
        show (y / 8).natAbs < 2 ^ 64
        omega
      · refine k _ _ (KB.set.trans KB.set) ⟨x0, _, pr, x3 + 1, hp3, h0, g0, by omega, hp0, hp1⟩ ?_ ?_
        · exact Int.emod_nonneg _ (by omega)
        · exact Int.emod_lt_of_pos _ hm0
end
end Js

set_option Elab.async false
set_option linter.all false
set_option maxRecDepth 100000
set_option maxHeartbeats 2000000
namespace Js
open PySem L2
/-- a def of the top keeps its promise -/
def Def (P : Program) (w : World) (K : PySem.W.Frag) (mg : Str → Option Value) (base : Heap) (x : Str) (k : Nat) (ps : List Str) (sp : Sp) : Prop :=
  ∃ f fd, mg x = some (.ref f) ∧ PySem.W.keepIn K (.ref f) = true ∧ FnOk P w K mg base CX0 k f fd ps sp ∧ Binds K fd ps []
/-- a special method of the class -/
def Spc (P : Program) (w : World) (K : PySem.W.Frag) (mg : Str → Option Value) (base : Heap) (C : Addr) (x : Str) (k : Nat) (ps : List Str) (sp : Sp) : Prop :=
  ∃ f fd, Own K C x f ∧ FnOk P w K mg base CX0 k f fd ps sp ∧ Binds K fd ps []
/-- a method of the class -/
def Mth (P : Program) (w : World) (K : PySem.W.Frag) (mg : Str → Option Value) (base : Heap) (C : Addr) (x : Str) (k : Nat) (ps : List Str) (sp : Sp) : Prop :=
  ∃ f fd, Meth K C x f ∧ FnOk P w K mg base CX0 k f fd ps sp ∧ Binds K fd ps []
section
open PyProof.Rows
variable {X : Cx} {C : Addr} {p pos apos : Pos} {e o : Expr} {es : List Expr} {t : TA} {ta : TE} {x : Str} {k : Nat} {ps : List Str} {sp : Sp}
theorem pe_def (D : Def X.prog X.w X.K X.mg X.base x k ps sp) (hr : Room k X.A) (hg : Gl X x) (ha : PA X (e :: es) t) (hdb : (x == ("__debug__" : Str)) = false := by decide)
    (he : starEach (e :: es) X.env = (false, eval e X.env) :: starEach es X.env := by rfl) (hpl : (backTo pos (starEach es X.env)).any (·.1) = false := by rfl) : PE X (.Call (.Name x p) (e :: es) [] pos) (tCall sp [] E0 t) := by
  obtain ⟨f, fd, hm, hk, F, hb⟩ := D
  exact pe_call F hr hg hm hk hb .nil pass0 ha hdb he hpl
/-- == of things -/
def rEqT (C : Addr) : R2 := fun x y H Q => ∃ a b t u, x = .ref a ∧ y = .ref b ∧ Th C H a t ∧ Th C H b u ∧ t.size ≤ 4000 ∧ ∀ H', Same H H' → Q (.bl (decide (t = u))) H'
def rNeT (C : Addr) : R2 := fun x y H Q => ∃ a b t u, x = .ref a ∧ y = .ref b ∧ Th C H a t ∧ Th C H b u ∧ t.size ≤ 4000 ∧ ∀ H', Same H H' → Q (.bl (!decide (t = u))) H'
theorem OpR.imp {f : Value → Value → Sem Value} {r r' : R2} (h : OpR X f r) (hi : ∀ x y H Q, r' x y H Q → r x y H Q) : OpR X f r' := fun pins s σ H x y v u Q I rx ry q => h pins s σ H x y v u Q I rx ry (hi x y H Q q)
theorem CallR.imp {f : Value} {r r' : List V → Hp → VK → Prop} (h : CallR X f r) (hi : ∀ xs H Q, r' xs H Q → r xs H Q) : CallR X f r' := fun pins s σ H xs us Q I rx q => h pins s σ H xs us Q I rx (hi xs H Q q)
theorem op_eqT (S : Spc X.prog X.w X.K X.mg X.base C "__eq__" 2 ["self", "other"] (spEqT C)) (hr : Room 2 X.A) : OpR X (compareOp .Eq) (rEqT C) := by
  obtain ⟨f, fd, ow, F, hb⟩ := S
  refine OpR.imp (op_eqOwn ow F hb hr (pass0)) fun x y H Q h => ?_
  obtain ⟨a, b, t, u, rfl, rfl, ha, hb', hz, q⟩ := h
  obtain ⟨dx, f1, g1, h1⟩ := ha.obj
  obtain ⟨dy, f2, g2, h2⟩ := hb'.obj
  exact ⟨a, dx, _, b, dy, _, rfl, rfl, h1, h2, a, b, t, u, rfl, ha, hb', hz, fun H' s => ⟨_, rfl, q H' s⟩⟩
theorem op_neT (S : Spc X.prog X.w X.K X.mg X.base C "__eq__" 2 ["self", "other"] (spEqT C)) (T : Txt X.K X.mg C) (hr : Room 3 X.A) : OpR X (compareOp .NotEq) (rNeT C) := by
  obtain ⟨f, fd, ow, F, hb⟩ := S
  refine OpR.imp (op_neOwn ow ⟨T.ne, T.cm⟩ F hb hr (pass0)) fun x y H Q h => ?_
  obtain ⟨a, b, t, u, rfl, rfl, ha, hb', hz, q⟩ := h
  obtain ⟨dx, f1, g1, h1⟩ := ha.obj
  obtain ⟨dy, f2, g2, h2⟩ := hb'.obj
  exact ⟨a, dx, _, b, dy, _, rfl, rfl, h1, h2, a, b, t, u, rfl, ha, hb', hz, fun H' s => ⟨_, rfl, q H' s⟩⟩
theorem call_lenT (S : Spc X.prog X.w X.K X.mg X.base C "__len__" 1 ["self"] (spLen C)) (hr : Room 2 X.A) : CallR X (.builtin "len") (fun xs H Q => ∃ a t, xs = [.ref a] ∧ Th C H a t ∧ t.size ≤ 4000 ∧ Q (.int (t.size : Nat)) H) := by
  obtain ⟨f, fd, ow, F, hb⟩ := S
  refine CallR.imp (call_lenOwn ow F hb hr (pass0)) fun xs H Q h => ?_
  obtain ⟨a, t, rfl, ha, hz, q⟩ := h
  obtain ⟨dx, f1, g1, h1⟩ := ha.obj
  exact ⟨a, dx, _, rfl, h1, a, t, rfl, ha, hz, _, rfl, by omega, q⟩
theorem call_strT (S : Spc X.prog X.w X.K X.mg X.base C "__str__" 2 ["self"] (spStr C)) (hr : Room 4 X.A) : CallR X (.type "str") (fun xs H Q => ∃ a t, xs = [.ref a] ∧ Th C H a t ∧ t.size ≤ 4000 ∧ ∀ H', Same H H' → Q (.str t.text) H') := by
  obtain ⟨f, fd, ow, F, hb⟩ := S
  refine CallR.imp (call_strOwn ow F hb hr (pass0)) fun xs H Q h => ?_
  obtain ⟨a, t, rfl, ha, hz, q⟩ := h
  obtain ⟨dx, f1, g1, h1⟩ := ha.obj
  exact ⟨a, dx, _, rfl, h1, a, t, rfl, ha, hz, fun H' s => ⟨_, rfl, q H' s⟩⟩
/-- a thing in a list of things -/
def rInTh (C : Addr) : R2 := fun x y H Q => ∃ b u p xs ts, x = .ref b ∧ Th C H b u ∧ y = .ref p ∧ H p = some (.lst xs) ∧ Paired (ThV C H) xs ts ∧ (∀ t ∈ ts, t.size ≤ 4000) ∧ ∀ H', Same H H' → Q (.bl (ts.any fun t => decide (t = u))) H'
def DTh (C : Addr) : Tells := fun x y r H => ∃ a b t u, x = .ref a ∧ y = .ref b ∧ Th C H a t ∧ Th C H b u ∧ t.size ≤ 4000 ∧ r = decide (t = u)
theorem op_inTh (S : Spc X.prog X.w X.K X.mg X.base C "__eq__" 2 ["self", "other"] (spEqT C)) (hr : Room 3 X.A) : OpR X (compareOp .In) (rInTh C) := by
  obtain ⟨f, fd, ow, F, hb⟩ := S
  have ET : EqT X 2 (DTh C) := eqT_own ow F hb (pass0) fun x y r H d => by
    obtain ⟨a, b, t, u, rfl, rfl, ha, hb', hz, rfl⟩ := d
    obtain ⟨dx, f1, g1, h1⟩ := ha.obj
    obtain ⟨dy, f2, g2, h2⟩ := hb'.obj
    refine ⟨a, b, dx, dy, _, _, rfl, rfl, h1, h2, fun e => ?_, a, b, t, u, rfl, ha, hb', hz, fun H' s => ⟨_, rfl, rfl, s⟩⟩
    subst e
    exact decide_eq_true (ha.inj hb')
  refine OpR.imp (op_inT ET (fun x y r H H' s d => ?_) hr) fun x y H Q h => ?_
  · obtain ⟨a, b, t, u, e1, e2, ha, hb', hz, e3⟩ := d
    exact ⟨a, b, t, u, e1, e2, ha.same s, hb'.same s, hz, e3⟩
  · obtain ⟨b, u, p, xs, ts, rfl, hb', rfl, hp, hps, hz, q⟩ := h
    refine ⟨p, xs, ts.map fun t => decide (t = u), rfl, hp, by rw [List.length_map]; exact (Paired.length hps).symm, fun i z r h1 h2 => ?_, fun H' s => ?_⟩
    · obtain ⟨ty, e1, a, rfl, ha⟩ := paired_get hps h1
      rw [List.getElem?_map, e1] at h2
      exact ⟨a, b, ty, u, rfl, rfl, ha, hb', hz ty (List.mem_of_getElem? e1), (Option.some.inj h2).symm⟩
    · have := q H' s
      rw [List.any_map]
      exact this
theorem pe_mth {pl : Sem Bool} (M : Mth X.prog X.w X.K X.mg X.base C x k ps sp) (T : Txt X.K X.mg C) (hr : Room k X.A) (he : PE X o ta)
    (ht : eval (.Call (.Attribute o x apos) [] [] pos) X.env = (do
      let ov ← eval o X.env
      standAt apos.atName
      let (f, first) ← holding [ov] (getMethod ov x pl)
      callWith pos f first (backTo pos (starEach [] X.env)) (backToKw pos (keywordEach [] X.env))) := by rfl) :
    PE X (.Call (.Attribute o x apos) [] [] pos) (tMeth C x sp [] E0 ta tNil) := by
  obtain ⟨f, fd, hm, F, hb⟩ := M
  exact pe_meth0 he T.cl hm F hr hb .nil pass0 ht
end
/-- what the law's defs lean on -/
structure Lib (P : Program) (w : World) (K : PySem.W.Frag) (mg : Str → Option Value) (base : Heap) (C fI : Addr) (fdI : FuncData) : Prop where
  T : Txt K mg C
  B : Blt mg
  made : Maker P w K mg base C fI fdI
  eq : Spc P w K mg base C "__eq__" 2 ["self", "other"] (spEqT C)
  str : Spc P w K mg base C "__str__" 2 ["self"] (spStr C)
  len : Spc P w K mg base C "__len__" 1 ["self"] (spLen C)
  head : Mth P w K mg base C "head" 1 ["self"] (spHead C)
  tail : Mth P w K mg base C "tail" 1 ["self"] (spTail C)
  bag : Def P w K mg base "_law_bag" 1 ["_law_script", "_law_at"] (spBag K)
  take : Def P w K mg base "_law_take" 1 ["_law_bag_here", "_law_many"] spTake
theorem n_hd1 : ¬ (("head" : Str) = "size") := by decide +kernel
theorem n_hd2 : ¬ (("head" : Str) = "second") := by decide +kernel
theorem n_hd3 : ¬ (("head" : Str) = "first") := by decide +kernel
theorem n_tl1 : ¬ (("tail" : Str) = "size") := by decide +kernel
theorem n_tl2 : ¬ (("tail" : Str) = "second") := by decide +kernel
theorem n_tl3 : ¬ (("tail" : Str) = "first") := by decide +kernel
theorem tf_head (f s : V) (n : Int) : (tf f s n).lookup ("head" : Str) = none := tf_no f s n n_hd1 n_hd2 n_hd3
theorem tf_tail (f s : V) (n : Int) : (tf f s n).lookup ("tail" : Str) = none := tf_no f s n n_tl1 n_tl2 n_tl3
end Js

set_option Elab.async false
set_option linter.all false
set_option maxRecDepth 100000
set_option maxHeartbeats 2000000
/-! == and != of lists and of tuples whose items have an own ==: what comes of them, alike or not -/
namespace JsQ
open PySem PySem.SeqAt
open AutoSeq1 (wpAny_loadPart')
open MeetsSeq MeetsSeq2 MeetsSeq3 SeqRoads2
section
variable {prog : Program} {w : World} {A : Around} {R : Result → Shared → Prop}
def TwoL (l b : Addr) (N : Nat) (us vs : Array Value) (s : Shared) : Prop := (∃ n, s.heap.get? l = some { cls := .type "list", data := .seq us n }) ∧ (∃ m, s.heap.get? b = some { cls := .type "list", data := .seq vs m }) ∧ us.size = N ∧ vs.size = N
/-- two lists of N items: J i behind i that are alike, F i where the next two are unlike -/
structure Goes (prog : Program) (w : World) (A : Around) (X : Value → Shared → Prop) (l b : Addr) (N : Nat) (J Fa : Nat → Shared → Prop) : Prop where
  turn : ∀ i s, J i s → ∃ us vs : Array Value, TwoL l b N us vs s ∧ ∀ (h1 : i < us.size) (h2 : i < vs.size), wpAny (model prog w) A.in1 (eqBool us[i] vs[i]) (fun r s' => if r = true then J (i + 1) s' else Fa i s') X s
  stay : ∀ i s, Fa i s → ∃ us vs : Array Value, TwoL l b N us vs s

theorem loop_eq (l b : Addr) (N : Nat) (J Fa : Nat → Shared → Prop) (g : Goes prog w A (fun e s' => R (.error e) s') l b N J Fa) (fin : ∀ s, J N s → R (.ok (.ret (.bool true))) s) (brk : ∀ i s, Fa i s → R (.ok (.ret (.bool false))) s) (k : Nat) :
    ∀ i : Nat, N - i = k → i ≤ N → ∀ s, J i s → wpAny (model prog w) A.in1 (Builtin.«list.__eq__.loop» ⟨[.ref l, .ref b, rawInt i, rawInt 2], []⟩) (GQ.FinOf prog w A R) (fun e s' => R (.error e) s') s := by
  induction k with
  | zero =>
    intro i hk hi s h
    obtain ⟨us, vs, ⟨⟨n, c1⟩, ⟨m, c2⟩, z1, z2⟩, _⟩ := g.turn _ _ h
    have ei : i = N := by omega
    have hR : R (.ok (.ret (.bool true))) s := fin s (ei ▸ h)
    obtain ⟨hp, gg, d, tk, os⟩ := s
    wp_walk using wpAny_loadPart' c1, wpAny_loadPart' c2
    have q1 : us[((i : Nat) : Int).toNat]? = none := by simp; omega
    have q2 : vs[((i : Nat) : Int).toNat]? = none := by simp; omega
    rw [q1, q2]
    wp_walk using wpAny_loadPart' c1, wpAny_loadPart' c2
    first
    | (show R (.ok (.ret (.bool (us.size == vs.size)))) _; rw [z1, z2]; simpa using hR)
    | (show R (.ok (.ret (.bool (us.size != vs.size)))) _; rw [z1, z2]; simpa using hR)
  | succ k ih =>
    intro i hk hi s h
    obtain ⟨us, vs, ⟨⟨n, c1⟩, ⟨m, c2⟩, z1, z2⟩, turn⟩ := g.turn _ _ h
    have l1 : i < us.size := by omega
    have l2 : i < vs.size := by omega
    have ht := turn l1 l2
    obtain ⟨hp, gg, d, tk, os⟩ := s
    wp_walk using wpAny_loadPart' c1, wpAny_loadPart' c2
    have q1 : us[((i : Nat) : Int).toNat]? = some us[i] := by simp [l1]
    have q2 : vs[((i : Nat) : Int).toNat]? = some vs[i] := by simp [l2]
    have ec : ((i : Int) + 1) = ((i + 1 : Nat) : Int) := by omega
    rw [q1, q2]
    refine wpAny_bind (wpAny_mono ht (fun r s2 h2 => ?_) fun _ _ x => x)
    cases r with
    | true =>
      rw [if_pos rfl] at h2
      have again := ih (i + 1) (by omega) (by omega) s2 h2
      obtain ⟨hp2, g2, d2, tk2, os2⟩ := s2
      wp_walk
      rw [ec]
      exact ⟨plainId_quiet plain_eq_loop _, codeAny_builtin entry_eq_loop (by rw [Around.under_plainId plain_eq_loop _]; exact again)⟩
    | false =>
      rw [if_neg Bool.false_ne_true] at h2
      obtain ⟨us', vs', ⟨n', c1'⟩, ⟨m', c2'⟩, z1', z2'⟩ := g.stay _ _ h2
      have hR := brk i s2 h2
      obtain ⟨hp2, g2, d2, tk2, os2⟩ := s2
      have p1 : us'[((i : Nat) : Int).toNat]? = some (us'[i]'(by omega)) := by first | (simp; done) | (simp; omega)
      have p2 : vs'[((i : Nat) : Int).toNat]? = some (vs'[i]'(by omega)) := by first | (simp; done) | (simp; omega)
      wp_walk using wpAny_loadPart' c1', wpAny_loadPart' c2'
      first
      | exact hR
      | (rw [p1, p2]; wp_walk; simpa using hR)
theorem list_eq (l b : Addr) (N : Nat) (J Fa : Nat → Shared → Prop) (g : Goes prog w A (fun e s' => R (.error e) s') l b N J Fa) (fin : ∀ s, J N s → R (.ok (.ret (.bool true))) s) (brk : ∀ i s, Fa i s → R (.ok (.ret (.bool false))) s) {s : Shared} (h : J 0 s) :
    wpAny (model prog w) A.in1 (Builtin.«list.__eq__» ⟨[.ref l, .ref b], []⟩) (GQ.FinOf prog w A R) (fun e s' => R (.error e) s') s := by
  obtain ⟨us, vs, ⟨⟨n, c1⟩, ⟨m, c2⟩, z1, z2⟩, _⟩ := g.turn _ _ h
  have go := loop_eq (A := A) (R := R) l b N J Fa g fin brk _ 0 rfl (Nat.zero_le _) s h
  obtain ⟨hp, gg, d, tk, os⟩ := s
  have f3 := AutoSeq1.sub_list_list
  have ne : ¬ (us.size != vs.size) = true := by simp [z1, z2]
  wp_walk using wpAny_loadPart' c1, wpAny_loadPart' c2
  exact ⟨plainId_quiet plain_eq_loop _, codeAny_builtin entry_eq_loop (by rw [Around.under_plainId plain_eq_loop _]; exact go)⟩
theorem far_eq (l b : Addr) (us vs : Array Value) (n m : Nat) (hz : (us.size != vs.size) = true) {s : Shared} (c1 : s.heap.get? l = some { cls := .type "list", data := .seq us n }) (c2 : s.heap.get? b = some { cls := .type "list", data := .seq vs m }) (h : R (.ok (.ret (.bool false))) s) :
    wpAny (model prog w) A.in1 (Builtin.«list.__eq__» ⟨[.ref l, .ref b], []⟩) (GQ.FinOf prog w A R) (fun e s' => R (.error e) s') s := by
  obtain ⟨hp, gg, d, tk, os⟩ := s
  have f3 := AutoSeq1.sub_list_list
  wp_walk using wpAny_loadPart' c1, wpAny_loadPart' c2
  exact h
theorem tup_eq (l b : Addr) (us vs : Array Value) (n m : Nat) (dd dd2 : Option Addr) (sl sl2 : Array (Option Value)) (J Fa : Nat → Shared → Prop)
    (turn : ∀ i (h1 : i < us.size) (h2 : i < vs.size) s, J i s → wpAny (model prog w) A.in1 (eqBool us[i] vs[i]) (fun r s' => if r = true then J (i + 1) s' else Fa i s') (fun e s' => R (.error e) s') s)
    (fin : ∀ s, J (min us.size vs.size) s → R (.ok (.ret (.bool (if us.size = vs.size then true else false)))) s) (brk : ∀ i s, Fa i s → R (.ok (.ret (.bool false))) s) {s : Shared} (c1 : s.heap.get? l = some { cls := .type "tuple", dict := dd, data := .seq us n, slots := sl })
    (c2 : s.heap.get? b = some { cls := .type "tuple", dict := dd2, data := .seq vs m, slots := sl2 }) (h : J 0 s) :
    wpAny (model prog w) A.in1 (Builtin.«tuple.__eq__» ⟨[.ref l, .ref b], []⟩) (GQ.FinOf prog w A R) (fun e s' => R (.error e) s') s := by
  have f2 := AutoSeq1.sub_tuple_tuple
  have zip_len : (us.toList.zip vs.toList).length = min us.size vs.size := by simp
  have h0 := h
  obtain ⟨hp, gg, d, tk, os⟩ := s
  wp_walk using wpAny_loadPart' c1, wpAny_loadPart' c2, wpAny_forIn_list _ (fun rest b s' => b.1 = none ∧ ∃ i, rest = (us.toList.zip vs.toList).drop i ∧ i ≤ min us.size vs.size ∧ J i s') _
  case turn =>
    rintro ⟨y, x⟩ rest b s' ⟨hb', i, hz, hi, hI⟩
    have lt : i < (us.toList.zip vs.toList).length := by
      rcases Nat.lt_or_ge i (us.toList.zip vs.toList).length with q | q
      · exact q
      · rw [List.drop_of_length_le q] at hz; cases hz
    have h1 : i < us.size := by omega
    have h2 : i < vs.size := by omega
    rw [List.drop_eq_getElem_cons lt] at hz
    injection hz with eyx er
    have ey : y = us[i] := by have := congrArg Prod.fst eyx; simpa using this
    have ex : x = vs[i] := by have := congrArg Prod.snd eyx; simpa using this
    subst ey ex
    refine wpAny_bind (wpAny_mono (turn i h1 h2 s' hI) (fun r s2 q2 => ?_) fun _ _ x => x)
    cases r with
    | true =>
      rw [if_pos rfl] at q2
      wp_walk
      exact ⟨rfl, i + 1, er, by omega, q2⟩
    | false =>
      rw [if_neg Bool.false_ne_true] at q2
      have hR := brk i s2 q2
      wp_walk
      first
      | exact ⟨_, rfl, hR⟩
      | exact hR
      | simpa using hR
  case fin =>
    rintro ⟨b1, b2⟩ s' ⟨hb', i, hz, hi, hI⟩
    simp only at hb'
    subst hb'
    have ge : min us.size vs.size ≤ i := by
      rcases Nat.lt_or_ge i (us.toList.zip vs.toList).length with q | q
      · rw [List.drop_eq_getElem_cons q] at hz; cases hz
      · exact zip_len ▸ q
    have ei : i = min us.size vs.size := by omega
    have hR := fin s' (ei ▸ hI)
    wp_walk
    by_cases hs : us.size = vs.size
    · rw [if_pos hs] at hR
      first
      | exact ⟨_, rfl, by simpa [Builtin.Tuple.tupleCompareSizes, bne, hs] using hR⟩
      | simpa [Builtin.Tuple.tupleCompareSizes, bne, hs] using hR
    · rw [if_neg hs] at hR
      have hs' : (us.size == vs.size) = false := beq_eq_false_iff_ne.mpr hs
      first
      | exact ⟨_, rfl, by simpa [Builtin.Tuple.tupleCompareSizes, bne, hs'] using hR⟩
      | (simp only [Builtin.Tuple.tupleCompareSizes, bne, hs']; exact hR)
  case h =>
    exact ⟨rfl, 0, rfl, Nat.zero_le _, h0⟩

theorem loop_ne (l b : Addr) (N : Nat) (J Fa : Nat → Shared → Prop) (g : Goes prog w A (fun e s' => R (.error e) s') l b N J Fa) (fin : ∀ s, J N s → R (.ok (.ret (.bool false))) s) (brk : ∀ i s, Fa i s → R (.ok (.ret (.bool true))) s) (k : Nat) :
    ∀ i : Nat, N - i = k → i ≤ N → ∀ s, J i s → wpAny (model prog w) A.in1 (Builtin.«list.__eq__.loop» ⟨[.ref l, .ref b, rawInt i, rawInt 3], []⟩) (GQ.FinOf prog w A R) (fun e s' => R (.error e) s') s := by
  induction k with
  | zero =>
    intro i hk hi s h
    obtain ⟨us, vs, ⟨⟨n, c1⟩, ⟨m, c2⟩, z1, z2⟩, _⟩ := g.turn _ _ h
    have ei : i = N := by omega
    have hR : R (.ok (.ret (.bool false))) s := fin s (ei ▸ h)
    obtain ⟨hp, gg, d, tk, os⟩ := s
    wp_walk using wpAny_loadPart' c1, wpAny_loadPart' c2
    have q1 : us[((i : Nat) : Int).toNat]? = none := by simp; omega
    have q2 : vs[((i : Nat) : Int).toNat]? = none := by simp; omega
    rw [q1, q2]
    wp_walk using wpAny_loadPart' c1, wpAny_loadPart' c2
    first
    | (show R (.ok (.ret (.bool (us.size == vs.size)))) _; rw [z1, z2]; simpa using hR)
    | (show R (.ok (.ret (.bool (us.size != vs.size)))) _; rw [z1, z2]; simpa using hR)
  | succ k ih =>
    intro i hk hi s h
    obtain ⟨us, vs, ⟨⟨n, c1⟩, ⟨m, c2⟩, z1, z2⟩, turn⟩ := g.turn _ _ h
    have l1 : i < us.size := by omega
    have l2 : i < vs.size := by omega
    have ht := turn l1 l2
    obtain ⟨hp, gg, d, tk, os⟩ := s
    wp_walk using wpAny_loadPart' c1, wpAny_loadPart' c2
    have q1 : us[((i : Nat) : Int).toNat]? = some us[i] := by simp [l1]
    have q2 : vs[((i : Nat) : Int).toNat]? = some vs[i] := by simp [l2]
    have ec : ((i : Int) + 1) = ((i + 1 : Nat) : Int) := by omega
    rw [q1, q2]
    refine wpAny_bind (wpAny_mono ht (fun r s2 h2 => ?_) fun _ _ x => x)
    cases r with
    | true =>
      rw [if_pos rfl] at h2
      have again := ih (i + 1) (by omega) (by omega) s2 h2
      obtain ⟨hp2, g2, d2, tk2, os2⟩ := s2
      wp_walk
      rw [ec]
      exact ⟨plainId_quiet plain_eq_loop _, codeAny_builtin entry_eq_loop (by rw [Around.under_plainId plain_eq_loop _]; exact again)⟩
    | false =>
      rw [if_neg Bool.false_ne_true] at h2
      obtain ⟨us', vs', ⟨n', c1'⟩, ⟨m', c2'⟩, z1', z2'⟩ := g.stay _ _ h2
      have hR := brk i s2 h2
      obtain ⟨hp2, g2, d2, tk2, os2⟩ := s2
      have p1 : us'[((i : Nat) : Int).toNat]? = some (us'[i]'(by omega)) := by first | (simp; done) | (simp; omega)
      have p2 : vs'[((i : Nat) : Int).toNat]? = some (vs'[i]'(by omega)) := by first | (simp; done) | (simp; omega)
      wp_walk using wpAny_loadPart' c1', wpAny_loadPart' c2'
      first
      | exact hR
      | (rw [p1, p2]; wp_walk; simpa using hR)
theorem list_ne (l b : Addr) (N : Nat) (J Fa : Nat → Shared → Prop) (g : Goes prog w A (fun e s' => R (.error e) s') l b N J Fa) (fin : ∀ s, J N s → R (.ok (.ret (.bool false))) s) (brk : ∀ i s, Fa i s → R (.ok (.ret (.bool true))) s) {s : Shared} (h : J 0 s) :
    wpAny (model prog w) A.in1 (Builtin.«list.__ne__» ⟨[.ref l, .ref b], []⟩) (GQ.FinOf prog w A R) (fun e s' => R (.error e) s') s := by
  obtain ⟨us, vs, ⟨⟨n, c1⟩, ⟨m, c2⟩, z1, z2⟩, _⟩ := g.turn _ _ h
  have go := loop_ne (A := A) (R := R) l b N J Fa g fin brk _ 0 rfl (Nat.zero_le _) s h
  obtain ⟨hp, gg, d, tk, os⟩ := s
  have f3 := AutoSeq1.sub_list_list
  have ne : ¬ (us.size != vs.size) = true := by simp [z1, z2]
  wp_walk using wpAny_loadPart' c1, wpAny_loadPart' c2
  exact ⟨plainId_quiet plain_eq_loop _, codeAny_builtin entry_eq_loop (by rw [Around.under_plainId plain_eq_loop _]; exact go)⟩
theorem far_ne (l b : Addr) (us vs : Array Value) (n m : Nat) (hz : (us.size != vs.size) = true) {s : Shared} (c1 : s.heap.get? l = some { cls := .type "list", data := .seq us n }) (c2 : s.heap.get? b = some { cls := .type "list", data := .seq vs m }) (h : R (.ok (.ret (.bool true))) s) :
    wpAny (model prog w) A.in1 (Builtin.«list.__ne__» ⟨[.ref l, .ref b], []⟩) (GQ.FinOf prog w A R) (fun e s' => R (.error e) s') s := by
  obtain ⟨hp, gg, d, tk, os⟩ := s
  have f3 := AutoSeq1.sub_list_list
  wp_walk using wpAny_loadPart' c1, wpAny_loadPart' c2
  exact h
theorem tup_ne (l b : Addr) (us vs : Array Value) (n m : Nat) (dd dd2 : Option Addr) (sl sl2 : Array (Option Value)) (J Fa : Nat → Shared → Prop)
    (turn : ∀ i (h1 : i < us.size) (h2 : i < vs.size) s, J i s → wpAny (model prog w) A.in1 (eqBool us[i] vs[i]) (fun r s' => if r = true then J (i + 1) s' else Fa i s') (fun e s' => R (.error e) s') s)
    (fin : ∀ s, J (min us.size vs.size) s → R (.ok (.ret (.bool (if us.size = vs.size then false else true)))) s) (brk : ∀ i s, Fa i s → R (.ok (.ret (.bool true))) s) {s : Shared} (c1 : s.heap.get? l = some { cls := .type "tuple", dict := dd, data := .seq us n, slots := sl })
    (c2 : s.heap.get? b = some { cls := .type "tuple", dict := dd2, data := .seq vs m, slots := sl2 }) (h : J 0 s) :
    wpAny (model prog w) A.in1 (Builtin.«tuple.__ne__» ⟨[.ref l, .ref b], []⟩) (GQ.FinOf prog w A R) (fun e s' => R (.error e) s') s := by
  have f2 := AutoSeq1.sub_tuple_tuple
  have zip_len : (us.toList.zip vs.toList).length = min us.size vs.size := by simp
  have h0 := h
  obtain ⟨hp, gg, d, tk, os⟩ := s
  wp_walk using wpAny_loadPart' c1, wpAny_loadPart' c2, wpAny_forIn_list _ (fun rest b s' => b.1 = none ∧ ∃ i, rest = (us.toList.zip vs.toList).drop i ∧ i ≤ min us.size vs.size ∧ J i s') _
  case turn =>
    rintro ⟨y, x⟩ rest b s' ⟨hb', i, hz, hi, hI⟩
    have lt : i < (us.toList.zip vs.toList).length := by
      rcases Nat.lt_or_ge i (us.toList.zip vs.toList).length with q | q
      · exact q
      · rw [List.drop_of_length_le q] at hz; cases hz
    have h1 : i < us.size := by omega
    have h2 : i < vs.size := by omega
    rw [List.drop_eq_getElem_cons lt] at hz
    injection hz with eyx er
    have ey : y = us[i] := by have := congrArg Prod.fst eyx; simpa using this
    have ex : x = vs[i] := by have := congrArg Prod.snd eyx; simpa using this
    subst ey ex
    refine wpAny_bind (wpAny_mono (turn i h1 h2 s' hI) (fun r s2 q2 => ?_) fun _ _ x => x)
    cases r with
    | true =>
      rw [if_pos rfl] at q2
      wp_walk
      exact ⟨rfl, i + 1, er, by omega, q2⟩
    | false =>
      rw [if_neg Bool.false_ne_true] at q2
      have hR := brk i s2 q2
      wp_walk
      first
      | exact ⟨_, rfl, hR⟩
      | exact hR
      | simpa using hR
  case fin =>
    rintro ⟨b1, b2⟩ s' ⟨hb', i, hz, hi, hI⟩
    simp only at hb'
    subst hb'
    have ge : min us.size vs.size ≤ i := by
      rcases Nat.lt_or_ge i (us.toList.zip vs.toList).length with q | q
      · rw [List.drop_eq_getElem_cons q] at hz; cases hz
      · exact zip_len ▸ q
    have ei : i = min us.size vs.size := by omega
    have hR := fin s' (ei ▸ hI)
    wp_walk
    by_cases hs : us.size = vs.size
    · rw [if_pos hs] at hR
      first
      | exact ⟨_, rfl, by simpa [Builtin.Tuple.tupleCompareSizes, bne, hs] using hR⟩
      | simpa [Builtin.Tuple.tupleCompareSizes, bne, hs] using hR
    · rw [if_neg hs] at hR
      have hs' : (us.size == vs.size) = false := beq_eq_false_iff_ne.mpr hs
      first
      | exact ⟨_, rfl, by simpa [Builtin.Tuple.tupleCompareSizes, bne, hs'] using hR⟩
      | (simp only [Builtin.Tuple.tupleCompareSizes, bne, hs']; exact hR)
  case h =>
    exact ⟨rfl, 0, rfl, Nat.zero_le _, h0⟩
end
section
variable {prog : Program} {w : World} {A : Around} {E : Value → Shared → Prop} {s : Shared}

theorem rc_list_eq {l b : Addr} {N : Nat} {Q : Value → Shared → Prop} (hu : A.units < cLine) (J Fa : Nat → Shared → Prop) (g : Goes prog w A E l b N J Fa) (fin : ∀ s, J N s → Q (.bool true) s) (brk : ∀ i s, Fa i s → Q (.bool false) s) (h : J 0 s) : wpAny (model prog w) A (richCompare .Eq (.ref l) (.ref b)) Q E s := by
  obtain ⟨us, vs, ⟨⟨n, c1⟩, ⟨m, c2⟩, _, _⟩, _⟩ := g.turn _ _ h
  refine wpAny_richCompare_same_room (op := .Eq) ⟨_, c1, rfl⟩ ⟨_, c2, rfl⟩ PySem.F.slot_list_eq (GQ.call_here PySem.F.slot_list_eq ⟨_, c1, rfl⟩ PySem.F.entry_list_eq (PySem.F.args_list_eq_2 _ _) ?_) hu
  exact list_eq (R := wants (fun v s' => v ≠ .notImplemented ∧ Q v s') E) l b N J Fa g (fun s' q => ⟨(fun x => nomatch x), fin s' q⟩) (fun i s' q => ⟨(fun x => nomatch x), brk i s' q⟩) h
theorem rc_far_eq {l b : Addr} {us vs : Array Value} {n m : Nat} {Q : Value → Shared → Prop} (hu : A.units < cLine) (hz : (us.size != vs.size) = true) (c1 : s.heap.get? l = some { cls := .type "list", data := .seq us n }) (c2 : s.heap.get? b = some { cls := .type "list", data := .seq vs m }) (h : Q (.bool false) s) : wpAny (model prog w) A (richCompare .Eq (.ref l) (.ref b)) Q E s := by
  refine wpAny_richCompare_same_room (op := .Eq) ⟨_, c1, rfl⟩ ⟨_, c2, rfl⟩ PySem.F.slot_list_eq (GQ.call_here PySem.F.slot_list_eq ⟨_, c1, rfl⟩ PySem.F.entry_list_eq (PySem.F.args_list_eq_2 _ _) ?_) hu
  exact far_eq (R := wants (fun v s' => v ≠ .notImplemented ∧ Q v s') E) l b us vs n m hz c1 c2 ⟨(fun x => nomatch x), h⟩
theorem rc_tup_eq {l b : Addr} {us vs : Array Value} {Q : Value → Shared → Prop} (hu : A.units < cLine) (J Fa : Nat → Shared → Prop) (hl : s.heap.IsTuple l us) (hb : s.heap.IsTuple b vs)
    (turn : ∀ i (h1 : i < us.size) (h2 : i < vs.size) s, J i s → wpAny (model prog w) A.in1 (eqBool us[i] vs[i]) (fun r s' => if r = true then J (i + 1) s' else Fa i s') E s)
    (fin : ∀ s, J (min us.size vs.size) s → Q (.bool (if us.size = vs.size then true else false)) s) (brk : ∀ i s, Fa i s → Q (.bool false) s) (h : J 0 s) : wpAny (model prog w) A (richCompare .Eq (.ref l) (.ref b)) Q E s := by
  obtain ⟨⟨cls, dd, data, sl⟩, c1, hc, n, hd⟩ := id hl
  obtain ⟨⟨cls2, dd2, data2, sl2⟩, c2, hc2, n2, hd2⟩ := id hb
  simp only at hc hd hc2 hd2
  subst hc hd hc2 hd2
  refine wpAny_richCompare_same_room (op := .Eq) ⟨_, c1, rfl⟩ ⟨_, c2, rfl⟩ PySem.F.slot_tuple_eq (GQ.call_here PySem.F.slot_tuple_eq ⟨_, c1, rfl⟩ PySem.F.entry_tuple_eq (PySem.F.args_tuple_eq_2 _ _) ?_) hu
  exact tup_eq (R := wants (fun v s' => v ≠ .notImplemented ∧ Q v s') E) l b us vs n n2 dd dd2 sl sl2 J Fa turn (fun s' q => ⟨(fun x => nomatch x), fin s' q⟩) (fun i s' q => ⟨(fun x => nomatch x), brk i s' q⟩) c1 c2 h

theorem rc_list_ne {l b : Addr} {N : Nat} {Q : Value → Shared → Prop} (hu : A.units < cLine) (J Fa : Nat → Shared → Prop) (g : Goes prog w A E l b N J Fa) (fin : ∀ s, J N s → Q (.bool false) s) (brk : ∀ i s, Fa i s → Q (.bool true) s) (h : J 0 s) : wpAny (model prog w) A (richCompare .NotEq (.ref l) (.ref b)) Q E s := by
  obtain ⟨us, vs, ⟨⟨n, c1⟩, ⟨m, c2⟩, _, _⟩, _⟩ := g.turn _ _ h
  refine wpAny_richCompare_same_room (op := .NotEq) ⟨_, c1, rfl⟩ ⟨_, c2, rfl⟩ PySem.F.slot_list_ne (GQ.call_here PySem.F.slot_list_ne ⟨_, c1, rfl⟩ PySem.F.entry_list_ne (PySem.F.args_list_ne_2 _ _) ?_) hu
  exact list_ne (R := wants (fun v s' => v ≠ .notImplemented ∧ Q v s') E) l b N J Fa g (fun s' q => ⟨(fun x => nomatch x), fin s' q⟩) (fun i s' q => ⟨(fun x => nomatch x), brk i s' q⟩) h
theorem rc_far_ne {l b : Addr} {us vs : Array Value} {n m : Nat} {Q : Value → Shared → Prop} (hu : A.units < cLine) (hz : (us.size != vs.size) = true) (c1 : s.heap.get? l = some { cls := .type "list", data := .seq us n }) (c2 : s.heap.get? b = some { cls := .type "list", data := .seq vs m }) (h : Q (.bool true) s) : wpAny (model prog w) A (richCompare .NotEq (.ref l) (.ref b)) Q E s := by
  refine wpAny_richCompare_same_room (op := .NotEq) ⟨_, c1, rfl⟩ ⟨_, c2, rfl⟩ PySem.F.slot_list_ne (GQ.call_here PySem.F.slot_list_ne ⟨_, c1, rfl⟩ PySem.F.entry_list_ne (PySem.F.args_list_ne_2 _ _) ?_) hu
  exact far_ne (R := wants (fun v s' => v ≠ .notImplemented ∧ Q v s') E) l b us vs n m hz c1 c2 ⟨(fun x => nomatch x), h⟩
theorem rc_tup_ne {l b : Addr} {us vs : Array Value} {Q : Value → Shared → Prop} (hu : A.units < cLine) (J Fa : Nat → Shared → Prop) (hl : s.heap.IsTuple l us) (hb : s.heap.IsTuple b vs)
    (turn : ∀ i (h1 : i < us.size) (h2 : i < vs.size) s, J i s → wpAny (model prog w) A.in1 (eqBool us[i] vs[i]) (fun r s' => if r = true then J (i + 1) s' else Fa i s') E s)
    (fin : ∀ s, J (min us.size vs.size) s → Q (.bool (if us.size = vs.size then false else true)) s) (brk : ∀ i s, Fa i s → Q (.bool true) s) (h : J 0 s) : wpAny (model prog w) A (richCompare .NotEq (.ref l) (.ref b)) Q E s := by
  obtain ⟨⟨cls, dd, data, sl⟩, c1, hc, n, hd⟩ := id hl
  obtain ⟨⟨cls2, dd2, data2, sl2⟩, c2, hc2, n2, hd2⟩ := id hb
  simp only at hc hd hc2 hd2
  subst hc hd hc2 hd2
  refine wpAny_richCompare_same_room (op := .NotEq) ⟨_, c1, rfl⟩ ⟨_, c2, rfl⟩ PySem.F.slot_tuple_ne (GQ.call_here PySem.F.slot_tuple_ne ⟨_, c1, rfl⟩ PySem.F.entry_tuple_ne (PySem.F.args_tuple_ne_2 _ _) ?_) hu
  exact tup_ne (R := wants (fun v s' => v ≠ .notImplemented ∧ Q v s') E) l b us vs n n2 dd dd2 sl sl2 J Fa turn (fun s' q => ⟨(fun x => nomatch x), fin s' q⟩) (fun i s' q => ⟨(fun x => nomatch x), brk i s' q⟩) c1 c2 h
end
end JsQ
namespace L2
open PySem PySem.Spec PyProof.Rows
section
variable {X : Cx} {n m : Nat} {D D' : Tells}
def MonT (D : Tells) : Prop := ∀ x y r H H', Same H H' → D x y r H → D x y r H'
/-- the same object is alike -/
def SelfT (D : Tells) : Prop := ∀ x r H, D x x r H → r = true
theorem EqT.mono (h : EqT X n D) (hn : n ≤ m) : EqT X m D := fun A pins s σ H x y u v r sb => h A pins s σ H x y u v r (sb.mono hn)
theorem EqT.imp (h : EqT X n D) (hd : ∀ x y r H, D' x y r H → D x y r H) : EqT X n D' := fun A pins s σ H x y u v r sb I rx ry d => h A pins s σ H x y u v r sb I rx ry (hd x y r H d)
theorem EqT.or (h : EqT X n D) (h' : EqT X n D') : EqT X n (fun x y r H => D x y r H ∨ D' x y r H) := fun A pins s σ H x y u v r sb I rx ry d => by
  rcases d with d | d
  · exact h A pins s σ H x y u v r sb I rx ry d
  · exact h' A pins s σ H x y u v r sb I rx ry d
/-- flat values -/
def TFlat : Tells := fun x y r _ => flatV x = true ∧ flatV y = true ∧ eqV x y = r
theorem eqT_flat : EqT X 0 TFlat := by
  intro A pins s σ H x y u v r sb I rx ry d
  obtain ⟨fx, fy, e⟩ := d
  have q := eqAt_V (A := A) (s := s) rx ry fx fy
  rw [e] at q
  exact q X.prog X.w X.xe _ ⟨rfl, H, I, Same.refl H⟩
/-- what is told item by item -/
def PrsT (D : Tells) (xs ys : List V) (bs : List Bool) (H : Hp) : Prop := bs.length = min xs.length ys.length ∧ ∀ (i : Nat) x y b, xs[i]? = some x → ys[i]? = some y → bs[i]? = some b → (bs.take i).all id = true → D x y b H
theorem PrsT.mon (hD : MonT D) {xs ys : List V} {bs : List Bool} {H H' : Hp} (e : Same H H') (p : PrsT D xs ys bs H) : PrsT D xs ys bs H' := ⟨p.1, fun i x y b h1 h2 h3 h4 => hD x y b H H' e (p.2 i x y b h1 h2 h3 h4)⟩
theorem PrsT.self {xs : List V} {bs : List Bool} {H : Hp} (hS : ∀ x r, D x x r H → r = true) (p : PrsT D xs xs bs H) : bs.all id = true := by
  have go : ∀ n, n ≤ bs.length → (bs.take n).all id = true := by
    intro n
    induction n with
    | zero => intro _; rfl
    | succ n ih =>
      intro hn
      have hi : n < bs.length := hn
      have hx : n < xs.length := by have := p.1; omega
      have al := ih (by omega)
      have e := hS _ _ (p.2 n _ _ _ (List.getElem?_eq_getElem hx) (List.getElem?_eq_getElem hx) (List.getElem?_eq_getElem hi) al)
      rw [List.take_succ_eq_append_getElem hi, List.all_append, al, e]
      rfl
  have := go bs.length (Nat.le_refl _)
  rwa [List.take_length] at this
def tells (xs ys : List V) (bs : List Bool) : Bool := decide (xs.length = ys.length) && bs.all id
def TList (D : Tells) : Tells := fun x y r H => ∃ a b xs ys bs, x = .ref a ∧ y = .ref b ∧ H a = some (.lst xs) ∧ H b = some (.lst ys) ∧ PrsT D xs ys bs H ∧ r = tells xs ys bs
def TTup (K : PySem.W.Frag) (D : Tells) : Tells := fun x y r H => ∃ a b xs ys bs, x = .ref a ∧ y = .ref b ∧ SqT K H a xs ∧ SqT K H b ys ∧ PrsT D xs ys bs H ∧ r = tells xs ys bs
theorem monT_list (hD : MonT D) : MonT (TList D) := fun x y r H H' e d => by
  obtain ⟨a, b, xs, ys, bs, hx, hy, h1, h2, p, er⟩ := d
  exact ⟨a, b, xs, ys, bs, hx, hy, e _ _ h1, e _ _ h2, p.mon hD e, er⟩
theorem monT_tup {K : PySem.W.Frag} (hD : MonT D) : MonT (TTup K D) := fun x y r H H' e d => by
  obtain ⟨a, b, xs, ys, bs, hx, hy, h1, h2, p, er⟩ := d
  exact ⟨a, b, xs, ys, bs, hx, hy, h1.ext e, h2.ext e, p.mon hD e, er⟩
/-- behind i items that are alike -/
def JT (X : Cx) (pins : List (Addr × Obj)) (σ : St) (H : Hp) (bs : List Bool) (i : Nat) (s' : Shared) : Prop := (∃ H', Inv X pins σ H' s' ∧ Same H H') ∧ (bs.take i).all id = true
def FT (X : Cx) (pins : List (Addr × Obj)) (σ : St) (H : Hp) (bs : List Bool) (i : Nat) (s' : Shared) : Prop := (∃ H', Inv X pins σ H' s' ∧ Same H H') ∧ bs.all id = false
theorem turnT (hD : MonT D) (h : EqT X n D) {A : Around} (sb : Sub X (n + 1) A) {pins : List (Addr × Obj)} {σ : St} {H : Hp} {xs ys : List V} {bs : List Bool} {us vs : List Value} (p : PrsT D xs ys bs H) (r : Vals xs us) (r2 : Vals ys vs)
    (i : Nat) (h1 : i < us.toArray.size) (h2 : i < vs.toArray.size) (s' : Shared) (l : JT X pins σ H bs i s') :
    wpAny (model X.prog X.w) A.in1 (eqBool us.toArray[i] vs.toArray[i]) (fun r s2 => if r = true then JT X pins σ H bs (i + 1) s2 else FT X pins σ H bs i s2) X.xe s' := by
  obtain ⟨⟨H1, I1, e1⟩, al⟩ := l
  have l1 : i < us.length := by simpa using h1
  have l2 : i < vs.length := by simpa using h2
  have g1 : us[i]? = some us.toArray[i] := by rw [List.getElem?_eq_getElem l1] <;> simp
  have g2 : vs[i]? = some vs.toArray[i] := by rw [List.getElem?_eq_getElem l2] <;> simp
  have k1 : i < xs.length := by rw [r.length]; exact l1
  have k2 : i < ys.length := by rw [r2.length]; exact l2
  have k3 : i < bs.length := by have := p.1; omega
  obtain ⟨u, hu, ru⟩ := r.get (List.getElem?_eq_getElem k1)
  obtain ⟨v, hv, rv⟩ := r2.get (List.getElem?_eq_getElem k2)
  rw [g1] at hu
  rw [g2] at hv
  rw [Option.some.inj hu, Option.some.inj hv]
  refine wpAny_mono (h A.in1 pins s' σ H1 _ _ u v _ sb.in1 I1 ru rv (hD _ _ _ _ _ e1 (p.2 i _ _ _ (List.getElem?_eq_getElem k1) (List.getElem?_eq_getElem k2) (List.getElem?_eq_getElem k3) al))) (fun q s2 z => ?_) fun _ _ x => x
  obtain ⟨rfl, H2, I2, e2⟩ := z
  cases hb : bs[i] with
  | true =>
    rw [if_pos rfl]
    refine ⟨⟨H2, I2, e1.trans e2⟩, ?_⟩
    rw [List.take_succ_eq_append_getElem k3, List.all_append, al, hb]
    rfl
  | false =>
    rw [if_neg Bool.false_ne_true]
    refine ⟨⟨H2, I2, e1.trans e2⟩, ?_⟩
    rw [List.all_eq_false]
    exact ⟨bs[i], List.getElem_mem k3, by rw [hb]; decide⟩
def RcT (X : Cx) (op : CmpOp) (f : Bool → Bool) (n : Nat) (D : Tells) : Prop :=
  ∀ (A : Around) (pins : List (Addr × Obj)) (s : Shared) (σ : St) (H : Hp) (x y : V) (u v : Value) (r : Bool), Sub X n A → Inv X pins σ H s → RelV x u → RelV y v → D x y r H →
    wpAny (model X.prog X.w) A (richCompare op u v) (fun z s' => z = .bool (f r) ∧ ∃ H', Inv X pins σ H' s' ∧ Same H H') X.xe s
theorem rcT_list_eq (hD : MonT D) (h : EqT X n D) : RcT X .Eq id (n + 1) (TList D) := by
  intro A pins s σ H x y u v r sb I rx ry d
  obtain ⟨a, b, xs, ys, bs, rfl, rfl, ha, hb, p, rfl⟩ := d
  cases rx
  cases ry
  by_cases hl : xs.length = ys.length
  · have el : bs.length = xs.length := by have := p.1; omega
    refine JsQ.rc_list_eq (N := xs.length) sb.room.units0 (JT X pins σ H bs) (FT X pins σ H bs) ⟨fun i s' q => ?_, fun i s' q => ?_⟩ (fun s' q => ⟨?_, q.1⟩) (fun i s' q => ⟨?_, q.1⟩) ⟨⟨H, I, Same.refl H⟩, by simp⟩
    · obtain ⟨H1, I1, e1⟩ := q.1
      obtain ⟨z, us, k, r1, e⟩ := I1.hok a _ (e1 _ _ ha)
      obtain ⟨z2, vs, k2, r2, e2⟩ := I1.hok b _ (e1 _ _ hb)
      exact ⟨us.toArray, vs.toArray, ⟨⟨k, e⟩, ⟨k2, e2⟩, by rw [List.size_toArray, ← r1.length], by rw [List.size_toArray, ← r2.length, ← hl]⟩, fun h1 h2 => turnT hD h sb p r1 r2 i h1 h2 s' q⟩
    · obtain ⟨H1, I1, e1⟩ := q.1
      obtain ⟨z, us, k, r1, e⟩ := I1.hok a _ (e1 _ _ ha)
      obtain ⟨z2, vs, k2, r2, e2⟩ := I1.hok b _ (e1 _ _ hb)
      exact ⟨us.toArray, vs.toArray, ⟨k, e⟩, ⟨k2, e2⟩, by rw [List.size_toArray, ← r1.length], by rw [List.size_toArray, ← r2.length, ← hl]⟩
    · have q2 := q.2
      rw [← el, List.take_length] at q2
      rw [tells, q2, decide_eq_true hl]
      rfl
    · rw [tells, q.2, decide_eq_true hl]
      rfl
  · obtain ⟨z, us, k, r1, e⟩ := I.hok a _ ha
    obtain ⟨z2, vs, k2, r2, e2⟩ := I.hok b _ hb
    refine JsQ.rc_far_eq sb.room.units0 ?_ e e2 ⟨?_, H, I, Same.refl H⟩
    · rw [List.size_toArray, List.size_toArray, ← r1.length, ← r2.length]
      simpa using hl
    · rw [tells, decide_eq_false hl]
      rfl
theorem rcT_tup_eq (hD : MonT D) (h : EqT X n D) : RcT X .Eq id (n + 1) (TTup X.K D) := by
  intro A pins s σ H x y u v r sb I rx ry d
  obtain ⟨a, b, xs, ys, bs, rfl, rfl, ha, hb, p, rfl⟩ := d
  cases rx
  cases ry
  obtain ⟨us, r1, e, z⟩ := I.tuple ha
  obtain ⟨vs, r2, e2, z2⟩ := I.tuple hb
  have lu : us.toArray.size = xs.length := by rw [List.size_toArray, ← r1.length]
  have lv : vs.toArray.size = ys.length := by rw [List.size_toArray, ← r2.length]
  refine JsQ.rc_tup_eq sb.room.units0 (JT X pins σ H bs) (FT X pins σ H bs) e e2 (fun i h1 h2 s' q => turnT hD h sb p r1 r2 i h1 h2 s' q) (fun s' q => ⟨?_, q.1⟩) (fun i s' q => ⟨?_, q.1⟩) ⟨⟨H, I, Same.refl H⟩, by simp⟩
  · have q2 := q.2
    rw [lu, lv, ← p.1, List.take_length] at q2
    rw [lu, lv, tells, q2]
    by_cases hl : xs.length = ys.length
    · rw [if_pos hl, decide_eq_true hl]
      rfl
    · rw [if_neg hl, decide_eq_false hl]
      rfl
  · rw [tells, q.2, Bool.and_false]
    rfl
theorem rcT_list_ne (hD : MonT D) (h : EqT X n D) : RcT X .NotEq not (n + 1) (TList D) := by
  intro A pins s σ H x y u v r sb I rx ry d
  obtain ⟨a, b, xs, ys, bs, rfl, rfl, ha, hb, p, rfl⟩ := d
  cases rx
  cases ry
  by_cases hl : xs.length = ys.length
  · have el : bs.length = xs.length := by have := p.1; omega
    refine JsQ.rc_list_ne (N := xs.length) sb.room.units0 (JT X pins σ H bs) (FT X pins σ H bs) ⟨fun i s' q => ?_, fun i s' q => ?_⟩ (fun s' q => ⟨?_, q.1⟩) (fun i s' q => ⟨?_, q.1⟩) ⟨⟨H, I, Same.refl H⟩, by simp⟩
    · obtain ⟨H1, I1, e1⟩ := q.1
      obtain ⟨z, us, k, r1, e⟩ := I1.hok a _ (e1 _ _ ha)
      obtain ⟨z2, vs, k2, r2, e2⟩ := I1.hok b _ (e1 _ _ hb)
      exact ⟨us.toArray, vs.toArray, ⟨⟨k, e⟩, ⟨k2, e2⟩, by rw [List.size_toArray, ← r1.length], by rw [List.size_toArray, ← r2.length, ← hl]⟩, fun h1 h2 => turnT hD h sb p r1 r2 i h1 h2 s' q⟩
    · obtain ⟨H1, I1, e1⟩ := q.1
      obtain ⟨z, us, k, r1, e⟩ := I1.hok a _ (e1 _ _ ha)
      obtain ⟨z2, vs, k2, r2, e2⟩ := I1.hok b _ (e1 _ _ hb)
      exact ⟨us.toArray, vs.toArray, ⟨k, e⟩, ⟨k2, e2⟩, by rw [List.size_toArray, ← r1.length], by rw [List.size_toArray, ← r2.length, ← hl]⟩
    · have q2 := q.2
      rw [← el, List.take_length] at q2
      rw [tells, q2, decide_eq_true hl]
      rfl
    · rw [tells, q.2, decide_eq_true hl]
      rfl
  · obtain ⟨z, us, k, r1, e⟩ := I.hok a _ ha
    obtain ⟨z2, vs, k2, r2, e2⟩ := I.hok b _ hb
    refine JsQ.rc_far_ne sb.room.units0 ?_ e e2 ⟨?_, H, I, Same.refl H⟩
    · rw [List.size_toArray, List.size_toArray, ← r1.length, ← r2.length]
      simpa using hl
    · rw [tells, decide_eq_false hl]
      rfl
theorem rcT_tup_ne (hD : MonT D) (h : EqT X n D) : RcT X .NotEq not (n + 1) (TTup X.K D) := by
  intro A pins s σ H x y u v r sb I rx ry d
  obtain ⟨a, b, xs, ys, bs, rfl, rfl, ha, hb, p, rfl⟩ := d
  cases rx
  cases ry
  obtain ⟨us, r1, e, z⟩ := I.tuple ha
  obtain ⟨vs, r2, e2, z2⟩ := I.tuple hb
  have lu : us.toArray.size = xs.length := by rw [List.size_toArray, ← r1.length]
  have lv : vs.toArray.size = ys.length := by rw [List.size_toArray, ← r2.length]
  refine JsQ.rc_tup_ne sb.room.units0 (JT X pins σ H bs) (FT X pins σ H bs) e e2 (fun i h1 h2 s' q => turnT hD h sb p r1 r2 i h1 h2 s' q) (fun s' q => ⟨?_, q.1⟩) (fun i s' q => ⟨?_, q.1⟩) ⟨⟨H, I, Same.refl H⟩, by simp⟩
  · have q2 := q.2
    rw [lu, lv, ← p.1, List.take_length] at q2
    rw [lu, lv, tells, q2]
    by_cases hl : xs.length = ys.length
    · rw [if_pos hl, decide_eq_true hl]
      rfl
    · rw [if_neg hl, decide_eq_false hl]
      rfl
  · rw [tells, q.2, Bool.and_false]
    rfl

theorem RcT.eqT (h : RcT X .Eq id n D) (hr : ∀ x y r H, D x y r H → ∃ a b, x = .ref a ∧ y = .ref b) (hS : ∀ (pins : List (Addr × Obj)) (s : Shared) (σ : St) (H : Hp) x r, Inv X pins σ H s → D x x r H → r = true) : EqT X n D := by
  intro A pins s σ H x y u v r sb I rx ry d
  obtain ⟨a, b, rfl, rfl⟩ := hr _ _ _ _ d
  cases rx
  cases ry
  by_cases hab : a = b
  · subst hab
    rw [hS _ _ _ _ _ _ I d]
    exact SeqAt.EqAt.same (A := A) (s := s) (.ref a) X.prog X.w X.xe _ ⟨rfl, H, I, Same.refl H⟩
  · refine GQ.eqBool_refG hab (wpAny_mono (h A pins s σ H (.ref a) (.ref b) _ _ _ sb I rfl rfl d) (fun z s' q => ?_) fun _ _ x => x)
    obtain ⟨hz, q⟩ := q
    exact ⟨r, hz, rfl, q⟩
theorem selfT_list (hS : SelfT D) : SelfT (TList D) := fun x r H d => by
  obtain ⟨a, b, xs, ys, bs, rfl, e, h1, h2, p, rfl⟩ := d
  cases e
  cases Option.some.inj (h1.symm.trans h2)
  rw [tells, p.self (hS · · _), decide_eq_true rfl]
  rfl
theorem eqT_list (hD : MonT D) (hS : SelfT D) (h : EqT X n D) : EqT X (n + 1) (TList D) := (rcT_list_eq hD h).eqT (fun _ _ _ _ d => let ⟨a, b, _, _, _, hx, hy, _⟩ := d; ⟨a, b, hx, hy⟩) fun _ _ _ _ _ _ _ d => selfT_list hS _ _ _ d
/-- x == y, x != y -/
def rCmpT (D : Tells) (f : Bool → Bool) : R2 := fun x y H Q => ∃ r, D x y r H ∧ ∀ H', Same H H' → Q (.bl (f r)) H'
theorem op_eqTl (h : RcT X .Eq id n D) (hr : Room n X.A) : OpR X (compareOp .Eq) (rCmpT D id) := by
  intro pins s σ H x y v u Q I rx ry hq
  obtain ⟨r, d, q⟩ := hq
  show wpAny (model X.prog X.w) X.A (richCompare .Eq v u) (EP X pins σ Q) X.xe s
  refine wpAny_mono (h X.A pins s σ H x y v u r ⟨hr, rfl⟩ I rx ry d) (fun z s' q1 => ?_) fun _ _ x => x
  obtain ⟨rfl, H', I', e⟩ := q1
  exact ⟨.bl _, H', I', rfl, q H' e⟩
theorem op_neTl (h : RcT X .NotEq not n D) (hr : Room n X.A) : OpR X (compareOp .NotEq) (rCmpT D not) := by
  intro pins s σ H x y v u Q I rx ry hq
  obtain ⟨r, d, q⟩ := hq
  show wpAny (model X.prog X.w) X.A (richCompare .NotEq v u) (EP X pins σ Q) X.xe s
  refine wpAny_mono (h X.A pins s σ H x y v u r ⟨hr, rfl⟩ I rx ry d) (fun z s' q1 => ?_) fun _ _ x => x
  obtain ⟨rfl, H', I', e⟩ := q1
  exact ⟨.bl _, H', I', rfl, q H' e⟩
end
end L2

set_option Elab.async false
set_option linter.all false
set_option maxRecDepth 100000
set_option maxHeartbeats 2000000
/-! deeds: what they are, how they stand in the heap, how they are numbered and where they lead -/
namespace Js
open PySem L2
inductive Dd where
  | told (a : Nat) (t : Tr)
  | take (s : Bool) (a b : Nat)
  | two (s : Bool) (a b c : Nat)
  | wh (a : Nat) (r : List Dd)
  | iff (a : Nat) (r o : List Dd)
def takeS : Bool → Str
  | false => "first"
  | true => "second"
def twoS : Bool → Str
  | false => "pair"
  | true => "same"
/-! how many, how deep, in their order -/
mutual
def Dd.flat : Dd → List Dd
  | .told a t => [.told a t]
  | .take s a b => [.take s a b]
  | .two s a b c => [.two s a b c]
  | .wh a r => .wh a r :: flatR r
  | .iff a r o => .iff a r o :: (flatR r ++ flatR o)
def flatR : List Dd → List Dd
  | [] => []
  | d :: r => d.flat ++ flatR r
end
def Dd.many (d : Dd) : Nat := d.flat.length
def manyR (r : List Dd) : Nat := (flatR r).length
mutual
def Dd.deep : Dd → Nat
  | .told _ _ => 0
  | .take _ _ _ => 0
  | .two _ _ _ _ => 0
  | .wh _ r => deepR r + 1
  | .iff _ r o => max (deepR r) (deepR o) + 1
def deepR : List Dd → Nat
  | [] => 0
  | d :: r => max d.deep (deepR r)
end
theorem many_nil : manyR [] = 0 := rfl
theorem many_cons (d : Dd) (r : List Dd) : manyR (d :: r) = d.many + manyR r := by
  rw [manyR, flatR, List.length_append]
  rfl
theorem many_wh (a : Nat) (r : List Dd) : (Dd.wh a r).many = manyR r + 1 := by
  rw [Dd.many, Dd.flat, List.length_cons]
  rfl
theorem many_iff (a : Nat) (r o : List Dd) : (Dd.iff a r o).many = manyR r + manyR o + 1 := by
  rw [Dd.many, Dd.flat, List.length_cons, List.length_append]
  rfl
theorem many_told (a : Nat) (t : Tr) : (Dd.told a t).many = 1 := rfl
theorem many_take (s : Bool) (a b : Nat) : (Dd.take s a b).many = 1 := rfl
theorem many_two (s : Bool) (a b c : Nat) : (Dd.two s a b c).many = 1 := rfl
theorem many_pos : ∀ d : Dd, 0 < d.many
  | .told _ _ => Nat.zero_lt_one
  | .take _ _ _ => Nat.zero_lt_one
  | .two _ _ _ _ => Nat.zero_lt_one
  | .wh a r => by rw [many_wh]; omega
  | .iff a r o => by rw [many_iff]; omega
/-- the rows of a deed -/
def Dd.rows : Dd → List (List Dd)
  | .wh _ r => [r]
  | .iff _ r o => [r, o]
  | _ => []
/-! where the deeds end -/
mutual
def Dd.ends : Dd → Nat → List Nat
  | .told _ _, n => [n + 1]
  | .take _ _ _, n => [n + 1]
  | .two _ _ _ _, n => [n + 1]
  | .wh _ r, n => (n + 1 + manyR r) :: endsR r (n + 1)
  | .iff _ r o, n => (n + 1 + manyR r + manyR o) :: (endsR r (n + 1) ++ endsR o (n + 1 + manyR r))
def endsR : List Dd → Nat → List Nat
  | [], _ => []
  | d :: r, n => d.ends n ++ endsR r (n + d.many)
end
/-! where they lead -/
mutual
def Dd.lay : Dd → Nat → Nat → List (Dd × List Nat)
  | .told a t, f, _ => [(.told a t, [f])]
  | .take s a b, f, _ => [(.take s a b, [f])]
  | .two s a b c, f, _ => [(.two s a b c, [f])]
  | .wh a r, f, n => (.wh a r, [if r.isEmpty then n else n + 1, f]) :: layR r n (n + 1)
  | .iff a r o, f, n => (.iff a r o, [if r.isEmpty then f else n + 1, if o.isEmpty then f else n + 1 + manyR r]) :: (layR r f (n + 1) ++ layR o f (n + 1 + manyR r))
def layR : List Dd → Nat → Nat → List (Dd × List Nat)
  | [], _, _ => []
  | d :: r, f, n => d.lay (if r.isEmpty then f else n + d.many) n ++ layR r f (n + d.many)
end
mutual
theorem ends_len : ∀ (d : Dd) (n : Nat), (d.ends n).length = d.many
  | .told _ _, _ => rfl
  | .take _ _ _, _ => rfl
  | .two _ _ _ _, _ => rfl
  | .wh a r, n => by rw [Dd.ends, List.length_cons, endsR_len r, many_wh]
  | .iff a r o, n => by rw [Dd.ends, List.length_cons, List.length_append, endsR_len r, endsR_len o, many_iff]
theorem endsR_len : ∀ (r : List Dd) (n : Nat), (endsR r n).length = manyR r
  | [], _ => rfl
  | d :: r, n => by rw [endsR, List.length_append, ends_len d, endsR_len r, many_cons]
end
mutual
theorem lay_len : ∀ (d : Dd) (f n : Nat), (d.lay f n).length = d.many
  | .told _ _, _, _ => rfl
  | .take _ _ _, _, _ => rfl
  | .two _ _ _ _, _, _ => rfl
  | .wh a r, f, n => by rw [Dd.lay, List.length_cons, layR_len r, many_wh]
  | .iff a r o, f, n => by rw [Dd.lay, List.length_cons, List.length_append, layR_len r, layR_len o, many_iff]
theorem layR_len : ∀ (r : List Dd) (f n : Nat), (layR r f n).length = manyR r
  | [], _, _ => rfl
  | d :: r, f, n => by rw [layR, List.length_append, lay_len d, layR_len r, many_cons]
end
/-! how they stand -/
mutual
def DAt (K : PySem.W.Frag) (C : Addr) (H : Hp) : V → Dd → Prop
  | v, .told a t => ∃ p x, v = .ref p ∧ SqT K H p [.str "told", .int (a : Nat), .ref x] ∧ a < 10 ∧ Th C H x t ∧ t.size ≤ 4000
  | v, .take s a b => ∃ p, v = .ref p ∧ SqT K H p [.str (takeS s), .int (a : Nat), .int (b : Nat)] ∧ a < 10 ∧ b < 10
  | v, .two s a b c => ∃ p, v = .ref p ∧ SqT K H p [.str (twoS s), .int (a : Nat), .int (b : Nat), .int (c : Nat)] ∧ a < 10 ∧ b < 10 ∧ c < 10
  | v, .wh a r => ∃ p q vs, v = .ref p ∧ SqT K H p [.str "while", .int (a : Nat), .ref q] ∧ a < 10 ∧ SqT K H q vs ∧ DsAt K C H vs r
  | v, .iff a r o => ∃ p q vs q2 vs2, v = .ref p ∧ SqT K H p [.str "if", .int (a : Nat), .ref q, .ref q2] ∧ a < 10 ∧ SqT K H q vs ∧ DsAt K C H vs r ∧ SqT K H q2 vs2 ∧ DsAt K C H vs2 o
def DsAt (K : PySem.W.Frag) (C : Addr) (H : Hp) : List V → List Dd → Prop
  | vs, [] => vs = []
  | vs, d :: r => ∃ v us, vs = v :: us ∧ DAt K C H v d ∧ DsAt K C H us r
end
/-- a row at q -/
def RAt (K : PySem.W.Frag) (C : Addr) (H : Hp) (q : Addr) (r : List Dd) : Prop := ∃ vs, SqT K H q vs ∧ DsAt K C H vs r
theorem sqt_kt {K : PySem.W.Frag} {H H' : Hp} (k : KT H H') {a : Addr} {xs : List V} (h : SqT K H a xs) : SqT K H' a xs :=
  h.elim (fun h => .inl (h.elim (fun h => .inl (k _ _ h (fun _ e => nomatch e))) fun ⟨o, h⟩ => .inr ⟨o, k _ _ h (fun _ e => nomatch e)⟩)) fun h => .inr h
mutual
theorem DAt_kt {K : PySem.W.Frag} {C : Addr} {H H' : Hp} (k : KT H H') : ∀ (d : Dd) (v : V), DAt K C H v d → DAt K C H' v d
  | .told a t, v, h => by
    obtain ⟨p, x, e, h1, h2, h3, h4⟩ := h
    exact ⟨p, x, e, sqt_kt k h1, h2, h3.kt k, h4⟩
  | .take s a b, v, h => by
    obtain ⟨p, e, h1, h2⟩ := h
    exact ⟨p, e, sqt_kt k h1, h2⟩
  | .two s a b c, v, h => by
    obtain ⟨p, e, h1, h2⟩ := h
    exact ⟨p, e, sqt_kt k h1, h2⟩
  | .wh a r, v, h => by
    obtain ⟨p, q, vs, e, h1, h2, h3, h4⟩ := h
    exact ⟨p, q, vs, e, sqt_kt k h1, h2, sqt_kt k h3, DsAt_kt k r vs h4⟩
  | .iff a r o, v, h => by
    obtain ⟨p, q, vs, q2, vs2, e, h1, h2, h3, h4, h5, h6⟩ := h
    exact ⟨p, q, vs, q2, vs2, e, sqt_kt k h1, h2, sqt_kt k h3, DsAt_kt k r vs h4, sqt_kt k h5, DsAt_kt k o vs2 h6⟩
theorem DsAt_kt {K : PySem.W.Frag} {C : Addr} {H H' : Hp} (k : KT H H') : ∀ (r : List Dd) (vs : List V), DsAt K C H vs r → DsAt K C H' vs r
  | [], vs, h => h
  | d :: r, vs, h => by
    obtain ⟨v, us, e, h1, h2⟩ := h
    exact ⟨v, us, e, DAt_kt k d v h1, DsAt_kt k r us h2⟩
end
theorem RAt.kt {K : PySem.W.Frag} {C : Addr} {H H' : Hp} (k : KT H H') {q : Addr} {r : List Dd} (h : RAt K C H q r) : RAt K C H' q r := by
  obtain ⟨vs, h1, h2⟩ := h
  exact ⟨vs, sqt_kt k h1, DsAt_kt k r vs h2⟩
theorem RAt.same {K : PySem.W.Frag} {C : Addr} {H H' : Hp} (s : Same H H') {q : Addr} {r : List Dd} (h : RAt K C H q r) : RAt K C H' q r := h.kt (KT.of s)
theorem DsAt.length {K : PySem.W.Frag} {C : Addr} {H : Hp} : ∀ (r : List Dd) (vs : List V), DsAt K C H vs r → vs.length = r.length
  | [], vs, h => by
    have e : vs = [] := h
    rw [e]
    rfl
  | d :: r, vs, h => by
    obtain ⟨v, us, e, h1, h2⟩ := h
    rw [e, List.length_cons, List.length_cons, DsAt.length r us h2]
theorem DsAt.get {K : PySem.W.Frag} {C : Addr} {H : Hp} : ∀ (r : List Dd) (vs : List V) (i : Nat) (v : V), DsAt K C H vs r → vs[i]? = some v → ∃ d, r[i]? = some d ∧ DAt K C H v d
  | [], vs, i, v, h, e => by
    have e' : vs = [] := h
    rw [e'] at e
    cases e
  | d :: r, vs, i, v, h, e => by
    obtain ⟨w, us, e', h1, h2⟩ := h
    rw [e'] at e
    cases i with
    | zero =>
      cases Option.some.inj e
      exact ⟨d, rfl, h1⟩
    | succ i =>
      obtain ⟨d', g1, g2⟩ := DsAt.get r us i v h2 e
      exact ⟨d', g1, g2⟩
/-- of what type a tuple is -/
theorem sqt_ty {K : PySem.W.Frag} {H : Hp} {a : Addr} {xs : List V} (h : SqT K H a xs) : TyX K H (.ref a) (.type "tuple") := by
  rcases h with (h | ⟨o, h⟩) | ⟨o, its, n, h, c, _⟩
  · exact .base (.tup h)
  · exact .fTuple h
  · exact .kTuple h c
end Js

set_option Elab.async false
set_option linter.all false
set_option maxRecDepth 100000
set_option maxHeartbeats 2000000
/-! for a, b in zip(tuple, text) -/
namespace JsZ
open PySem PySem.Spec PyProof.Rows L2
abbrev zs1 (h : Heap) (l : Addr) : Heap := h.push { cls := .type "tuple_iterator", data := .fields #[.ref l, .int 0 0] }
abbrev zs2 (h : Heap) (l : Addr) (x : Str) (t : Tok) : Heap := (zs1 h l).push { cls := .type (strIterType x), data := .fields #[.str x t, .int 0 0] }
abbrev zs3 (h : Heap) (l : Addr) (x : Str) (t : Tok) : Heap := (zs2 h l x t).push { cls := .type "tuple", data := .seq #[.ref h.objs.size, .ref (zs1 h l).objs.size] }
abbrev zs4 (h : Heap) (l : Addr) (x : Str) (t : Tok) : Heap := (zs3 h l x t).push { cls := .type "tuple", data := .seq #[.none, .none] }
abbrev zs5 (h : Heap) (l : Addr) (x : Str) (t : Tok) : Heap := (zs4 h l x t).push { cls := .type "zip", data := .fields #[.none, .bool false, .bool false, .ref (zs2 h l x t).objs.size, .ref (zs3 h l x t).objs.size] }
theorem new_zipTS (l : Addr) (x : Str) (t : Tok) (us : Array Value) :
    Meets (Builtin.«zip.__new__» ⟨[.type "zip", .ref l, .str x t], []⟩) (fun _ R s => s.heap.IsTuple l us ∧ R (.ok (.ret (.ref (zs4 s.heap l x t).objs.size))) { s with heap := zs5 s.heap l x t }) :=
  .of_wp fun prog w A R s h => by
    obtain ⟨hp, g, d, tk, os⟩ := s; obtain ⟨h1, h⟩ := h
    have hsub := sub_zip
    have hL : Heap.IsTuple (Shared.heap ⟨hp, g, d, tk, os⟩) l us := h1
    wp_walk using wpAny_pyIter_tuple hL, wpAny_pyIter_strU
    exact ⟨_, rfl, h⟩
section
variable {prog : Program} {w : World} {A : Around} {E : Value → Shared → Prop} {s : Shared}
theorem call_zipTS {l : Addr} {x : Str} {t : Tok} {us : Array Value} {Q : Value → Shared → Prop} (hl : s.heap.IsTuple l us)
    (h : ∀ h', IsZip h' (s.heap.objs.size + 4) (s.heap.objs.size + 2) (s.heap.objs.size + 3) .none → IsPair h' (s.heap.objs.size + 2) (.ref s.heap.objs.size) (.ref (s.heap.objs.size + 1)) →
      IsPair h' (s.heap.objs.size + 3) .none .none → h'.IsTupleIter s.heap.objs.size l 0 → h'.IsStrIter (s.heap.objs.size + 1) (strIterType x) x t 0 → h'.objs.size = s.heap.objs.size + 5 →
      (∀ c o, s.heap.get? c = some o → h'.get? c = some o) → Q (.ref (s.heap.objs.size + 4)) { s with heap := h' }) :
    wpAny (model prog w) A (call (.type "zip") [.ref l, .str x t]) Q E s := by
  refine callType_new F.called_zip (by decide) (F.typeCall_zip_2 _ _) (F.newCall_zip_2 _ _) (fun obj => F.args_object_init_3 obj _ _) F.entry_zip_new (new_zipTS l x t us) ⟨hl, ?_⟩
  have z1 : (zs1 s.heap l).objs.size = s.heap.objs.size + 1 := Heap.size_push ..
  have z2 : (zs2 s.heap l x t).objs.size = s.heap.objs.size + 2 := by rw [Heap.size_push, z1]
  have z3 : (zs3 s.heap l x t).objs.size = s.heap.objs.size + 3 := by rw [Heap.size_push, z2]
  have z4 : (zs4 s.heap l x t).objs.size = s.heap.objs.size + 4 := by rw [Heap.size_push, z3]
  have z5 : (zs5 s.heap l x t).objs.size = s.heap.objs.size + 5 := by rw [Heap.size_push, z4]
  have g5 : (zs5 s.heap l x t).get? (zs4 s.heap l x t).objs.size = some _ := Heap.get?_push_size _ rfl
  have g4 : (zs5 s.heap l x t).get? (zs3 s.heap l x t).objs.size = some _ := Heap.get?_push_of_some _ (Heap.get?_push_size _ rfl)
  have g3 : (zs5 s.heap l x t).get? (zs2 s.heap l x t).objs.size = some _ := Heap.get?_push_of_some _ (Heap.get?_push_of_some _ (Heap.get?_push_size _ rfl))
  have g2 : (zs5 s.heap l x t).get? (zs1 s.heap l).objs.size = some _ := Heap.get?_push_of_some _ (Heap.get?_push_of_some _ (Heap.get?_push_of_some _ (Heap.get?_push_size _ rfl)))
  have g1 : (zs5 s.heap l x t).get? s.heap.objs.size = some _ := Heap.get?_push_of_some _ (Heap.get?_push_of_some _ (Heap.get?_push_of_some _ (Heap.get?_push_of_some _ (Heap.get?_push_size _ rfl))))
  show _ ∧ _
  rw [z2, z3, z4] at g5
  rw [z1, z2] at g3
  rw [z3] at g4
  rw [z1] at g2
  rw [z4]
  exact ⟨⟨_, g5, rfl⟩, h _ g5 g3 g4 ⟨_, g1, rfl, rfl⟩ ⟨_, g2, rfl, rfl⟩ z5 fun c o q => Heap.get?_push_of_some _ (Heap.get?_push_of_some _ (Heap.get?_push_of_some _ (Heap.get?_push_of_some _ (Heap.get?_push_of_some _ q))))⟩
end
/-- the tuple at a as it stands at each turn, and the text's signs -/
def ItTS (K : PySem.W.Frag) (a : Addr) (t : Str) : It :=
  ⟨fun i H => ∃ (xs : List V) (x : V) (c : Nat), SqT K H a xs ∧ xs[i]? = some x ∧ t.cps[i]? = some c,
    fun i H v H' => ∃ T x c, v = .ref T ∧ H T = none ∧ H' = upd H T (.tup [x, .str ⟨#[c]⟩]) ∧ (∀ xs, SqT K H a xs → xs[i]? = some x) ∧ t.cps[i]? = some c,
    fun i H => ∃ xs : List V, SqT K H a xs ∧ i ≤ xs.length ∧ i ≤ t.cps.size ∧ (i = xs.length ∨ i = t.cps.size)⟩
theorem turn_TS {P : Program} {w : World} {K : PySem.W.Frag} {elts : List Expr} {kk : Nat} {tpos : Pos} {a z TI TO i1 i2 : Addr} (t : Str) (tk : Tok) (D : ZipSep2 z TI TO i1 i2 [i1, a] [i2]) (ha : a ≠ i1) :
    Turn P w K (.Tuple elts kk tpos) (ItTS K a t) [z, TI, TO, i1, i2] z (fun i h => IsZip h z TI TO .none ∧ IsPair h TI (.ref i1) (.ref i2) ∧ (∃ x y, IsPair h TO x y) ∧ h.IsTupleIter i1 a i ∧ h.IsStrIter i2 (strIterType t) t tk i) where
  mem := by simp
  obj := fun i h st c hc => by
    obtain ⟨hz, hTI, ⟨x, y, hTO⟩, ⟨o1, e1, _, d1⟩, ⟨o2, e2, _, d2⟩⟩ := st
    have e' : c = z ∨ c = TI ∨ c = TO ∨ c = i1 ∨ c = i2 := by simpa using hc
    rcases e' with q | q | q | q | q
    · rw [q]; exact ⟨_, hz, fun v q => nomatch q⟩
    · rw [q]; exact ⟨_, hTI, fun v q => nomatch q⟩
    · rw [q]; exact ⟨_, hTO, fun v q => nomatch q⟩
    · rw [q]; exact ⟨o1, e1, fun v q => by rw [d1] at q; cases q⟩
    · rw [q]; exact ⟨o2, e2, fun v q => by rw [d2] at q; cases q⟩
  keep := fun i h h' st k => by
    obtain ⟨hz, hTI, ⟨x, y, hTO⟩, h1, ⟨o, ho, r⟩⟩ := st
    exact ⟨k z (by simp) _ hz, k TI (by simp) _ hTI, ⟨x, y, k TO (by simp) _ hTO⟩, h1.at fun o q => k i1 (by simp) o q, ⟨o, k i2 (by simp) o ho, r⟩⟩
  item := by
    intro X hP hw hK hc i pins s σ H E I hf st hg
    subst hP hw hK
    obtain ⟨hz, hTI, ⟨x0, y0, hTO⟩, h1, h2⟩ := st
    obtain ⟨xs, x, c, hqx, hx, hcx⟩ := hg
    obtain ⟨us, rv, p, _⟩ := I.tuple hqx
    obtain ⟨u, hu, ru⟩ := rv.get hx
    have hzl : z < s.heap.objs.size := Heap.lt_size hz
    have hh : X.A.in1.handled = none := I.ok.hd hc
    have li : i < us.toArray.size := by
      have := (List.getElem?_eq_some_iff.mp hu).1
      simpa using this
    have lc : i < t.cps.size := (Array.getElem?_eq_some_iff.mp hcx).1
    refine wpAny_pyNext_zipD2_item D (Draws.tuple hh i1 a ha us.toArray) (Draws.text hh i2 t tk) hz hTI hTO ⟨h1, p⟩ h2 li lc fun v1 v2 h' tk' q1 q2 z' TO' s1' s2' hT hsz hk => ?_
    obtain ⟨c', tu, hc', rfl⟩ := q2
    have ev : v1 = u := by
      have : us.toArray[i]? = some u := by simpa using hu
      exact Option.some.inj (q1.symm.trans this)
    subst ev
    cases Option.some.inj (hc'.symm.trans hcx)
    refine ⟨_, rfl, wpAny_letOwnedTupleGo_zip (s := { s with heap := h', toks := tk' }) z' fun h'' z'' sb => ?_⟩
    have hT2 : h''.get? s.heap.objs.size = some { cls := .type "tuple", data := .seq #[v1, .str ⟨#[c]⟩ tu] } := (sb.2 _ (Nat.ne_of_gt hzl)).trans hT
    have new : ObjOk X.prog X.w (upd H s.heap.objs.size (.tup [x, .str ⟨#[c]⟩])) h'' s.heap.objs.size (.tup [x, .str ⟨#[c]⟩]) := ⟨by show 2 ≤ sizeLine; decide, [v1, .str ⟨#[c]⟩ tu], .cons ru (.cons ⟨_, rfl⟩ .nil), ⟨_, hT2, rfl, _, rfl⟩⟩
    have I1 : Inv X pins σ (upd H s.heap.objs.size (.tup [x, .str ⟨#[c]⟩])) { s with heap := h'', toks := tk' } :=
      I.turnedNew (ch := [z, TI, TO, i1, i2]) (fun c o hb q => (sb.2 c (fun q' => hb (by simp [q']))).trans (hk c o (fun q' => hb (by simp [q'])) (fun q' => hb (by simp [q'])) (fun q' => hb (by simp [q'])) (fun q' => hb (by simp [q'])) q)) hf (Nat.le_refl _) new
    refine ⟨.ref s.heap.objs.size, _, I1, rfl, ⟨_, x, c, rfl, I.hok.fresh (Nat.le_refl _), rfl, fun l hl => by rw [I.tuple_inj hl hqx]; exact hx, hcx⟩, ⟨z'', ?_, ⟨v1, .str ⟨#[c]⟩ tu, ?_⟩, ?_, ?_⟩, fun b hb => ?_⟩
    · exact (sb.2 _ D.TIz).trans (hk _ _ D.TIz D.TITO D.TIi1 D.TIi2 hTI)
    · exact (sb.2 _ D.TOz).trans TO'
    · exact s1'.1.at fun o q => (sb.2 _ (Ne.symm D.zi1)).trans q
    · obtain ⟨o, ho, r⟩ := s2'
      exact ⟨o, (sb.2 _ (Ne.symm D.zi2)).trans ho, r⟩
    · have hlt : b < s.heap.objs.size := by
        have e' : b = z ∨ b = TI ∨ b = TO ∨ b = i1 ∨ b = i2 := by simpa using hb
        rcases e' with q | q | q | q | q
        · rw [q]; exact hzl
        · rw [q]; exact Heap.lt_size hTI
        · rw [q]; exact Heap.lt_size hTO
        · rw [q]; obtain ⟨_, e1, _⟩ := h1; exact Heap.lt_size e1
        · rw [q]; obtain ⟨_, e2, _⟩ := h2; exact Heap.lt_size e2
      rw [upd_ne (Nat.ne_of_lt hlt)]
      exact (hf b hb).1
  done := by
    intro X hP hw hK hc i pins s σ H E I hf st hg
    subst hP hw hK
    obtain ⟨hz, hTI, ⟨x0, y0, hTO⟩, h1, h2⟩ := st
    obtain ⟨xs, hqx, l1, l2, hend⟩ := hg
    obtain ⟨us, rv, p, _⟩ := I.tuple hqx
    have lu : us.toArray.size = xs.length := by rw [List.size_toArray, ← rv.length]
    have hh : X.A.in1.handled = none := I.ok.hd hc
    exact wpAny_pyNext_zipD2_end D (Draws.tuple hh i1 a ha us.toArray) (Draws.text hh i2 t tk) hz hTI hTO ⟨h1, p⟩ h2 (by omega) l2 (by omega) fun h' tk' hk => ⟨rfl, I.turnedL (t' := tk') (ch := [z, TI, TO, i1, i2]) (fun c o hb q =>
      hk c o (fun q' => hb (by simp [q'])) (fun q' => hb (by simp [q'])) (fun q' => hb (by simp [q'])) (fun q' => hb (by simp [q'])) q) hf⟩
  self := fun A i s Q E st h => wpAny_pyIter_zip st.1 h
end JsZ
namespace L2
open PySem PySem.Spec PyProof.Rows
def iZipTS (K : PySem.W.Frag) (ta : TA) : TI := fun σ H R => ta σ H fun vs H1 => ∃ a t xs, vs = [.ref a, .str t] ∧ SqT K H1 a xs ∧ R (JsZ.ItTS K a t) H1
theorem pi_zipTS {X : Cx} {e e2 : Expr} {ta : TA} {p pos tpos : Pos} {elts : List Expr} {kk : Nat} (hg : Gl X "zip") (hm : X.mg "zip" = none) (ha : PA X [e, e2] ta)
    (hs : starEach [e, e2] X.env = (false, eval e X.env) :: starEach [e2] X.env := by rfl) (hpl : (backTo pos (starEach [e2] X.env)).any (·.1) = false := by rfl) : PI X (.Tuple elts kk tpos) (.Call (.Name "zip" p) [e, e2] [] pos) (iZipTS X.K ta) := by
  refine ⟨fun pins s σ H R I h => ?_⟩
  refine Call_ (ld_blt I hg hm PyProof.Rows.boot_zip (PyProof.Rows.callWith_type1 (thn (ha.run pos pins s σ H _ I h) fun us s1 ⟨vs, H1, I1, r1, q1⟩ => ?_) hs hpl))
  obtain ⟨a, t, xs, ex, hqx, q⟩ := q1
  subst ex
  cases r1 with
  | cons r rr =>
    cases rr with
    | cons r' rr =>
      cases rr
      cases r
      obtain ⟨tk, rfl⟩ := r'
      have fresh5 : ∀ c, c ∈ [s1.heap.objs.size + 4, s1.heap.objs.size + 2, s1.heap.objs.size + 3, s1.heap.objs.size, s1.heap.objs.size + 1] → FpOk X pins H1 c := fun c hcm => by
        have hle : s1.heap.objs.size ≤ c := by
          simp only [List.mem_cons, List.not_mem_nil, or_false] at hcm
          omega
        exact I1.fpOk hle (I1.hok.fresh hle)
      obtain ⟨its, rv, p1, _⟩ := I1.tuple hqx
      obtain ⟨o1, ho1, _⟩ := id p1
      have la := Heap.lt_size ho1
      refine JsZ.call_zipTS p1 fun h' hz hTI hTO h1 h2 hsz hk => wpAny_pyIter_zip hz ?_
      have I2 : Inv X pins σ H1 { s1 with heap := h' } := I1.kept (t' := s1.toks) hk
      have D : ZipSep2 (s1.heap.objs.size + 4) (s1.heap.objs.size + 2) (s1.heap.objs.size + 3) s1.heap.objs.size (s1.heap.objs.size + 1) [s1.heap.objs.size, a] [s1.heap.objs.size + 1] := by
        have la2 : ∀ k, s1.heap.objs.size + k ≠ a := fun k h => absurd la (by rw [← h]; exact Nat.not_lt.mpr (Nat.le_add_right _ _))
        constructor <;> simp <;> first | omega | exact la2 _
      exact ⟨s1.heap.objs.size + 4, [s1.heap.objs.size + 4, s1.heap.objs.size + 2, s1.heap.objs.size + 3, s1.heap.objs.size, s1.heap.objs.size + 1], _, _, H1, rfl, I2, JsZ.turn_TS t tk D (Nat.ne_of_lt la), ⟨hz, hTI, ⟨_, _, hTO⟩, h1, h2⟩, fresh5, q⟩
theorem walk_zipTS {K : PySem.W.Frag} {a : Addr} {t : Str} {xs : List V} {n : Nat} (hn : n = min xs.length t.cps.size) : Walk (JsZ.ItTS K a t) n (fun H => SqT K H a xs) (fun i H v H' => ∃ T x c, v = .ref T ∧ H T = none ∧ H' = upd H T (.tup [x, .str ⟨#[c]⟩]) ∧ xs[i]? = some x ∧ t.cps[i]? = some c) :=
  ⟨fun i H hi hq => by
      have h1 : i < xs.length := by omega
      have h2 : i < t.cps.size := by omega
      exact ⟨xs, xs[i], t.cps[i], hq, List.getElem?_eq_getElem h1, Array.getElem?_eq_getElem h2⟩, fun H hq => ⟨xs, hq, by omega, by omega, by omega⟩, fun i H v H' hi hq y => by
      obtain ⟨T, x, c, e1, e2, e3, e4, e5⟩ := y
      exact ⟨T, x, c, e1, e2, e3, e4 xs hq, e5⟩⟩
end L2

set_option Elab.async false
set_option linter.all false
set_option maxRecDepth 100000
set_option maxHeartbeats 2000000
namespace Js
open PySem L2
abbrev sThing : Stmt := top 69
theorem lc_yes {te : TE} {σ : St} {H : Hp} {R : VK} {B : Hp → Prop} (h : te σ H R) : tYes σ H (fun b H3 => if b = true then te σ H3 R else B H3) := by
  show if true = true then te σ H R else B H
  rw [if_pos rfl]
  exact h
theorem paired_split {α β : Type} {F : α → β → Prop} : ∀ (n : Nat) {xs : List α} {ts : List β}, Paired F xs ts → n + 1 < xs.length →
    ∃ xp x y xq tp t u tq, xs = xp ++ x :: y :: xq ∧ ts = tp ++ t :: u :: tq ∧ xp.length = n ∧ tp.length = n ∧ Paired F xp tp ∧ F x t ∧ F y u ∧ Paired F xq tq
  | 0, _, _, .nil, h => absurd h (by simp)
  | 0, _, _, .cons _ .nil, h => absurd h (by simp)
  | 0, _, _, .cons h1 (.cons h2 r), _ => ⟨[], _, _, _, [], _, _, _, rfl, rfl, rfl, rfl, .nil, h1, h2, r⟩
  | n + 1, _, _, .nil, h => absurd h (by simp)
  | n + 1, _, _, .cons (a := a0) (b := b0) h1 r, h => by
    obtain ⟨xp, x, y, xq, tp, t, u, tq, e1, e2, l1, l2, p1, f1, f2, p2⟩ := paired_split n r (by simpa using h)
    exact ⟨_ :: xp, x, y, xq, _ :: tp, t, u, tq, by rw [e1]; rfl, by rw [e2]; rfl, by simp [l1], by simp [l2], .cons h1 p1, f1, f2, p2⟩
theorem paired_append {α β : Type} {F : α → β → Prop} : ∀ {xs xs' : List α} {ys ys' : List β}, Paired F xs ys → Paired F xs' ys' → Paired F (xs ++ xs') (ys ++ ys')
  | _, _, _, _, .nil, h => h
  | _, _, _, _, .cons h t, h' => .cons h (paired_append t h')
def tsz (ts : List Tr) : Nat := (ts.map Tr.size).sum
theorem tsz_append (a b : List Tr) : tsz (a ++ b) = tsz a + tsz b := by simp [tsz]
theorem tsz_cons (a : Tr) (b : List Tr) : tsz (a :: b) = a.size + tsz b := by simp [tsz]
def spThing (C : Addr) : Sp := fun vs H Q _ => ∃ (p : Addr) (m : Nat), vs = [.ref p, .int (m : Nat)] ∧ BagOk H p ∧ m ≤ 3000 ∧ ∀ a t H', KB p H H' → BagOk H' p → Th C H' a t → t.size = m → Q (.ref a) H'
section
variable {P : Program} {w : World} {K : PySem.W.Frag} {mg : Str → Option Value} {base : Heap} {C fI : Addr} {fdI : FuncData}
theorem scTh : FnScope ["_law_bag_here", "_law_many", "_law_some", "_law_at", "_law_k"] ["_law_bag_here", "_law_many"] (defScope sThing) := ⟨rfl, rfl, rfl, by decide +kernel, rfl, by decide +kernel, by decide +kernel⟩
theorem ok_thing {f fT : Addr} {fd fdT : FuncData} (F : Fun K "_law_thing" "_law_thing" sThing f fd) (B : Blt mg) (mk : Maker P w K mg base C fI fdI) (AT : At K mg "_law_take" sTake ["_law_bag_here", "_law_many"] fT fdT) : FnOk P w K mg base CX0 4 f fd ["_law_bag_here", "_law_many"] (spThing C) := by
  have GT : FnOk P w K mg base CX0 1 fT fdT ["_law_bag_here", "_law_many"] spTake := ok_take AT.F
  refine F.ok scTh (fun vs H Q E h => ?_) (fun cdv A outer s H vs Q E hr h => ?_)
  · obtain ⟨p, m, rfl, _⟩ := h
    rfl
  · obtain ⟨p, m, rfl, hbag, hm, k⟩ := h
    have hr1 : Room 1 _ := hr.mono (by decide)
    refine ⟨_, pss_cons (ps_setLc (i := 2) (own := [("_law_k", 4)]) (g := gName 4) (tt := tYes) rfl scTh.nd rfl rfl (sw_true rfl rfl rfl (by decide +kernel)) (pi_range1 rfl B.range (pa_cons (pe_op op_add (pv 1) pe_int) pa_nil))
        (blkOk_by (N := ["_law_bag_here", "_law_many", "_law_some", "_law_at", "_law_k"]) (sc := defScope sThing) (by decide +kernel)) (fun _ _ _ _ _ => pg_name (i := 4) scTh.nd rfl (Or.inl rfl)) (fun _ _ _ _ _ => pts_nil) (fun _ _ _ _ _ => pe_T0 mk hr rfl))
      (pss_cons (ps_while PassesOwn.never (pt_cmpR op_gt (pe_callB call_len_seq (by rfl) B.len PySem.boot_len (pa_cons (pv 2) pa_nil)) pe_int (nomark _))
        (pss_cons (ps_set (i := 3) scTh.nd rfl (Or.inl rfl) (pe_call GT hr1 rfl AT.mgf AT.F.kp AT.b .nil pass0 (pa_cons (pv 0) (pa_cons (pe_op op_sub (pe_callB call_len_seq (by rfl) B.len PySem.boot_len (pa_cons (pv 2) pa_nil)) pe_int) pa_nil))))
        (pss_one (ps_asg (pe_lst (pa_cons (pe_T2 mk hr rfl (pa_cons (pe_ix ix_list (pv 2) (pv 3) (fun _ _ => rfl)) (pa_cons (pe_ix ix_list (pv 2) (pe_op op_add (pv 3) pe_int) (fun _ _ => rfl)) pa_nil))) pa_nil)) (pg_slice (pv 2) (po_some (pv 3)) (po_some (pe_op op_add (pv 3) pe_int)))))))
      (pss_one (ps_ret (pe_ix ix_list (pv 2) pe_int (fun _ _ => rfl))))), ?_⟩
    have hsl := line4
    obtain ⟨bx, hbx⟩ := hbag.some
    refine ⟨_, rfl, _, _, rfl, rfl, _, rfl, by omega, by omega, fun D nD => lc_range (n := ((m : Int) + 1).toNat) (fun i H' => ∃ xs, Same H H' ∧ H' D = some (.lst xs) ∧ Paired (ThV C H') xs (List.replicate i .nil)) ⟨[], Same.new nD, upd_same, .nil⟩ ?_ ?_⟩
    · rintro i H1 hi ⟨xs, s1, hD, hps⟩
      refine ⟨rfl, lc_yes fun z H2 s2 _ h2 => ?_⟩
      have hlen := Paired.length hps
      rw [List.length_replicate] at hlen
      have hD2 := s2 _ _ hD
      refine ⟨xs, hD2, by omega, xs ++ [.ref z], (s1.trans s2).set nD, upd_same, ?_⟩
      have kk : KT H2 (upd H2 D (.lst (xs ++ [.ref z]))) := KT.lst hD2
      have e : List.replicate (i + 1) Tr.nil = List.replicate i .nil ++ [.nil] := List.replicate_succ'
      rw [e]
      exact paired_snoc (ths_kt kk (ths_kt (KT.of s2) hps)) ⟨z, rfl, h2.kt kk⟩
    · rintro H1 ⟨xs, s1, hD, hps⟩
      have em : ((m : Int) + 1).toNat = m + 1 := by omega
      rw [em] at hps
      have npD : p ≠ D := ne_of_none hbx nD
      refine ⟨fun mm σ H' => ∃ (xs : List V) (ts : List Tr) (x3 x4 : Option V), σ = [some (.ref p), some (.int (m : Nat)), some (.ref D), x3, x4] ∧ KB p H H' ∧ BagOk H' p ∧ H' D = some (.lst xs) ∧ Paired (ThV C H') xs ts ∧ tsz ts + ts.length = m + 1 ∧ ts ≠ [] ∧ mm = ts.length, ⟨_, xs, _, none, none, rfl, KB.of s1, hbag.same s1, hD, hps, ?_, by simp, rfl⟩, ?_⟩
      · have : ∀ n, tsz (List.replicate n .nil) = 0 := by
          intro n
          induction n with
          | zero => rfl
          | succ n ih => rw [List.replicate_succ, tsz_cons, ih]; rfl
        rw [this, List.length_replicate]
        omega
      · rintro mm σ H2 ⟨xs, ts, x3, x4, rfl, k2, hbag2, hD2, hps2, hsz, hne, rfl⟩
        have hlen := Paired.length hps2
        refine ⟨_, rfl, D, _, rfl, .inl (SqL.of hD2), _, _, rfl, rfl, _, rfl, ?_⟩
        by_cases h1 : 1 < xs.length
        · have ed : decide ((1 : Int) < ((xs.length : Nat) : Int)) = true := decide_eq_true (by omega)
          rw [ed]
          refine iteT ⟨fun σ' H3 => ∃ m', m' < ts.length ∧ _, fun σ' H3 z => z, ?_⟩
          refine ⟨_, rfl, _, rfl, D, _, rfl, .inl (SqL.of hD2), _, _, rfl, rfl, p, _, rfl, hbag2, by omega, by omega, fun d H3 k3 hbag3 hd0 hd1 => ?_⟩
          have hD3 := k3 _ _ (Ne.symm npD) hD2
          have hps3 := ths_kt (hbag2.kt k3) hps2
          obtain ⟨dn, rfl⟩ := Int.eq_ofNat_of_zero_le hd0
          obtain ⟨xp, x, y, xq, tp, t, u, tq, rfl, rfl, l1, l2, p1, f1, f2, p2⟩ := paired_split dn hps3 (by omega)
          obtain ⟨a1, rfl, g1⟩ := f1
          obtain ⟨a2, rfl, g2⟩ := f2
          simp only [tsz_append, tsz_cons, List.length_append, List.length_cons] at hsz
          have ix1 : atI (xp ++ V.ref a1 :: V.ref a2 :: xq) ((dn : Nat) : Int) = some (.ref a1) := atI_nat (by rw [List.getElem?_append_right (by omega), l1, Nat.sub_self]; rfl)
          have ix2 : atI (xp ++ V.ref a1 :: V.ref a2 :: xq) (((dn : Nat) : Int) + 1) = some (.ref a2) := by
            have e : (((dn : Nat) : Int) + 1) = ((dn + 1 : Nat) : Int) := by omega
            rw [e]
            exact atI_nat (by rw [List.getElem?_append_right (by omega), l1]; simp)
          refine ⟨_, rfl, _, rfl, D, _, _, _, rfl, rfl, SqL.of hD3, ix1, _, rfl, _, rfl, _, _, rfl, rfl, D, _, _, _, rfl, rfl, SqL.of hD3, ix2, a1, a2, t, u, rfl, g1, g2, by omega, fun z H4 s4 _ h4 => ?_⟩
          refine ⟨(by show 1 ≤ sizeLine; decide), fun q nq => ?_⟩
          have hD4 := s4 _ _ hD3
          have nqD : D ≠ q := ne_of_none hD4 nq
          have hlx : (xp ++ V.ref a1 :: V.ref a2 :: xq).length = dn + 2 + xq.length := by
            rw [List.length_append, List.length_cons, List.length_cons]
            omega
          have hD5 : (upd H4 q (.lst [.ref z])) D = some (.lst (xp ++ V.ref a1 :: V.ref a2 :: xq)) := (upd_ne nqD).trans hD4
          have hle : xq.length = tq.length := Paired.length p2
          refine ⟨_, rfl, _, rfl, _, rfl, _, rfl, _, _, rfl, rfl, _, rfl, D, q, _, _, _, _, rfl, rfl, rfl, rfl, hD5, upd_same, nqD, by omega, by omega, by rw [hlx]; omega, by rw [hlx]; show _ + 1 ≤ _; omega, ?_⟩
          have e1 : (xp ++ V.ref a1 :: V.ref a2 :: xq).take ((dn : Nat) : Int).toNat = xp := by
            rw [Int.toNat_natCast, ← l1, List.take_left]
          have e2 : (xp ++ V.ref a1 :: V.ref a2 :: xq).drop (((dn : Nat) : Int) + 1 + 1).toNat = xq := by
            have e : (((dn : Nat) : Int) + 1 + 1).toNat = xp.length + 2 := by omega
            rw [e, List.drop_append]
            simp
          have e3 : (((dn : Nat) : Int) + 2).toNat = (((dn : Nat) : Int) + 1 + 1).toNat := by omega
          rw [e1]
          try rw [e3]
          rw [e2]
          have k5 : KT H4 (upd (upd H4 q (.lst [.ref z])) D (.lst (xp ++ [.ref z] ++ xq))) := (KT.new nq).trans (KT.lst hD5)
          have k45 := (KT.of s4).trans k5
          refine ⟨(tp ++ [Tr.pr t u] ++ tq).length, ?_, xp ++ [.ref z] ++ xq, tp ++ [.pr t u] ++ tq, _, _, rfl, ?_, ?_, upd_same, paired_append (paired_append (ths_kt k45 p1) (.cons ⟨z, rfl, h4.kt k5⟩ .nil)) (ths_kt k45 p2), ?_, ?_, rfl⟩
          · simp
          · intro a o na h
            have h4' := s4 _ _ (k3 _ _ na (k2 _ _ na h))
            rw [upd_ne (ne_of_none h nD), upd_ne (ne_of_none h4' nq)]
            exact h4'
          · obtain ⟨x0, x1, pr, x3', h, r⟩ := hbag3.ex
            exact ⟨x0, x1, pr, x3', (upd_ne npD).trans ((upd_ne (ne_of_none (s4 _ _ h) nq)).trans (s4 _ _ h)), r⟩
          · simp only [tsz_append, tsz_cons, List.length_append, List.length_cons, Tr.size]
            simp [tsz]
            simp [tsz] at hsz
            omega
          · simp
        · have ed : decide ((1 : Int) < ((xs.length : Nat) : Int)) = false := decide_eq_false (by omega)
          rw [ed]
          refine iteF ?_
          cases hps2 with
          | nil => exact absurd rfl hne
          | @cons v t vs ts hv hps2 =>
            cases hps2 with
            | cons _ _ => simp at h1
            | nil =>
              obtain ⟨a, rfl, ha⟩ := hv
              refine ⟨_, rfl, D, _, _, .ref a, rfl, rfl, SqL.of hD2, rfl, k a t H2 k2 hbag2 ha ?_⟩
              simp [tsz] at hsz
              omega
end
end Js

set_option Elab.async false
set_option linter.all false
set_option maxRecDepth 100000
set_option maxHeartbeats 2000000
namespace Js
open PySem L2
abbrev sIsName : Stmt := top 23
abbrev sFits : Stmt := top 24
abbrev sHasForm : Stmt := top 25
abbrev sRowsIn : Stmt := top 27
def kindOf : Dd → Str
  | .told _ _ => "told"
  | .take s _ _ => takeS s
  | .two s _ _ _ => twoS s
  | .wh _ _ => "while"
  | .iff _ _ _ => "if"
def formOf : Dd → Str
  | .told _ _ => "nt"
  | .take _ _ _ => "nn"
  | .two _ _ _ _ => "nnn"
  | .wh _ _ => "nr"
  | .iff _ _ _ => "nrr"
def forms : List (Str × Str) := [("told", "nt"), ("first", "nn"), ("second", "nn"), ("pair", "nnn"), ("same", "nnn"), ("while", "nr"), ("if", "nrr")]
theorem form_in : ∀ d : Dd, (kindOf d, formOf d) ∈ forms
  | .told _ _ => by simp [kindOf, formOf, forms]
  | .take false _ _ => by simp [kindOf, formOf, forms, takeS]
  | .take true _ _ => by simp [kindOf, formOf, forms, takeS]
  | .two false _ _ _ => by simp [kindOf, formOf, forms, twoS]
  | .two true _ _ _ => by simp [kindOf, formOf, forms, twoS]
  | .wh _ _ => by simp [kindOf, formOf, forms]
  | .iff _ _ _ => by simp [kindOf, formOf, forms]
/-- what the top says of the forms, and the numbers -/
structure FrmC (K : PySem.W.Frag) (w : World) (mg : Str → Option Value) : Prop where
  ex : ∃ dF es n, mg "FORMS" = some (.ref dF) ∧ KDict K w dF es n ∧ ∀ kf ∈ forms, ∃ t, PySem.W.nsIn K dF kf.1 = some (some (.str kf.2 t))
  mM : ∃ t, mg "MANY_NAMES" = some (.int 10 t)
  mD : ∃ t, mg "MOST_DEEDS" = some (.int 4000 t)
  mF : ∃ t, mg "MOST_FLOORS" = some (.int 8 t)
  mb : mg "bool" = none
  mt : mg "tuple" = none
  mz : mg "zip" = none
  me : mg "enumerate" = none
  ii : PySem.W.kitOne K (.type "int") (.type "int") = some true
  ib : PySem.W.kitOne K (.type "int") (.type "bool") = some false
  tt : PySem.W.kitOne K (.type "tuple") (.type "tuple") = some true
  ss : PySem.W.kitOne K (.type "str") (.type "str") = some true
theorem all_rep (n : Nat) : (List.replicate n true).all id = true := by
  rw [List.all_eq_true]
  intro b hb
  rw [(List.mem_replicate.mp hb).2]
  rfl
def FitsV (K : PySem.W.Frag) (C : Addr) (H : Hp) (x : V) (c : Nat) : Prop := (c = 110 ∧ ∃ a : Nat, a < 10 ∧ x = .int (a : Nat)) ∨ (c = 116 ∧ ∃ a t, x = .ref a ∧ Th C H a t) ∨ (c = 114 ∧ ∃ q vs, x = .ref q ∧ SqT K H q vs)
theorem FitsV.same {K : PySem.W.Frag} {C : Addr} {H H' : Hp} (s : Same H H') {x : V} {c : Nat} (h : FitsV K C H x c) : FitsV K C H' x c := by
  rcases h with h | ⟨e, a, t, e2, h⟩ | ⟨e, q, vs, e2, h⟩
  · exact .inl h
  · exact .inr (.inl ⟨e, a, t, e2, h.same s⟩)
  · exact .inr (.inr ⟨e, q, vs, e2, sqt_kt (KT.of s) h⟩)
theorem cps_nt : ("nt" : Str).cps = #[110, 116] := by decide +kernel
theorem cps_nn : ("nn" : Str).cps = #[110, 110] := by decide +kernel
theorem cps_nnn : ("nnn" : Str).cps = #[110, 110, 110] := by decide +kernel
theorem cps_nr : ("nr" : Str).cps = #[110, 114] := by decide +kernel
theorem cps_nrr : ("nrr" : Str).cps = #[110, 114, 114] := by decide +kernel
/-- the form of a deed that stands -/
theorem shape {K : PySem.W.Frag} {C : Addr} {H : Hp} {v : V} : ∀ (d : Dd), DAt K C H v d → ∃ p its, v = .ref p ∧ SqT K H p (.str (kindOf d) :: its) ∧ its.length = (formOf d).cps.size ∧ its ≠ [] ∧ its.length ≤ 3 ∧ ∀ (i : Nat) x c, its[i]? = some x → (formOf d).cps[i]? = some c → FitsV K C H x c
  | .told a t, h => by
    obtain ⟨p, x, e, h1, h2, h3, h4⟩ := h
    refine ⟨p, _, e, h1, by rw [formOf, cps_nt]; rfl, by simp, by simp, fun i y c g1 g2 => ?_⟩
    rw [formOf, cps_nt] at g2
    match i, g1, g2 with
    | 0, g1, g2 => cases Option.some.inj g1; cases Option.some.inj g2; exact .inl ⟨rfl, a, h2, rfl⟩
    | 1, g1, g2 => cases Option.some.inj g1; cases Option.some.inj g2; exact .inr (.inl ⟨rfl, x, t, rfl, h3⟩)
    | i + 2, g1, g2 => simp at g1
  | .take s a b, h => by
    obtain ⟨p, e, h1, h2, h3⟩ := h
    refine ⟨p, _, e, h1, by rw [formOf, cps_nn]; rfl, by simp, by simp, fun i y c g1 g2 => ?_⟩
    rw [formOf, cps_nn] at g2
    match i, g1, g2 with
    | 0, g1, g2 => cases Option.some.inj g1; cases Option.some.inj g2; exact .inl ⟨rfl, a, h2, rfl⟩
    | 1, g1, g2 => cases Option.some.inj g1; cases Option.some.inj g2; exact .inl ⟨rfl, b, h3, rfl⟩
    | i + 2, g1, g2 => simp at g1
  | .two s a b c, h => by
    obtain ⟨p, e, h1, h2, h3, h4⟩ := h
    refine ⟨p, _, e, h1, by rw [formOf, cps_nnn]; rfl, by simp, by simp, fun i y z g1 g2 => ?_⟩
    rw [formOf, cps_nnn] at g2
    match i, g1, g2 with
    | 0, g1, g2 => cases Option.some.inj g1; cases Option.some.inj g2; exact .inl ⟨rfl, a, h2, rfl⟩
    | 1, g1, g2 => cases Option.some.inj g1; cases Option.some.inj g2; exact .inl ⟨rfl, b, h3, rfl⟩
    | 2, g1, g2 => cases Option.some.inj g1; cases Option.some.inj g2; exact .inl ⟨rfl, c, h4, rfl⟩
    | i + 3, g1, g2 => simp at g1
  | .wh a r, h => by
    obtain ⟨p, q, vs, e, h1, h2, h3, h4⟩ := h
    refine ⟨p, _, e, h1, by rw [formOf, cps_nr]; rfl, by simp, by simp, fun i y c g1 g2 => ?_⟩
    rw [formOf, cps_nr] at g2
    match i, g1, g2 with
    | 0, g1, g2 => cases Option.some.inj g1; cases Option.some.inj g2; exact .inl ⟨rfl, a, h2, rfl⟩
    | 1, g1, g2 => cases Option.some.inj g1; cases Option.some.inj g2; exact .inr (.inr ⟨rfl, q, vs, rfl, h3⟩)
    | i + 2, g1, g2 => simp at g1
  | .iff a r o, h => by
    obtain ⟨p, q, vs, q2, vs2, e, h1, h2, h3, h4, h5, h6⟩ := h
    refine ⟨p, _, e, h1, by rw [formOf, cps_nrr]; rfl, by simp, by simp, fun i y c g1 g2 => ?_⟩
    rw [formOf, cps_nrr] at g2
    match i, g1, g2 with
    | 0, g1, g2 => cases Option.some.inj g1; cases Option.some.inj g2; exact .inl ⟨rfl, a, h2, rfl⟩
    | 1, g1, g2 => cases Option.some.inj g1; cases Option.some.inj g2; exact .inr (.inr ⟨rfl, q, vs, rfl, h3⟩)
    | 2, g1, g2 => cases Option.some.inj g1; cases Option.some.inj g2; exact .inr (.inr ⟨rfl, q2, vs2, rfl, h5⟩)
    | i + 3, g1, g2 => simp at g1
/-- rows, one behind the other -/
def RowsAt (K : PySem.W.Frag) (C : Addr) (H : Hp) (ws : List V) (rs : List (List Dd)) : Prop := Paired (fun v r => ∃ q, v = .ref q ∧ RAt K C H q r) ws rs
theorem RowsAt.kt {K : PySem.W.Frag} {C : Addr} {H H' : Hp} (k : KT H H') : ∀ {ws : List V} {rs : List (List Dd)}, RowsAt K C H ws rs → RowsAt K C H' ws rs
  | _, _, .nil => .nil
  | _, _, .cons ⟨q, e, h⟩ t => .cons ⟨q, e, h.kt k⟩ (RowsAt.kt k t)
def spIsName : Sp := fun vs H Q _ => ∃ a : Nat, vs = [.int (a : Nat)] ∧ a < 10 ∧ Q (.bl true) H
def spFits (K : PySem.W.Frag) (C : Addr) : Sp := fun vs H Q _ => ∃ x c, vs = [x, .str ⟨#[c]⟩] ∧ FitsV K C H x c ∧ Q (.bl true) H
def spHasForm (K : PySem.W.Frag) (C : Addr) : Sp := fun vs H Q _ => ∃ v d, vs = [v] ∧ DAt K C H v d ∧ ∀ H', Same H H' → Q (.bl true) H'
def spRowsIn (K : PySem.W.Frag) (C : Addr) : Sp := fun vs H Q _ => ∃ v d, vs = [v] ∧ DAt K C H v d ∧ ∀ p ws H', Same H H' → SqT K H' p ws → RowsAt K C H' ws d.rows → Q (.ref p) H'
theorem c_n : ("n" : Str) = ⟨#[110]⟩ := by decide +kernel
theorem c_t : ("t" : Str) = ⟨#[116]⟩ := by decide +kernel
theorem c_r : ("r" : Str) = ⟨#[114]⟩ := by decide +kernel
theorem sg_eq (a b : Nat) : decide (V.str ⟨#[a]⟩ = V.str ⟨#[b]⟩) = decide (a = b) := by simp
section
variable {P : Program} {w : World} {K : PySem.W.Frag} {mg : Str → Option Value} {base : Heap} {C : Addr}
theorem scIN : FnScope ["part"] ["part"] (defScope sIsName) := ⟨rfl, rfl, rfl, by decide +kernel, rfl, by decide +kernel, by decide +kernel⟩
theorem ok_isName {f : Addr} {fd : FuncData} (F : Fun K "is_name" "is_name" sIsName f fd) (B : Blt mg) (T : Txt K mg C) (G : FrmC K w mg) : FnOk P w K mg base CX0 1 f fd ["part"] spIsName := by
  obtain ⟨tm, mM⟩ := G.mM
  refine F.ok scIN (fun vs H Q E h => ?_) (fun cdv A outer s H vs Q E hr h => ?_)
  · obtain ⟨a, rfl, _⟩ := h
    rfl
  · obtain ⟨a, rfl, ha, k⟩ := h
    refine ⟨_, pss_one (ps_ret (pe_and (pe_callB (r := rIsi K) call_isi (by rfl) T.isi PyProof.Rows.boot_isinstance (pa_cons (pv 0) (pa_cons (pe_bltn (v := .ty "int") rfl B.int PyProof.Rows.boot_int rfl) pa_nil))) (pe_and (pe_not (pe_callB (r := rIsi K) call_isi (by rfl) T.isi PyProof.Rows.boot_isinstance (pa_cons (pv 0) (pa_cons (pe_bltn (v := .ty "bool") rfl G.mb PyProof.Rows.boot_bool rfl) pa_nil)))) (pe_one (pe_chain op_le op_lt pe_int (pv 0) (pe_glob (v := .int 10) rfl mM ⟨_, rfl⟩)))))), ?_⟩
    refine ⟨_, rfl, _, _, _, _, true, rfl, .ty "int", .base (.int _), G.ii, _, rfl, iteT ?_⟩
    refine ⟨_, rfl, _, _, _, _, false, rfl, .ty "bool", .base (.int _), G.ib, _, rfl, _, rfl, iteT ?_⟩
    refine ⟨_, rfl, _, _, rfl, rfl, _, rfl, ?_⟩
    rw [decide_eq_true (show (0 : Int) ≤ ((a : Nat) : Int) by omega)]
    refine iteT ?_
    refine ⟨_, _, rfl, rfl, ?_⟩
    show Q (.bl (decide (((a : Nat) : Int) < 10))) H
    rw [decide_eq_true (show ((a : Nat) : Int) < 10 by omega)]
    exact k
theorem scFt : FnScope ["part", "sign"] ["part", "sign"] (defScope sFits) := ⟨rfl, rfl, rfl, by decide +kernel, rfl, by decide +kernel, by decide +kernel⟩
theorem ok_fits {f : Addr} {fd : FuncData} (F : Fun K "fits" "fits" sFits f fd) (B : Blt mg) (T : Txt K mg C) (G : FrmC K w mg) (DI : Def P w K mg base "is_name" 1 ["part"] spIsName) : FnOk P w K mg base CX0 2 f fd ["part", "sign"] (spFits K C) := by
  refine F.ok scFt (fun vs H Q E h => ?_) (fun cdv A outer s H vs Q E hr h => ?_)
  · obtain ⟨x, c, rfl, _⟩ := h
    rfl
  · obtain ⟨x, c, rfl, hf, k⟩ := h
    refine ⟨_, pss_cons (ps_if (pt_cmpR op_eq (pv 1) pe_str (nomark _)) (pss_one (ps_ret (pe_def DI hr rfl (pa_cons (pv 0) pa_nil)))) pss_nil) (pss_cons (ps_if (pt_cmpR op_eq (pv 1) pe_str (nomark _)) (pss_one (ps_ret (pe_callB (r := rIsi K) call_isi (by rfl) T.isi PyProof.Rows.boot_isinstance (pa_cons (pv 0) (pa_cons (pe_glob (v := .ref C) rfl T.mgC rfl) pa_nil))))) pss_nil) (pss_one (ps_ret (pe_callB (r := rIsi K) call_isi (by rfl) T.isi PyProof.Rows.boot_isinstance (pa_cons (pv 0) (pa_cons (pe_bltn (v := .ty "tuple") rfl G.mt PyProof.Rows.boot_tuple rfl) pa_nil)))))), ?_⟩
    refine ⟨_, rfl, rfl, _, rfl, ?_⟩
    rw [c_n, sg_eq]
    rcases hf with ⟨rfl, a, ha, rfl⟩ | ⟨rfl, a, t, rfl, ha⟩ | ⟨rfl, q, vs, rfl, hq⟩
    · rw [decide_eq_true rfl]
      refine iteT ?_
      exact ⟨_, rfl, a, rfl, ha, k⟩
    · rw [decide_eq_false (by decide)]
      refine iteF ?_
      refine ⟨_, rfl, rfl, _, rfl, ?_⟩
      rw [c_t, sg_eq, decide_eq_true rfl]
      refine iteT ?_
      obtain ⟨dx, f1, g1, h1⟩ := ha.obj
      exact ⟨_, rfl, _, _, _, _, true, rfl, ClsV.own C, .base (.ins h1 T.cl T.ca T.cn T.ct T.cm), kit_self _ _, k⟩
    · rw [decide_eq_false (by decide)]
      refine iteF ?_
      refine ⟨_, rfl, rfl, _, rfl, ?_⟩
      rw [c_t, sg_eq, decide_eq_false (by decide)]
      refine iteF ?_
      exact ⟨_, rfl, _, _, _, _, true, rfl, .ty "tuple", sqt_ty hq, G.tt, k⟩
theorem scHF : FnScope ["deed", "kind", "form", "part", "sign"] ["deed"] (defScope sHasForm) := ⟨rfl, rfl, rfl, by decide +kernel, rfl, by decide +kernel, by decide +kernel⟩
theorem at0 (x : V) (xs : List V) : atI (x :: xs) 0 = some x := by
  have h : atI (x :: xs) ((0 : Nat) : Int) = some x := atI_nat rfl
  exact h
theorem cut1 (x : V) (its : List V) : cutV (x :: its) (some 1) none = its := by
  have e : HT.sIx (its.length + 1) 0 (some 1) = 1 := by
    show min 1 (its.length + 1) = 1
    omega
  unfold cutV
  rw [List.length_cons, e, HT.sIx_none, Nat.add_sub_cancel, List.drop_succ_cons, List.drop_zero, List.take_length]
theorem cut2 (x y : V) (its : List V) : cutV (x :: y :: its) (some 2) none = its := by
  have e : HT.sIx (its.length + 1 + 1) 0 (some 2) = 2 := by
    show min 2 (its.length + 1 + 1) = 2
    omega
  unfold cutV
  rw [List.length_cons, List.length_cons, e, HT.sIx_none, show its.length + 1 + 1 - 2 = its.length from rfl, List.drop_succ_cons, List.drop_succ_cons, List.drop_zero, List.take_length]
theorem ok_hasForm {f : Addr} {fd : FuncData} (F : Fun K "has_form" "has_form" sHasForm f fd) (B : Blt mg) (T : Txt K mg C) (G : FrmC K w mg) (DF : Def P w K mg base "fits" 2 ["part", "sign"] (spFits K C)) : FnOk P w K mg base CX0 3 f fd ["deed"] (spHasForm K C) := by
  obtain ⟨dF, es, n, mF, kd, hk⟩ := G.ex
  refine F.ok scHF (fun vs H Q E h => ?_) (fun cdv A outer s H vs Q E hr h => ?_)
  · obtain ⟨v, d, rfl, _⟩ := h
    rfl
  · obtain ⟨v, d, rfl, hd, k⟩ := h
    refine ⟨_, pss_cons (ps_if (PW.pt (pw_or (pt_not (pt_val (pe_callB (r := rIsi K) call_isi (by rfl) T.isi PyProof.Rows.boot_isinstance (pa_cons (pv 0) (pa_cons (pe_bltn (v := .ty "tuple") rfl G.mt PyProof.Rows.boot_tuple rfl) pa_nil))))) (pw_or1 (pt_cmpR op_eq (pe_callB call_len_seq (by rfl) B.len PySem.boot_len (pa_cons (pv 0) pa_nil)) pe_int (nomark _))))) (pss_one (ps_ret pe_bl)) pss_nil) (pss_cons (ps_set (i := 1) scHF.nd rfl (Or.inl rfl) (pe_ix (r := rIxT K) ix_tup (pv 0) pe_int (fun _ _ => rfl))) (pss_cons (ps_if (PW.pt (pw_or (pt_not (pt_val (pe_callB (r := rIsi K) call_isi (by rfl) T.isi PyProof.Rows.boot_isinstance (pa_cons (pv 1) (pa_cons (pe_bltn (v := .ty "str") rfl B.str PyProof.Rows.boot_str rfl) pa_nil))))) (pw_or1 (pt_cmpR (op_notIn_kd kd) (pv 1) (pe_glob (v := .ref dF) rfl mF rfl) rfl)))) (pss_one (ps_ret pe_bl)) pss_nil) (pss_cons (ps_set (i := 2) scHF.nd rfl (Or.inl rfl) (pe_ix (r := rIxD K w) ix_kdict (pe_glob (v := .ref dF) rfl mF rfl) (pv 1) (fun _ _ => rfl))) (pss_one (ps_ret (pe_and (pe_cmpR op_eq (pe_callB call_len_seq (by rfl) B.len PySem.boot_len (pa_cons (pv 0) pa_nil)) (pe_op op_add pe_int (pe_callB call_len_str (by rfl) B.len PySem.boot_len (pa_cons (pv 2) pa_nil))) (nomark _)) (pe_one (pe_callB (cr_all rfl) (by rfl) B.all (by decide +kernel) (pa_cons (pe_lc (own := [("part", 3), ("sign", 4)]) (g := gTup K 2 (gCons (gName 3) (gCons (gName 4) gNil))) (tt := tYes) rfl scHF.nd (pi_zipTS rfl G.mz (pa_cons (pe_slice sl_tup (pv 0) (po_some pe_int) po_none) (pa_cons (pv 2) pa_nil))) (blkOk_by (N := ["deed", "kind", "form", "part", "sign"]) (sc := defScope sHasForm) (by decide +kernel)) (fun _ _ _ _ _ => by exact (pg_tup rfl (pgs_cons (pg_name (i := 3) scHF.nd rfl (Or.inl rfl)) (pgs_cons (pg_name (i := 4) scHF.nd rfl (Or.inl rfl)) pgs_nil)))) (fun _ _ _ _ _ => pts_nil) (fun _ _ _ _ _ => (pe_def DF hr rfl (pa_cons (pv 3) (pa_cons (pv 4) pa_nil))))) pa_nil))))))))), ?_⟩
    obtain ⟨p, its, rfl, hp, hl, hne, hl3, hall⟩ := shape d hd
    obtain ⟨tk, hk⟩ := hk _ (form_in d)
    have hsl := line4
    refine ⟨_, rfl, _, _, _, _, true, rfl, .ty "tuple", sqt_ty hp, G.tt, _, rfl, iteF ?_⟩
    refine ⟨_, rfl, p, _, rfl, .inr hp, rfl, _, rfl, ?_⟩
    have e0 : decide (V.int ((((V.str (kindOf d)) :: its).length : Nat) : Int) = V.int 0) = false := by
      rw [List.length_cons]
      simp only [decide_eq_false_iff_not, V.int.injEq]
      omega
    rw [e0]
    refine iteF ?_
    refine ⟨_, rfl, p, _, 0, _, rfl, rfl, hp, at0 _ _, ?_⟩
    refine ⟨_, rfl, _, _, _, _, true, rfl, .ty "str", .base (.str _), G.ss, _, rfl, iteF ?_⟩
    refine ⟨_, rfl, _, _, rfl, rfl, hk, _, rfl, iteF ?_⟩
    refine ⟨_, rfl, dF, _, .str (formOf d), rfl, rfl, ⟨es, n, _, kd.at_, kd.lit, hk, ⟨_, rfl⟩⟩, ?_⟩
    refine ⟨_, rfl, p, _, rfl, .inr hp, ?_⟩
    have fl : (formOf d).length = its.length := hl.symm
    refine ⟨_, rfl, formOf d, rfl, by omega, _, _, rfl, rfl, rfl, _, rfl, ?_⟩
    have e1 : decide (V.int ((((V.str (kindOf d)) :: its).length : Nat) : Int) = V.int (1 + (((formOf d).length : Nat) : Int))) = true := by
      rw [List.length_cons, fl]
      simp only [decide_eq_true_eq, V.int.injEq]
      omega
    rw [e1]
    refine iteT ?_
    refine ⟨_, rfl, _, rfl, p, _, rfl, hp, ?_, fun q nq => ?_⟩
    · rintro ⟨h0, _⟩
      have e : HT.sIx (its.length + 1) 0 (some 1) = 1 := by
        show min 1 (its.length + 1) = 1
        omega
      rw [List.length_cons, e] at h0
      cases h0
    rw [cut1]
    have sq := Same.new nq (o := .tup its)
    refine ⟨_, rfl, q, _, its, rfl, SqT.of upd_same, fun D nD => lc_it (n := its.length) (walk_zipTS (K := K) (a := q) (t := formOf d) (xs := its) (by rw [← hl, Nat.min_self])) (fun i H' => Same (upd H q (.tup its)) H' ∧ SqT K H' q its ∧ H' D = some (.lst (List.replicate i (.bl true)))) ⟨Same.new nD, SqT.of (Same.new nD _ _ upd_same), upd_same⟩ (fun i H' _ z => z.2.1) ?_ ?_⟩
    · rintro i y H1 H2 hi ⟨s1, hq1, hD1⟩ ⟨T, x, c, rfl, nT, rfl, hx, hc⟩
      have sT := Same.new nT (o := .tup [x, .str ⟨#[c]⟩])
      refine ⟨T, _, rfl, SqT.of upd_same, rfl, _, _, rfl, _, _, rfl, rfl, rfl, lc_yes ?_⟩
      refine ⟨_, rfl, _, rfl, x, c, rfl, (hall i x c hx hc).same ((sq.trans s1).trans sT), ?_⟩
      refine ⟨_, sT _ _ hD1, by rw [List.length_replicate]; omega, (s1.trans sT).set nD, ?_, ?_⟩
      · have nDq : q ≠ D := fun z => by
          rw [← z, upd_same] at nD
          cases nD
        exact sqt_kt (KT.lst (sT _ _ hD1)) (sqt_kt (KT.of sT) hq1)
      · rw [upd_same, List.replicate_succ']
    · rintro H1 ⟨s1, hq1, hD1⟩
      refine ⟨D, List.replicate its.length true, rfl, SqL.of ?_, ?_⟩
      · rw [hD1, List.map_replicate]
      · have ea : ((List.replicate its.length true).all id) = true := all_rep _
        rw [ea]
        exact k H1 (sq.trans s1)
theorem scRI : FnScope ["deed"] ["deed"] (defScope sRowsIn) := ⟨rfl, rfl, rfl, by decide +kernel, rfl, by decide +kernel, by decide +kernel⟩
theorem rows_look {K : PySem.W.Frag} {C : Addr} {H : Hp} {v : V} : ∀ (d : Dd), DAt K C H v d → ∃ p y its, v = .ref p ∧ SqT K H p (.str (kindOf d) :: y :: its) ∧ ((decide (114 ∈ (formOf d).cps.toList) = true ∧ RowsAt K C H its d.rows) ∨ (decide (114 ∈ (formOf d).cps.toList) = false ∧ d.rows = []))
  | .told a t, h => by
    obtain ⟨p, x, e, h1, h2, h3, h4⟩ := h
    exact ⟨p, _, _, e, h1, .inr ⟨by rw [formOf, cps_nt]; decide, rfl⟩⟩
  | .take s a b, h => by
    obtain ⟨p, e, h1, h2, h3⟩ := h
    exact ⟨p, _, _, e, h1, .inr ⟨by rw [formOf, cps_nn]; decide, rfl⟩⟩
  | .two s a b c, h => by
    obtain ⟨p, e, h1, h2, h3, h4⟩ := h
    exact ⟨p, _, _, e, h1, .inr ⟨by rw [formOf, cps_nnn]; decide, rfl⟩⟩
  | .wh a r, h => by
    obtain ⟨p, q, vs, e, h1, h2, h3, h4⟩ := h
    exact ⟨p, _, _, e, h1, .inl ⟨by rw [formOf, cps_nr]; decide, .cons ⟨q, rfl, vs, h3, h4⟩ .nil⟩⟩
  | .iff a r o, h => by
    obtain ⟨p, q, vs, q2, vs2, e, h1, h2, h3, h4, h5, h6⟩ := h
    exact ⟨p, _, _, e, h1, .inl ⟨by rw [formOf, cps_nrr]; decide, .cons ⟨q, rfl, vs, h3, h4⟩ (.cons ⟨q2, rfl, vs2, h5, h6⟩ .nil)⟩⟩
theorem ok_rowsIn {f : Addr} {fd : FuncData} (F : Fun K "rows_in" "rows_in" sRowsIn f fd) (G : FrmC K w mg) : FnOk P w K mg base CX0 1 f fd ["deed"] (spRowsIn K C) := by
  obtain ⟨dF, es, n, mF, kd, hk⟩ := G.ex
  refine F.ok scRI (fun vs H Q E h => ?_) (fun cdv A outer s H vs Q E hr h => ?_)
  · obtain ⟨v, d, rfl, _⟩ := h
    rfl
  · obtain ⟨v, d, rfl, hd, k⟩ := h
    refine ⟨_, pss_one (ps_ret (pe_ifExp (pt_cmpR op_in_sign pe_str (pe_ix (r := rIxD K w) ix_kdict (pe_glob (v := .ref dF) rfl mF rfl) (pe_ix (r := rIxT K) ix_tup (pv 0) pe_int (fun _ _ => rfl)) (fun _ _ => rfl)) rfl) (pe_slice sl_tup (pv 0) (po_some pe_int) po_none) (pe_tup pa_nil))), ?_⟩
    obtain ⟨p, y, its, rfl, hp, hrs⟩ := rows_look d hd
    obtain ⟨tk, hk⟩ := hk _ (form_in d)
    have hsl := line4
    refine ⟨_, rfl, p, _, 0, _, rfl, rfl, hp, at0 _ _, dF, _, .str (formOf d), rfl, rfl, ⟨es, n, _, kd.at_, kd.lit, hk, ⟨_, rfl⟩⟩, 114, formOf d, congrArg V.str c_r, rfl, _, rfl, ?_⟩
    rcases hrs with ⟨e, hrs⟩ | ⟨e, hrs⟩
    · rw [e]
      refine iteT ?_
      refine ⟨_, rfl, _, rfl, p, _, rfl, hp, ?_, fun q nq => ?_⟩
      · rintro ⟨h0, _⟩
        have e : HT.sIx (its.length + 1 + 1) 0 (some 2) = 2 := by
          show min 2 (its.length + 1 + 1) = 2
          omega
        rw [List.length_cons, List.length_cons, e] at h0
        cases h0
      rw [cut2]
      exact k q its _ (Same.new nq) (SqT.of upd_same) (hrs.kt (KT.of (Same.new nq)))
    · rw [e]
      refine iteF ?_
      refine ⟨Nat.zero_le _, fun q nq => ?_⟩
      exact k q [] _ (Same.new nq) (SqT.of upd_same) (by rw [hrs]; exact .nil)
end
end Js

set_option Elab.async false
set_option linter.all false
set_option maxRecDepth 100000
set_option maxHeartbeats 2000000
namespace Js
open PySem L2
abbrev sLook : Stmt := top 28
def manyL : List (List Dd) → Nat
  | [] => 0
  | r :: rs => manyR r + manyL rs
def endsL : List (List Dd) → Nat → List Nat
  | [], _ => []
  | r :: rs, n => endsR r n ++ endsL rs (n + manyR r)
def deepL : List (List Dd) → Nat
  | [] => 0
  | r :: rs => max (deepR r) (deepL rs)
theorem many_rows : ∀ d : Dd, d.many = manyL d.rows + 1
  | .told _ _ => rfl
  | .take _ _ _ => rfl
  | .two _ _ _ _ => rfl
  | .wh a r => by rw [many_wh, Dd.rows, manyL, manyL, Nat.add_zero]
  | .iff a r o => by rw [many_iff]; simp only [Dd.rows, manyL]; omega
theorem ends_rows : ∀ (d : Dd) (n : Nat), d.ends n = (n + d.many) :: endsL d.rows (n + 1)
  | .told _ _, _ => rfl
  | .take _ _ _, _ => rfl
  | .two _ _ _ _, _ => rfl
  | .wh a r, n => by
    rw [Dd.ends, many_wh, Dd.rows, endsL, endsL, List.append_nil, Nat.add_assoc n, Nat.add_comm 1]
  | .iff a r o, n => by
    rw [Dd.ends, many_iff, Dd.rows, endsL, endsL, endsL, List.append_nil]
    congr 1
    omega
theorem deep_rows : ∀ (d : Dd), d.rows ≠ [] → d.deep = deepL d.rows + 1
  | .told _ _, h => absurd rfl h
  | .take _ _ _, h => absurd rfl h
  | .two _ _ _ _, h => absurd rfl h
  | .wh a r, _ => by rw [Dd.deep, Dd.rows, deepL, deepL, Nat.max_eq_left (Nat.zero_le _)]
  | .iff a r o, _ => by rw [Dd.deep, Dd.rows, deepL, deepL, deepL, Nat.max_eq_left (Nat.zero_le _)]
theorem endsL_len : ∀ (rs : List (List Dd)) (n : Nat), (endsL rs n).length = manyL rs
  | [], _ => rfl
  | r :: rs, n => by rw [endsL, List.length_append, endsR_len, endsL_len rs, manyL]
theorem manyR_app : ∀ (a b : List Dd), manyR (a ++ b) = manyR a + manyR b
  | [], b => by rw [List.nil_append, many_nil, Nat.zero_add]
  | d :: a, b => by rw [List.cons_append, many_cons, many_cons, manyR_app a b]; omega
theorem endsR_app : ∀ (a b : List Dd) (n : Nat), endsR (a ++ b) n = endsR a n ++ endsR b (n + manyR a)
  | [], b, n => by rw [List.nil_append, many_nil, endsR, List.nil_append, Nat.add_zero]
  | d :: a, b, n => by rw [List.cons_append, endsR, endsR_app a b, endsR, many_cons, List.append_assoc, Nat.add_assoc]
theorem manyL_app : ∀ (a b : List (List Dd)), manyL (a ++ b) = manyL a + manyL b
  | [], b => by rw [List.nil_append, manyL, Nat.zero_add]
  | r :: a, b => by rw [List.cons_append, manyL, manyL, manyL_app a b]; omega
theorem endsL_app : ∀ (a b : List (List Dd)) (n : Nat), endsL (a ++ b) n = endsL a n ++ endsL b (n + manyL a)
  | [], b, n => by rw [List.nil_append, manyL, endsL, List.nil_append, Nat.add_zero]
  | r :: a, b, n => by rw [List.cons_append, endsL, endsL_app a b, endsL, manyL, List.append_assoc, Nat.add_assoc]
theorem manyR_one (d : Dd) : manyR [d] = d.many := by rw [many_cons, many_nil, Nat.add_zero]
theorem endsR_one (d : Dd) (n : Nat) : endsR [d] n = d.ends n := by rw [endsR, endsR, List.append_nil]
theorem manyL_one (r : List Dd) : manyL [r] = manyR r := by rw [manyL, manyL, Nat.add_zero]
theorem endsL_one (r : List Dd) (n : Nat) : endsL [r] n = endsR r n := by rw [endsL, endsL, List.append_nil]
theorem deepR_mem : ∀ (r : List Dd) (d : Dd), d ∈ r → d.deep ≤ deepR r
  | e :: r, d, h => by
    rw [deepR]
    rcases List.mem_cons.mp h with rfl | h
    · exact Nat.le_max_left _ _
    · exact Nat.le_trans (deepR_mem r d h) (Nat.le_max_right _ _)
theorem deepL_mem : ∀ (rs : List (List Dd)) (r : List Dd), r ∈ rs → deepR r ≤ deepL rs
  | e :: rs, r, h => by
    rw [deepL]
    rcases List.mem_cons.mp h with rfl | h
    · exact Nat.le_max_left _ _
    · exact Nat.le_trans (deepL_mem rs r h) (Nat.le_max_right _ _)
theorem manyL_take : ∀ (rs : List (List Dd)) (j : Nat) (r : List Dd), rs[j]? = some r → manyL (rs.take j) + manyR r ≤ manyL rs
  | e :: rs, 0, r, h => by
    cases Option.some.inj h
    simp only [List.take_zero, manyL]
    omega
  | e :: rs, j + 1, r, h => by
    have := manyL_take rs j r h
    simp only [List.take_succ_cons, manyL]
    omega
theorem manyR_take : ∀ (rs : List Dd) (j : Nat) (r : Dd), rs[j]? = some r → manyR (rs.take j) + r.many ≤ manyR rs
  | e :: rs, 0, r, h => by
    cases Option.some.inj h
    rw [List.take_zero, many_nil, many_cons]
    omega
  | e :: rs, j + 1, r, h => by
    have := manyR_take rs j r h
    rw [List.take_succ_cons, many_cons, many_cons]
    omega
theorem take_snoc {α : Type} {l : List α} {i : Nat} {x : α} (h : l[i]? = some x) : l.take (i + 1) = l.take i ++ [x] := by
  obtain ⟨hi, e⟩ := List.getElem?_eq_some_iff.mp h
  rw [List.take_succ_eq_append_getElem hi, e]
def numsV (ns : List Nat) : List V := ns.map fun n => .int (n : Nat)
theorem ixN_at (n k : Nat) (h : k < n) : ixN n ((k : Nat) : Int) = some k := by
  unfold ixN
  rw [if_pos (by omega), if_pos (by omega), Int.toNat_natCast]
theorem numsV_len (ns : List Nat) : (numsV ns).length = ns.length := by rw [numsV, List.length_map]
theorem numsV_app (a b : List Nat) : numsV (a ++ b) = numsV a ++ numsV b := by rw [numsV, List.map_append]; rfl
/-- right rows, fewer than n floors -/
def spLook (K : PySem.W.Frag) (C : Addr) (n : Nat) : Sp := fun vs H Q _ => ∃ (q e : Addr) (f : Nat) (r : List Dd) (es : List Nat), vs = [.ref q, .int (f : Nat), .ref e] ∧ RAt K C H q r ∧ deepR r < n ∧ f + deepR r ≤ 8 ∧ H e = some (.lst (numsV es)) ∧ es.length + manyR r ≤ 4000 ∧
  ∀ H', KB e H H' → H' e = some (.lst (numsV (es ++ endsR r es.length))) → Q .non H'
section
variable {P : Program} {w : World} {K : PySem.W.Frag} {mg : Str → Option Value} {base : Heap} {C : Addr}
theorem scLk : FnScope ["row", "floors", "ends", "deed", "place", "inner", "part"] ["row", "floors", "ends"] (defScope sLook) := ⟨rfl, rfl, rfl, by decide +kernel, rfl, by decide +kernel, by decide +kernel⟩
theorem ok_look {f : Addr} {fd : FuncData} (F : Fun K "look_through" "look_through" sLook f fd) (mgf : mg "look_through" = some (.ref f)) (b : Binds K fd ["row", "floors", "ends"] []) (B : Blt mg) (T : Txt K mg C) (G : FrmC K w mg)
    (DH : Def P w K mg base "has_form" 3 ["deed"] (spHasForm K C)) (DR : Def P w K mg base "rows_in" 1 ["deed"] (spRowsIn K C)) : ∀ n, FnOk P w K mg base CX0 (n + 4) f fd ["row", "floors", "ends"] (spLook K C n) := by
  obtain ⟨t1, mD⟩ := G.mD
  obtain ⟨t2, mFl⟩ := G.mF
  intro n
  induction n with
  | zero =>
    refine F.ok scLk (fun vs H Q E h => ?_) (fun cdv A outer s H vs Q E hr h => ?_)
    · obtain ⟨q, e, f, r, es, rfl, _⟩ := h
      rfl
    · obtain ⟨q, e, f, r, es, _, _, h, _⟩ := h
      exact absurd h (Nat.not_lt_zero _)
  | succ n G' =>
  refine F.ok scLk (fun vs H Q E h => ?_) (fun cdv A outer s H vs Q E hr h => ?_)
  · obtain ⟨q, e, f, r, es, rfl, _⟩ := h
    rfl
  · obtain ⟨q, e, f, r, es, rfl, ⟨vs, hq, hvs⟩, hdp, hfl, he, hmany, k⟩ := h
    have hr1 : Room 1 _ := hr.mono (by omega)
    have hr3 : Room 3 _ := hr.mono (by omega)
    refine ⟨_, PSs.nox (pss_one (ps_for PassesOwn.never rfl (pi_tup (pv 0)) (pg_name (i := 3) scLk.nd rfl (Or.inl rfl)) (pss_cons (ps_set (i := 4) scLk.nd rfl (Or.inl rfl) (pe_callB call_len_seq (by rfl) B.len PySem.boot_len (pa_cons (pv 2) pa_nil))) (pss_cons (ps_if (PW.pt (pw_or (pt_cmpR op_eq (pv 4) (pe_glob (v := .int 4000) rfl mD ⟨_, rfl⟩) (nomark _)) (pw_or1 (pt_not (pt_val (pe_def DH hr3 rfl (pa_cons (pv 3) pa_nil))))))) (pss_one ps_never) pss_nil) (pss_cons (ps_set (i := 5) scLk.nd rfl (Or.inl rfl) (pe_def DR hr1 rfl (pa_cons (pv 3) pa_nil))) (pss_cons (ps_if (PW.pt (pw_and (pt_truth (pv 5) (by intro _; rfl)) (pw_and1 (pt_cmpR op_eq (pv 1) (pe_glob (v := .int 8) rfl mFl ⟨_, rfl⟩) (nomark _))))) (pss_one ps_never) pss_nil) (pss_cons (ps_expr (pe_bm PySem.F.plainAttrs_list PySem.F.slot_list_append PySem.F.type_list_append mt_append (pv 2) (pa_cons (pe_op op_add (pv 4) pe_int) pa_nil))) (pss_cons (ps_for PassesOwn.never rfl (pi_tup (pv 5)) (pg_name (i := 6) scLk.nd rfl (Or.inl rfl)) (pss_one (ps_expr (pe_call G' hr rfl mgf F.kp b .nil pass0 (pa_cons (pv 6) (pa_cons (pe_op op_add (pv 1) pe_int) (pa_cons (pv 2) pa_nil))))))) (pss_one (ps_asg (pe_callB call_len_seq (by rfl) B.len PySem.boot_len (pa_cons (pv 2) pa_nil)) (pg_sub (pv 2) (pv 4) set_list))))))))))), ?_⟩
    have hsl := line4
    have hlen := DsAt.length r vs hvs
    refine ⟨_, rfl, q, rfl, ⟨_, hq⟩, for_tup (K := K) (a := q) (xs := vs) (fun i σ H' => ∃ x3 x4 x5 x6 : Option V, σ = [some (.ref q), some (.int (f : Nat)), some (.ref e), x3, x4, x5, x6] ∧ KB e H H' ∧ H' e = some (.lst (numsV (es ++ endsR (r.take i) es.length)))) ⟨none, none, none, none, rfl, KB.refl e H, by simpa [endsR] using he⟩ ?_ ?_ ?_⟩
    · rintro i σ H1 _ ⟨x3, x4, x5, x6, rfl, kb1, he1⟩
      exact sqt_kt (kb1.kt he) hq
    · rintro i v σ H1 hv ⟨x3, x4, x5, x6, rfl, kb1, he1⟩
      obtain ⟨d, hd, hdv⟩ := DsAt.get r vs i v hvs hv
      have hdm := List.mem_of_getElem? hd
      have hdd := deepR_mem r d hdm
      have hmt := manyR_take r i d hd
      have hpos := many_pos d
      have hdv1 := DAt_kt (kb1.kt he) d v hdv
      obtain ⟨pl, hpl⟩ : ∃ pl, es.length + manyR (r.take i) = pl := ⟨_, rfl⟩
      have hl1 : (numsV (es ++ endsR (r.take i) es.length)).length = pl := by rw [numsV_len, List.length_append, endsR_len, hpl]
      refine ⟨_, rfl, e, _, rfl, .inl (SqL.of he1), ?_⟩
      rw [hl1]
      refine ⟨_, rfl, rfl, _, rfl, ?_⟩
      have e0 : decide (V.int ((pl : Nat) : Int) = V.int 4000) = false := by
        simp only [decide_eq_false_iff_not, V.int.injEq]
        omega
      rw [e0]
      refine iteF ?_
      refine ⟨_, rfl, v, d, rfl, hdv1, fun H2 s2 => ⟨_, rfl, iteF ?_⟩⟩
      have hdv2 := DAt_kt (KT.of s2) d v hdv1
      refine ⟨_, rfl, v, d, rfl, hdv2, fun ip ws H3 s3 hip hws => ?_⟩
      have hwl := Paired.length hws
      refine ⟨_, rfl, !ws.isEmpty, .inr (.inl ⟨ws, hip, rfl⟩), ?_⟩
      have hrows : ∀ {Z : Prop}, Z → Z := fun z => z
      have step2 : ∀ (R : Bool → Hp → Prop), R false H3 → (if (!ws.isEmpty) = true then (tTest (tOp rEq (tVar 1) (tC (.int 8)))) [some (.ref q), some (.int (f : Nat)), some (.ref e), some v, some (.int ((pl : Nat) : Int)), some (.ref ip), x6] H3 R else R false H3) := by
        intro R hR
        cases hw : ws with
        | nil => exact iteF hR
        | cons w0 wr =>
          refine iteT ?_
          refine ⟨_, rfl, rfl, _, rfl, ?_⟩
          have hne : d.rows ≠ [] := fun z => by
            rw [z, hw] at hwl
            cases hwl
          have := deep_rows d hne
          have e1 : decide (V.int ((f : Nat) : Int) = V.int 8) = false := by
            simp only [decide_eq_false_iff_not, V.int.injEq]
            omega
          rw [e1]
          exact hR
      refine step2 _ ?_
      refine iteF ?_
      have he3 := s3 _ _ (s2 _ _ he1)
      obtain ⟨as, has⟩ : ∃ as, es ++ endsR (r.take i) es.length = as := ⟨_, rfl⟩
      rw [has] at he3 hl1
      rw [numsV_len] at hl1
      have hmr := many_rows d
      refine ⟨_, rfl, .inl ⟨rfl, _, SqL.of he3⟩, _, rfl, _, _, rfl, rfl, e, _, _, rfl, rfl, he3, by rw [numsV_len]; omega, ?_⟩
      have kb3 : KB e H H3 := (kb1.trans (KB.of s2)).trans (KB.of s3)
      have e4 : numsV as ++ [V.int (((pl : Nat) : Int) + 1)] = numsV (as ++ [pl + 1]) := by
        rw [numsV_app]
        rfl
      rw [e4]
      have he4 : (upd H3 e (.lst (numsV (as ++ [pl + 1])))) e = some (.lst (numsV (as ++ [pl + 1]))) := upd_same
      have kb4 : KB e H3 (upd H3 e (.lst (numsV (as ++ [pl + 1])))) := KB.set
      revert he4 kb4
      generalize upd H3 e (.lst (numsV (as ++ [pl + 1]))) = H4
      intro he4 kb4
      have kt4 : KT H3 H4 := kb4.kt he3
      refine ⟨_, rfl, ip, rfl, ⟨_, sqt_kt kt4 hip⟩, for_tup (K := K) (a := ip) (xs := ws) (fun j σ H' => ∃ x6 : Option V, σ = [some (.ref q), some (.int (f : Nat)), some (.ref e), some v, some (.int ((pl : Nat) : Int)), some (.ref ip), x6] ∧ KB e H4 H' ∧ H' e = some (.lst (numsV (as ++ [pl + 1] ++ endsL (d.rows.take j) (pl + 1))))) ⟨_, rfl, KB.refl e H4, by simpa [endsL] using he4⟩ ?_ ?_ ?_⟩
      · rintro j σ H5 _ ⟨x6, rfl, kb5, he5⟩
        exact sqt_kt (kb5.kt he4) (sqt_kt kt4 hip)
      · rintro j v6 σ H5 hv6 ⟨x6, rfl, kb5, he5⟩
        obtain ⟨r6, hr6, q6, rfl, hq6⟩ := paired_get hws hv6
        have hml := manyL_take d.rows j r6 hr6
        have hdl := deepL_mem d.rows r6 (List.mem_of_getElem? hr6)
        have hne : d.rows ≠ [] := fun z => by
          rw [z] at hr6
          cases hr6
        have hdr := deep_rows d hne
        have l5 : (as ++ [pl + 1] ++ endsL (d.rows.take j) (pl + 1)).length = pl + 1 + manyL (d.rows.take j) := by
          rw [List.length_append, List.length_append, endsL_len, hl1]
          rfl
        refine ⟨_, rfl, _, rfl, _, _, rfl, rfl, _, rfl, q6, e, f + 1, r6, _, rfl, (hq6.kt kt4).kt (kb5.kt he4), by omega, by omega, he5, by omega, fun H6 kb6 he6 => ?_⟩
        refine ⟨_, rfl, kb5.trans kb6, ?_⟩
        rw [he6, take_snoc hr6, endsL_app, endsL_one, l5, List.append_assoc (as ++ [pl + 1])]
      · rintro σ H5 ⟨x6, rfl, kb5, he5⟩
        rw [hwl, List.take_length] at he5
        have l5 : (as ++ [pl + 1] ++ endsL d.rows (pl + 1)).length = pl + d.many := by
          rw [List.length_append, List.length_append, endsL_len, hl1, hmr]
          simp only [List.length_cons, List.length_nil]
          omega
        refine ⟨_, rfl, e, _, rfl, .inl (SqL.of he5), ?_⟩
        rw [numsV_len, l5]
        refine ⟨_, rfl, _, rfl, e, _, _, pl, rfl, rfl, he5, ?_, ?_⟩
        · rw [numsV_len, l5]
          exact ixN_at _ _ (by omega)
        · have es5 : (numsV (as ++ [pl + 1] ++ endsL d.rows (pl + 1))).set pl (V.int (((pl + d.many : Nat)) : Int)) = numsV (es ++ endsR (r.take (i + 1)) es.length) := by
            rw [take_snoc hd, endsR_app, endsR_one, ends_rows, ← List.append_assoc, has, hpl, List.append_assoc, numsV_app, numsV_app]
            rw [List.set_append_right _ _ (by rw [numsV_len, hl1]; exact Nat.le_refl _), numsV_len, hl1, Nat.sub_self, numsV_app]
            rfl
          refine ⟨_, _, _, _, rfl, ((kb3.trans kb4).trans kb5).trans KB.set, ?_⟩
          rw [upd_same, ← es5]
    · rintro σ H1 ⟨x3, x4, x5, x6, rfl, kb1, he1⟩
      rw [hlen, List.take_length] at he1
      exact k H1 kb1 he1
end
end Js

set_option Elab.async false
set_option linter.all false
set_option maxRecDepth 100000
set_option maxHeartbeats 2000000
/-! for i, x in enumerate(tuple) -/
namespace JsZ
open PySem PySem.Spec PyProof.Rows L2
abbrev ht1 (h : Heap) (l : Addr) : Heap := h.push { cls := .type "tuple_iterator", data := .fields #[.ref l, .int 0 0] }
abbrev ht2 (h : Heap) (l : Addr) : Heap := (ht1 h l).push { cls := .type "enumerate", data := .fields #[.none, .bool false, .ref h.objs.size, rawInt 0, .none, .none] }
theorem new_enumT (l : Addr) (us : Array Value) :
    Meets (Builtin.«enumerate.__new__» ⟨[.type "enumerate", .ref l], []⟩) (fun _ R s => s.heap.IsTuple l us ∧ R (.ok (.ret (.ref (ht1 s.heap l).objs.size))) { s with heap := ht2 s.heap l }) :=
  .of_wp fun prog w A R s h => by
    obtain ⟨hp, g, d, tk, os⟩ := s; obtain ⟨h1, h⟩ := h
    have hsub := sub_enumerate
    have hL : Heap.IsTuple (Shared.heap ⟨hp, g, d, tk, os⟩) l us := h1
    wp_walk
    refine wpAny_stack_any fun st => wpAny_pure ?_
    split
    · rename_i c _ _ _ _ _
      cases (c == Value.type "enumerate")
      · wp_walk using wpAny_pyIter_tuple hL
        exact ⟨_, rfl, h⟩
      · wp_walk using wpAny_pyIter_tuple hL
        exact ⟨_, rfl, h⟩
    · wp_walk using wpAny_pyIter_tuple hL
      exact ⟨_, rfl, h⟩
section
variable {prog : Program} {w : World} {A : Around} {E : Value → Shared → Prop} {s : Shared}
theorem call_enumT {l : Addr} {us : Array Value} {Q : Value → Shared → Prop} (hL : s.heap.IsTuple l us)
    (h : ∀ h', IsEnum h' (s.heap.objs.size + 1) s.heap.objs.size 0 .none → h'.IsTupleIter s.heap.objs.size l 0 → h'.objs.size = s.heap.objs.size + 2 → (∀ b o, s.heap.get? b = some o → h'.get? b = some o) → Q (.ref (s.heap.objs.size + 1)) { s with heap := h' }) :
    wpAny (model prog w) A (call (.type "enumerate") [.ref l]) Q E s := by
  refine callType_new F.called_enumerate (by decide) (F.typeCall_enumerate_1 _) (F.newCall_enumerate_1 _) (fun obj => F.args_object_init_2 obj _) F.entry_enumerate_new (new_enumT l us) ⟨hL, ?_⟩
  have hz : (ht1 s.heap l).objs.size = s.heap.objs.size + 1 := Heap.size_push ..
  show _ ∧ _
  rw [hz]
  have he : IsEnum (ht2 s.heap l) (s.heap.objs.size + 1) s.heap.objs.size 0 .none := by
    have := Heap.get?_push_size (ht1 s.heap l) (o := { cls := .type "enumerate", data := .fields #[.none, .bool false, .ref s.heap.objs.size, rawInt 0, .none, .none] }) rfl
    rw [hz] at this
    exact this
  refine ⟨⟨_, he, rfl⟩, h _ he ⟨_, Heap.get?_push_of_some _ (Heap.get?_push_size _ rfl), rfl, rfl⟩ (by rw [Heap.size_push, hz]) fun b o q => Heap.get?_push_of_some _ (Heap.get?_push_of_some _ q)⟩
end
/-- the tuple at a as it stands at each turn, numbered -/
def ItE (K : PySem.W.Frag) (a : Addr) : It :=
  ⟨fun i H => ∃ (xs : List V) (x : V), SqT K H a xs ∧ xs[i]? = some x,
    fun i H v H' => ∃ T x, v = .ref T ∧ H T = none ∧ H' = upd H T (.tup [.int (i : Nat), x]) ∧ ∀ xs, SqT K H a xs → xs[i]? = some x,
    fun i H => ∃ xs : List V, SqT K H a xs ∧ i = xs.length⟩
theorem turn_E {P : Program} {w : World} {K : PySem.W.Frag} {elts : List Expr} {kk : Nat} {tpos : Pos} (a e it : Addr) (ha : a ≠ it) (hea : e ≠ a) :
    Turn P w K (.Tuple elts kk tpos) (ItE K a) [e, it] e (fun i h => (∃ old, IsEnum h e it ((i : Nat) : Int) old) ∧ h.IsTupleIter it a i ∧ e ≠ it) where
  mem := by simp
  obj := fun i h st b hb => by
    obtain ⟨⟨old, he⟩, ⟨o, ho, hc, hd⟩, _⟩ := st
    have e' : b = e ∨ b = it := by simpa using hb
    rcases e' with z | z
    · rw [z]; exact ⟨_, he, fun v q => nomatch q⟩
    · rw [z]; exact ⟨o, ho, fun v q => by rw [hd] at q; cases q⟩
  keep := fun i h h' st k => let ⟨⟨old, he⟩, hi, hne⟩ := st; ⟨⟨old, k e (by simp) _ he⟩, hi.at fun o q => k it (by simp) o q, hne⟩
  item := by
    intro X hP hw hK hc i pins s σ H E I hf st hg
    subst hP hw hK
    obtain ⟨⟨old, he⟩, hit, hne⟩ := st
    obtain ⟨xs, x, hqx, hx⟩ := hg
    obtain ⟨us, rv, p, _⟩ := I.tuple hqx
    obtain ⟨u, hu, ru⟩ := rv.get hx
    have hel : e < s.heap.objs.size := Heap.lt_size he
    have hil : it < s.heap.objs.size := by obtain ⟨_, q, _⟩ := hit; exact Heap.lt_size q
    have hh : X.A.in1.handled = none := I.ok.hd hc
    have li : i < us.toArray.size := by
      have := (List.getElem?_eq_some_iff.mp hu).1
      simpa using this
    refine wpAny_pyNext_enum_itemD (Draws.tuple hh it a ha us.toArray) he ⟨hit, p⟩ li hne (by simp [hne, hea]) fun v h' tk hPx ho hit' hT hsz hk => ?_
    have ev : v = u := by
      have : us.toArray[i]? = some u := by simpa using hu
      exact Option.some.inj (hPx.symm.trans this)
    subst ev
    refine ⟨_, rfl, wpAny_letOwnedTupleGo_enum (s := { s with heap := h', toks := tk + 1 }) ho fun h'' he' sb => ?_⟩
    have hT2 : h''.get? s.heap.objs.size = some { cls := .type "tuple", data := .seq #[.int i tk, v] } := (sb.2 _ (Nat.ne_of_gt hel)).trans hT
    have new : ObjOk X.prog X.w (upd H s.heap.objs.size (.tup [.int (i : Nat), x])) h'' s.heap.objs.size (.tup [.int (i : Nat), x]) := ⟨by show 2 ≤ sizeLine; decide, [.int i tk, v], .cons ⟨_, rfl⟩ (.cons ru .nil), ⟨_, hT2, rfl, _, rfl⟩⟩
    have I1 : Inv X pins σ (upd H s.heap.objs.size (.tup [.int (i : Nat), x])) { s with heap := h'', toks := tk + 1 } :=
      I.turnedNew (ch := [e, it]) (fun b ob hb q => (sb.2 b (fun z => hb (by simp [z]))).trans (hk b ob (fun z => hb (by simp [z])) (fun z => hb (by simp [z])) q)) hf (Nat.le_refl _) new
    refine ⟨.ref s.heap.objs.size, _, I1, rfl, ⟨_, x, rfl, I.hok.fresh (Nat.le_refl _), rfl, fun l hl => by rw [I.tuple_inj hl hqx]; exact hx⟩, ⟨⟨v, ?_⟩, ?_, hne⟩, fun b hb => ?_⟩
    · have e1 : ((i + 1 : Nat) : Int) = (i : Int) + 1 := by omega
      rw [e1]; exact he'
    · exact hit'.1.at fun o q => (sb.2 it (Ne.symm hne)).trans q
    · have hb' : b < s.heap.objs.size := by
        have e' : b = e ∨ b = it := by simpa using hb
        rcases e' with z | z
        · rw [z]; exact hel
        · rw [z]; exact hil
      rw [upd_ne (Nat.ne_of_lt hb')]
      exact (hf b hb).1
  done := by
    intro X hP hw hK hc i pins s σ H E I hf st hg
    subst hP hw hK
    obtain ⟨⟨old, he⟩, hit, hne⟩ := st
    obtain ⟨xs, hqx, rfl⟩ := hg
    obtain ⟨us, rv, p, _⟩ := I.tuple hqx
    obtain ⟨f0, f1, f2, f3, f4, f5⟩ := hf it (by simp)
    have hh : X.A.in1.handled = none := I.ok.hd hc
    have lu : us.toArray.size = xs.length := by rw [List.size_toArray, ← rv.length]
    exact wpAny_pyNext_enum_endD (Draws.tuple hh it a ha us.toArray) he (by rw [lu]; exact ⟨hit, p⟩) fun h' eb => ⟨rfl, I.turned (t' := s.toks) (fun b o hb q => eb b o hb q) f0 f1 f3 f4 f5⟩
  self := fun A i s Q E st h => let ⟨⟨_, he⟩, _⟩ := st; wpAny_pyIter_enum he h
end JsZ
namespace L2
open PySem PySem.Spec PyProof.Rows
def iEnumT (K : PySem.W.Frag) (ta : TA) : TI := fun σ H R => ta σ H fun vs H1 => ∃ a xs, vs = [.ref a] ∧ SqT K H1 a xs ∧ R (JsZ.ItE K a) H1
theorem pi_enumT {X : Cx} {e : Expr} {ta : TA} {p pos tpos : Pos} {elts : List Expr} {kk : Nat} (hg : Gl X "enumerate") (hm : X.mg "enumerate" = none) (ha : PA X [e] ta) (hs : starEach [e] X.env = [(false, eval e X.env)] := by rfl) :
    PI X (.Tuple elts kk tpos) (.Call (.Name "enumerate" p) [e] [] pos) (iEnumT X.K ta) := by
  refine ⟨fun pins s σ H R I h => ?_⟩
  refine Call_ (ld_blt I hg hm boot_enumerate (PyProof.Rows.callWith_type1 (thn (ha.run pos pins s σ H _ I h) fun us s1 ⟨vs, H1, I1, r1, q1⟩ => ?_) hs rfl))
  obtain ⟨a, xs, ex, hqx, q⟩ := q1
  subst ex
  obtain ⟨u, rfl, ru⟩ := vals1 r1
  cases (show u = Value.ref a from ru)
  obtain ⟨its, rv, p1, _⟩ := I1.tuple hqx
  obtain ⟨o1, ho1, _⟩ := id p1
  have la := Heap.lt_size ho1
  refine JsZ.call_enumT p1 fun h' he hit hsz hk => wpAny_pyIter_enum he ?_
  have I2 : Inv X pins σ H1 { s1 with heap := h' } := I1.kept (t' := s1.toks) hk
  refine ⟨s1.heap.objs.size + 1, [s1.heap.objs.size + 1, s1.heap.objs.size], _, _, H1, rfl, I2, JsZ.turn_E a (s1.heap.objs.size + 1) s1.heap.objs.size (Nat.ne_of_lt la) (fun z => absurd la (by rw [← z]; exact Nat.not_lt.mpr (Nat.le_succ _))), ⟨⟨.none, he⟩, hit, Nat.succ_ne_self _⟩, fun b hb => ?_, q⟩
  have e' : b = s1.heap.objs.size + 1 ∨ b = s1.heap.objs.size := by simpa using hb
  have hle : s1.heap.objs.size ≤ b := by
    rcases e' with z | z
    · rw [z]; exact Nat.le_add_right _ _
    · rw [z]; exact Nat.le_refl _
  exact I1.fpOk hle (I1.hok.fresh hle)
theorem walk_enumT {K : PySem.W.Frag} {a : Addr} {xs : List V} : Walk (JsZ.ItE K a) xs.length (fun H => SqT K H a xs) (fun i H v H' => ∃ T x, v = .ref T ∧ H T = none ∧ H' = upd H T (.tup [.int (i : Nat), x]) ∧ xs[i]? = some x) :=
  ⟨fun i H hi hq => ⟨xs, xs[i], hq, List.getElem?_eq_getElem hi⟩, fun H hq => ⟨xs, hq, rfl⟩, fun i H v H' hi hq y => by
      obtain ⟨T, x, e1, e2, e3, e4⟩ := y
      exact ⟨T, x, e1, e2, e3, e4 xs hq⟩⟩
end L2

set_option Elab.async false
set_option linter.all false
set_option maxRecDepth 100000
set_option maxHeartbeats 2000000
namespace Js
open PySem L2
abbrev sLay : Stmt := top 29
def Dd.isW : Dd → Bool
  | .wh _ _ => true
  | _ => false
def Dd.isF : Dd → Bool
  | .iff _ _ _ => true
  | _ => false
theorem kind_w : ∀ d : Dd, decide (V.str (kindOf d) = V.str "while") = d.isW
  | .told _ _ => (by decide +kernel : decide (V.str (("told" : Str)) = V.str "while") = false)
  | .take false _ _ => (by decide +kernel : decide (V.str (("first" : Str)) = V.str "while") = false)
  | .take true _ _ => (by decide +kernel : decide (V.str (("second" : Str)) = V.str "while") = false)
  | .two false _ _ _ => (by decide +kernel : decide (V.str (("pair" : Str)) = V.str "while") = false)
  | .two true _ _ _ => (by decide +kernel : decide (V.str (("same" : Str)) = V.str "while") = false)
  | .wh _ _ => (by decide +kernel : decide (V.str (("while" : Str)) = V.str "while") = true)
  | .iff _ _ _ => (by decide +kernel : decide (V.str (("if" : Str)) = V.str "while") = false)
theorem kind_f : ∀ d : Dd, (!decide (V.str (kindOf d) = V.str "if")) = !d.isF
  | .told _ _ => (by decide +kernel : (!decide (V.str (("told" : Str)) = V.str "if")) = true)
  | .take false _ _ => (by decide +kernel : (!decide (V.str (("first" : Str)) = V.str "if")) = true)
  | .take true _ _ => (by decide +kernel : (!decide (V.str (("second" : Str)) = V.str "if")) = true)
  | .two false _ _ _ => (by decide +kernel : (!decide (V.str (("pair" : Str)) = V.str "if")) = true)
  | .two true _ _ _ => (by decide +kernel : (!decide (V.str (("same" : Str)) = V.str "if")) = true)
  | .wh _ _ => (by decide +kernel : (!decide (V.str (("while" : Str)) = V.str "if")) = true)
  | .iff _ _ _ => (by decide +kernel : (!decide (V.str (("if" : Str)) = V.str "if")) = false)
def wayL : List (List Dd) → Nat → Nat → List Nat
  | [], _, _ => []
  | r :: rs, b, n => (if r.isEmpty then b else n) :: wayL rs b (n + manyR r)
def layL : List (List Dd) → Nat → Nat → List (Dd × List Nat)
  | [], _, _ => []
  | r :: rs, b, n => layR r b n ++ layL rs b (n + manyR r)
def Dd.back (d : Dd) (f n : Nat) : Nat := if d.isW then n else f
def Dd.ways (d : Dd) (f n : Nat) : List Nat := wayL d.rows (d.back f n) (n + 1) ++ (if d.isF then [] else [f])
theorem lay_rows : ∀ (d : Dd) (f n : Nat), d.lay f n = (d, d.ways f n) :: layL d.rows (d.back f n) (n + 1)
  | .told _ _, _, _ => rfl
  | .take _ _ _, _, _ => rfl
  | .two _ _ _ _, _, _ => rfl
  | .wh a r, f, n => by
    rw [Dd.lay]
    simp [Dd.ways, Dd.back, Dd.isW, Dd.isF, Dd.rows, wayL, layL]
  | .iff a r o, f, n => by
    rw [Dd.lay]
    simp [Dd.ways, Dd.back, Dd.isW, Dd.isF, Dd.rows, wayL, layL]
theorem layL_len : ∀ (rs : List (List Dd)) (b n : Nat), (layL rs b n).length = manyL rs
  | [], _, _ => rfl
  | r :: rs, b, n => by rw [layL, List.length_append, layR_len, layL_len rs, manyL]
theorem layL_app : ∀ (a c : List (List Dd)) (b n : Nat), layL (a ++ c) b n = layL a b n ++ layL c b (n + manyL a)
  | [], c, b, n => by rw [List.nil_append, manyL, layL, List.nil_append, Nat.add_zero]
  | r :: a, c, b, n => by rw [List.cons_append, layL, layL_app a c, layL, manyL, List.append_assoc, Nat.add_assoc]
theorem layL_one (r : List Dd) (b n : Nat) : layL [r] b n = layR r b n := by rw [layL, layL, List.append_nil]
theorem wayL_app : ∀ (a c : List (List Dd)) (b n : Nat), wayL (a ++ c) b n = wayL a b n ++ wayL c b (n + manyL a)
  | [], c, b, n => by rw [List.nil_append, manyL, wayL, List.nil_append, Nat.add_zero]
  | r :: a, c, b, n => by rw [List.cons_append, wayL, wayL_app a c, wayL, manyL, List.cons_append, Nat.add_assoc]
theorem wayL_one (r : List Dd) (b n : Nat) : wayL [r] b n = [if r.isEmpty then b else n] := rfl
theorem wayL_len : ∀ (rs : List (List Dd)) (b n : Nat), (wayL rs b n).length = rs.length
  | [], _, _ => rfl
  | r :: rs, b, n => by rw [wayL, List.length_cons, wayL_len rs, List.length_cons]
theorem take_over {α : Type} (L R : List α) (k m : Nat) (h : L.length = k) : (L ++ R).take (k + m) = L ++ R.take m := by
  subst h
  exact List.take_length_add_append m
theorem lay_step : ∀ (r : List Dd) (b n i : Nat) (d : Dd), r[i]? = some d →
    (layR r b n).take (manyR (r.take (i + 1))) = (layR r b n).take (manyR (r.take i)) ++ d.lay (if i + 1 < r.length then n + manyR (r.take i) + d.many else b) (n + manyR (r.take i))
  | e :: r, b, n, 0, d, h => by
    cases Option.some.inj h
    have t0 := take_over (e.lay (if r.isEmpty = true then b else n + e.many) n) (layR r b (n + e.many)) e.many 0 (lay_len _ _ _)
    rw [List.take_zero, List.append_nil] at t0
    show (layR (e :: r) b n).take (manyR [e]) = (layR (e :: r) b n).take 0 ++ e.lay (if 0 + 1 < (e :: r).length then n + 0 + e.many else b) (n + 0)
    rw [manyR_one, List.take_zero, List.nil_append, layR]
    refine t0.trans ?_
    cases r with
    | nil => rfl
    | cons x y =>
      rw [if_pos (show 0 + 1 < (e :: x :: y).length by simp only [List.length_cons]; omega)]
      rfl
  | e :: r, b, n, i + 1, d, h => by
    have ih := lay_step r b (n + e.many) i d h
    rw [List.take_succ_cons, List.take_succ_cons, many_cons, many_cons, layR, take_over _ _ _ _ (lay_len _ _ _), take_over _ _ _ _ (lay_len _ _ _), ih, List.append_assoc]
    have ec : (i + 1 + 1 < (e :: r).length) = (i + 1 < r.length) := by
      rw [List.length_cons]
      exact propext ⟨fun h => by omega, fun h => by omega⟩
    simp only [ec, Nat.add_assoc]
theorem seq_via {ta : TE} {g : TG} {rest : TS} {D : Ends} {σ : L2.St} {H : Hp} (v : V) (h : ∀ R : VK, R v H → ta σ H R) (k : g v σ H (rest D)) : tSeq (tAsg ta g) rest D σ H := h _ k
theorem via {T : VK → Prop} {K0 : VK} (v : V) (H : Hp) (h : ∀ R : VK, R v H → T R) (k : K0 v H) : T K0 := h K0 k
theorem ends_at : ∀ (r : List Dd) (n i : Nat) (d : Dd), r[i]? = some d → ∃ rest, endsR r n = endsR (r.take i) n ++ (d.ends (n + manyR (r.take i)) ++ rest)
  | e :: r, n, 0, d, h => by
    cases Option.some.inj h
    exact ⟨endsR r (n + e.many), by rw [List.take_zero, many_nil, endsR, endsR, List.nil_append, Nat.add_zero]⟩
  | e :: r, n, i + 1, d, h => by
    obtain ⟨rest, ih⟩ := ends_at r (n + e.many) i d h
    exact ⟨rest, by rw [List.take_succ_cons, many_cons, endsR, ih, endsR, List.append_assoc, Nat.add_assoc]⟩
theorem endsL_at : ∀ (rs : List (List Dd)) (n j : Nat) (r : List Dd), rs[j]? = some r → ∃ rest, endsL rs n = endsL (rs.take j) n ++ (endsR r (n + manyL (rs.take j)) ++ rest)
  | e :: rs, n, 0, r, h => by
    cases Option.some.inj h
    exact ⟨endsL rs (n + manyR e), by rw [List.take_zero, manyL, endsL, endsL, List.nil_append, Nat.add_zero]⟩
  | e :: rs, n, j + 1, r, h => by
    obtain ⟨rest, ih⟩ := endsL_at rs (n + manyR e) j r h
    exact ⟨rest, by rw [List.take_succ_cons, manyL, endsL, ih, endsL, List.append_assoc, Nat.add_assoc]⟩
/-- l stands in E from k on -/
def Pre (E : List Nat) (k : Nat) (l : List Nat) : Prop := ∀ i x, l[i]? = some x → E[k + i]? = some x
theorem Pre.right {E : List Nat} {k : Nat} {a b : List Nat} (h : Pre E k (a ++ b)) : Pre E (k + a.length) b := fun i x e => by
  have := h (a.length + i) x (by rw [List.getElem?_append_right (Nat.le_add_right _ _), Nat.add_sub_cancel_left]; exact e)
  rw [Nat.add_assoc]
  exact this
theorem Pre.left {E : List Nat} {k : Nat} {a b : List Nat} (h : Pre E k (a ++ b)) : Pre E k a := fun i x e => h i x (by
  rw [List.getElem?_append_left (List.getElem?_eq_some_iff.mp e).1]
  exact e)
theorem Pre.whole (E : List Nat) : Pre E 0 E := fun i x e => by
  rw [Nat.zero_add]
  exact e
/-- a deed in the plan, with its ways -/
def PlE (K : PySem.W.Frag) (C : Addr) (H : Hp) (v : V) (x : Dd × List Nat) : Prop := ∃ t wv dv, v = .ref t ∧ H t = some (.tup [dv, .ref wv]) ∧ H wv = some (.tup (numsV x.2)) ∧ DAt K C H dv x.1
theorem PlE.kt {K : PySem.W.Frag} {C : Addr} {H H' : Hp} (k : KT H H') {v : V} {x : Dd × List Nat} (h : PlE K C H v x) : PlE K C H' v x := by
  obtain ⟨t, wv, dv, e, h1, h2, h3⟩ := h
  exact ⟨t, wv, dv, e, k _ _ h1 (fun _ e => nomatch e), k _ _ h2 (fun _ e => nomatch e), DAt_kt k _ _ h3⟩
theorem pls_kt {K : PySem.W.Frag} {C : Addr} {H H' : Hp} (k : KT H H') : ∀ {ys : List V} {ps : List (Dd × List Nat)}, Paired (PlE K C H) ys ps → Paired (PlE K C H') ys ps
  | _, _, .nil => .nil
  | _, _, .cons h t => .cons (h.kt k) (pls_kt k t)
theorem paired_app {α β : Type} {R : α → β → Prop} : ∀ {xs : List α} {ys : List β} {xs' : List α} {ys' : List β}, Paired R xs ys → Paired R xs' ys' → Paired R (xs ++ xs') (ys ++ ys')
  | _, _, _, _, .nil, h => h
  | _, _, _, _, .cons h t, h' => .cons h (paired_app t h')
def spLay (K : PySem.W.Frag) (C : Addr) (n : Nat) : Sp := fun vs H Q _ => ∃ (q e p : Addr) (f : Nat) (r : List Dd) (E : List Nat) (xs : List V), vs = [.ref q, .int (f : Nat), .ref e, .ref p] ∧ RAt K C H q r ∧ deepR r < n ∧ H e = some (.lst (numsV E)) ∧ Pre E xs.length (endsR r xs.length) ∧
  H p = some (.lst xs) ∧ e ≠ p ∧ xs.length + manyR r ≤ 4000 ∧ ∀ H' ys, KB p H H' → H' p = some (.lst (xs ++ ys)) → Paired (PlE K C H') ys (layR r f xs.length) → Q .non H'
section
variable {P : Program} {w : World} {K : PySem.W.Frag} {mg : Str → Option Value} {base : Heap} {C : Addr}
theorem scLy : FnScope ["row", "behind", "ends", "plan", "at", "deed", "point", "after", "back", "ways", "part"] ["row", "behind", "ends", "plan"] (defScope sLay) := ⟨rfl, rfl, rfl, by decide +kernel, rfl, by decide +kernel, by decide +kernel⟩
theorem ok_lay {f : Addr} {fd : FuncData} (F : Fun K "lay_out" "lay_out" sLay f fd) (mgf : mg "lay_out" = some (.ref f)) (b : Binds K fd ["row", "behind", "ends", "plan"] []) (B : Blt mg) (G : FrmC K w mg)
    (DR : Def P w K mg base "rows_in" 1 ["deed"] (spRowsIn K C)) : ∀ n, FnOk P w K mg base CX0 (n + 2) f fd ["row", "behind", "ends", "plan"] (spLay K C n) := by
  intro n
  induction n with
  | zero =>
    refine F.ok scLy (fun vs H Q E h => ?_) (fun cdv A outer s H vs Q E hr h => ?_)
    · obtain ⟨q, e, p, f, r, E, xs, rfl, _⟩ := h
      rfl
    · obtain ⟨q, e, p, f, r, E, xs, _, _, h, _⟩ := h
      exact absurd h (Nat.not_lt_zero _)
  | succ n G' =>
  refine F.ok scLy (fun vs H Q E h => ?_) (fun cdv A outer s H vs Q E hr h => ?_)
  · obtain ⟨q, e, p, f, r, E, xs, rfl, _⟩ := h
    rfl
  · obtain ⟨q, e, p, f, r, En, xs, rfl, ⟨vs, hq, hvs⟩, hdp, he, hpre, hp, hep, hmany, k⟩ := h
    have hr1 : Room 1 _ := hr.mono (by omega)
    refine ⟨_, pss_one (ps_for PassesOwn.never rfl (pi_enumT rfl G.me (pa_cons (pv 0) pa_nil)) (pg_tup rfl (pgs_cons (pg_name (i := 4) scLy.nd rfl (Or.inl rfl)) (pgs_cons (pg_name (i := 5) scLy.nd rfl (Or.inl rfl)) pgs_nil))) (pss_cons (ps_set (i := 6) scLy.nd rfl (Or.inl rfl) (pe_callB call_len_seq (by rfl) B.len PySem.boot_len (pa_cons (pv 3) pa_nil))) (pss_cons (ps_set (i := 7) scLy.nd rfl (Or.inl rfl) (pe_ifExp (pt_cmpR op_lt (pe_op op_add (pv 4) pe_int) (pe_callB call_len_seq (by rfl) B.len PySem.boot_len (pa_cons (pv 0) pa_nil)) (nomark _)) (pe_ix (r := rIxL K) ix_list (pv 2) (pv 6) (fun _ _ => rfl)) (pv 1))) (pss_cons (ps_set (i := 8) scLy.nd rfl (Or.inl rfl) (pe_ifExp (pt_cmpR op_eq (pe_ix (r := rIxT K) ix_tup (pv 5) pe_int (fun _ _ => rfl)) pe_str (nomark _)) (pv 6) (pv 7))) (pss_cons (ps_expr (pe_bm PySem.F.plainAttrs_list PySem.F.slot_list_append PySem.F.type_list_append mt_append (pv 3) (pa_cons pe_non pa_nil))) (pss_cons (ps_set (i := 9) scLy.nd rfl (Or.inl rfl) (pe_lst pa_nil)) (pss_cons (ps_for PassesOwn.never rfl (pi_tup (pe_def DR hr1 rfl (pa_cons (pv 5) pa_nil))) (pg_name (i := 10) scLy.nd rfl (Or.inl rfl)) (pss_cons (ps_expr (pe_bm PySem.F.plainAttrs_list PySem.F.slot_list_append PySem.F.type_list_append mt_append (pv 9) (pa_cons (pe_ifExp (pt_truth (pv 10) (by intro _; rfl)) (pe_callB call_len_seq (by rfl) B.len PySem.boot_len (pa_cons (pv 3) pa_nil)) (pv 8)) pa_nil))) (pss_one (ps_expr (pe_call G' hr rfl mgf F.kp b .nil pass0 (pa_cons (pv 10) (pa_cons (pv 8) (pa_cons (pv 2) (pa_cons (pv 3) pa_nil))))))))) (pss_cons (ps_if (pt_cmpR op_ne (pe_ix (r := rIxT K) ix_tup (pv 5) pe_int (fun _ _ => rfl)) pe_str (nomark _)) (pss_one (ps_expr (pe_bm PySem.F.plainAttrs_list PySem.F.slot_list_append PySem.F.type_list_append mt_append (pv 9) (pa_cons (pv 7) pa_nil)))) pss_nil) (pss_one (ps_asg (pe_tup (pa_cons (pv 5) (pa_cons (pe_callTy call_tuple_of (by rfl) G.mt PyProof.Rows.boot_tuple (pa_cons (pv 9) pa_nil)) pa_nil))) (pg_sub (pv 3) (pv 6) set_list))))))))))), ?_⟩
    have hsl := line4
    have hlen := DsAt.length r vs hvs
    refine ⟨_, rfl, q, vs, rfl, hq, for_it (walk_enumT (K := K) (a := q) (xs := vs)) (fun i σ H' => ∃ x4 x5 x6 x7 x8 x9 x10 : Option V, ∃ ys : List V, σ = [some (.ref q), some (.int (f : Nat)), some (.ref e), some (.ref p), x4, x5, x6, x7, x8, x9, x10] ∧ KB p H H' ∧ H' p = some (.lst (xs ++ ys)) ∧ Paired (PlE K C H') ys ((layR r f xs.length).take (manyR (r.take i)))) ⟨none, none, none, none, none, none, none, [], rfl, KB.refl p H, by rw [List.append_nil]; exact hp, by rw [List.take_zero, many_nil, List.take_zero]; exact .nil⟩ ?_ ?_ ?_⟩
    · rintro i σ H1 _ ⟨x4, x5, x6, x7, x8, x9, x10, ys, rfl, kb1, hp1, hys⟩
      exact sqt_kt (kb1.kt hp) hq
    · rintro i y σ H1 H2 hi ⟨x4, x5, x6, x7, x8, x9, x10, ys, rfl, kb1, hp1, hys⟩ ⟨T, v, rfl, nT, rfl, hv⟩
      obtain ⟨d, hd, hdv⟩ := DsAt.get r vs i v hvs hv
      have hdd := deepR_mem r d (List.mem_of_getElem? hd)
      have hmt := manyR_take r i d hd
      have hpos := many_pos d
      have hmr := many_rows d
      have sT := Same.new nT (o := .tup [.int (i : Nat), v])
      have kb2 : KB p H (upd H1 T (.tup [.int (i : Nat), v])) := kb1.trans (KB.of sT)
      have hp2 := sT _ _ hp1
      have hys2 := pls_kt (KT.of sT) hys
      have hdv2 : DAt K C (upd H1 T (.tup [.int (i : Nat), v])) v d := DAt_kt (kb2.kt hp) d v hdv
      have hq2 : SqT K (upd H1 T (.tup [.int (i : Nat), v])) q vs := sqt_kt (kb2.kt hp) hq
      have he2 := kb2 _ _ hep he
      have hT2 : (upd H1 T (.tup [.int (i : Nat), v])) T = some (.tup [.int (i : Nat), v]) := upd_same
      revert kb2 hp2 hys2 hdv2 hq2 he2 hT2
      generalize upd H1 T (.tup [.int (i : Nat), v]) = H2
      intro kb2 hp2 hys2 hdv2 hq2 he2 hT2
      refine ⟨T, _, rfl, SqT.of hT2, rfl, _, _, rfl, _, _, rfl, rfl, ?_⟩
      obtain ⟨pt, hpt⟩ : ∃ pt, xs.length + manyR (r.take i) = pt := ⟨_, rfl⟩
      have lys : ys.length = manyR (r.take i) := by
        rw [Paired.length hys, List.length_take, layR_len]
        omega
      have lxy : (xs ++ ys).length = pt := by rw [List.length_append, lys, hpt]
      refine ⟨_, rfl, p, _, rfl, .inl (SqL.of hp2), ?_⟩
      rw [lxy]
      -- after
      obtain ⟨af, haf⟩ : ∃ af, (if i + 1 < r.length then pt + d.many else f) = af := ⟨_, rfl⟩
      obtain ⟨rest, hen⟩ := ends_at r xs.length i d hd
      have hpre2 : Pre En pt (d.ends pt) := by
        rw [hen] at hpre
        have := hpre.right
        rw [endsR_len, hpt] at this
        exact this.left
      have hpre3 : En[pt]? = some (pt + d.many) := by
        have := hpre2 0 (pt + d.many) (by rw [ends_rows]; rfl)
        exact this
      dsimp only [gName]
      refine seq_via (.int (af : Nat)) (fun R hR => ?_) ?_
      · refine ⟨_, rfl, _, _, rfl, rfl, _, rfl, q, vs, rfl, .inr hq2, _, _, rfl, rfl, _, rfl, ?_⟩
        rw [hlen]
        by_cases hlt : i + 1 < r.length
        · rw [decide_eq_true (show ((i : Nat) : Int) + 1 < ((r.length : Nat) : Int) by omega)]
          refine iteT ?_
          rw [if_pos hlt] at haf
          refine ⟨_, rfl, _, rfl, e, _, _, .int (af : Nat), rfl, rfl, SqL.of he2, ?_, hR⟩
          refine atI_nat ?_
          rw [numsV, List.getElem?_map, hpre3, ← haf]
          rfl
        · rw [decide_eq_false (show ¬ ((i : Nat) : Int) + 1 < ((r.length : Nat) : Int) by omega)]
          refine iteF ?_
          rw [if_neg hlt] at haf
          subst haf
          exact ⟨_, rfl, hR⟩
      -- back
      obtain ⟨pd, its, ev, hpd, _⟩ := shape d hdv2
      subst ev
      refine seq_via (.int ((d.back af pt : Nat) : Int)) (fun R hR => ?_) ?_
      · refine ⟨_, rfl, pd, _, 0, _, rfl, rfl, hpd, at0 _ _, rfl, _, rfl, ?_⟩
        rw [kind_w]
        unfold Dd.back at hR
        cases hw : d.isW with
        | true =>
          rw [hw] at hR
          exact iteT ⟨_, rfl, hR⟩
        | false =>
          rw [hw] at hR
          exact iteF ⟨_, rfl, hR⟩
      obtain ⟨bk, hbk⟩ : ∃ bk, d.back af pt = bk := ⟨_, rfl⟩
      rw [hbk]
      refine ⟨_, rfl, .inl ⟨rfl, _, SqL.of hp2⟩, p, _, _, rfl, rfl, hp2, by omega, ?_⟩
      have kb3 : KB p H (upd H2 p (.lst (xs ++ ys ++ [.non]))) := kb2.trans KB.set
      have kt3 : KT H2 (upd H2 p (.lst (xs ++ ys ++ [.non]))) := KT.lst hp2
      have hp3 : (upd H2 p (.lst (xs ++ ys ++ [.non]))) p = some (.lst (xs ++ ys ++ [.non])) := upd_same
      have he3 : (upd H2 p (.lst (xs ++ ys ++ [.non]))) e = some (.lst (numsV En)) := by rw [upd_ne hep]; exact he2
      revert kb3 kt3 hp3 he3
      generalize upd H2 p (.lst (xs ++ ys ++ [.non])) = H3
      intro kb3 kt3 hp3 he3
      refine ⟨Nat.zero_le _, fun wl nwl => ?_⟩
      have s4 : Same H3 (upd H3 wl (.lst [])) := Same.new nwl
      have hwl4 : (upd H3 wl (.lst [])) wl = some (.lst []) := upd_same
      have hwp : wl ≠ p := fun z => by rw [z, hp3] at nwl; cases nwl
      have hwe : wl ≠ e := fun z => by rw [z, he3] at nwl; cases nwl
      have nwH : H wl = none := by
        cases hw : H wl with
        | none => rfl
        | some o =>
          have := kb3 _ _ hwp hw
          rw [nwl] at this
          cases this
      revert s4 hwl4
      generalize upd H3 wl (.lst []) = H4
      intro s4 hwl4
      have kt24 : KT H2 H4 := kt3.trans (KT.of s4)
      have hdv4 := DAt_kt kt24 d _ hdv2
      refine ⟨_, rfl, _, d, rfl, hdv4, fun ip ws H5 s5 hip hws => ?_⟩
      have hwl5 := Paired.length hws
      have kb5 : KB p H H5 := (kb3.trans (KB.of s4)).trans (KB.of s5)
      have kt25 : KT H2 H5 := kt24.trans (KT.of s5)
      have hp5 := s5 _ _ (s4 _ _ hp3)
      have he5 := s5 _ _ (s4 _ _ he3)
      have hw5 := s5 _ _ hwl4
      refine ⟨ip, rfl, ⟨_, hip⟩, for_tup (K := K) (a := ip) (xs := ws) (fun j σ H' => ∃ (x10 : Option V) (zs : List V), σ = [some (.ref q), some (.int (f : Nat)), some (.ref e), some (.ref p), some (.int (i : Nat)), some (.ref pd), some (.int (pt : Nat)), some (.int (af : Nat)), some (.int (bk : Nat)), some (.ref wl), x10] ∧ KB p H H' ∧ KT H5 H' ∧ H' e = some (.lst (numsV En)) ∧ H' wl = some (.lst (numsV (wayL (d.rows.take j) bk (pt + 1)))) ∧ H' p = some (.lst (xs ++ ys ++ [.non] ++ zs)) ∧ Paired (PlE K C H') zs (layL (d.rows.take j) bk (pt + 1))) ⟨_, [], rfl, kb5, KT.refl H5, he5, hw5, by rw [List.append_nil]; exact hp5, .nil⟩ ?_ ?_ ?_⟩
      · rintro j σ H6 _ ⟨x10, zs, rfl, kb6, kt6, he6, hw6, hp6, hzs⟩
        exact sqt_kt kt6 hip
      · rintro j v10 σ H6 hv10 ⟨x10, zs, rfl, kb6, kt6, he6, hw6, hp6, hzs⟩
        obtain ⟨r6, hr6, q6, rfl, hq6⟩ := paired_get hws hv10
        have hml := manyL_take d.rows j r6 hr6
        have hdl := deepL_mem d.rows r6 (List.mem_of_getElem? hr6)
        have hne : d.rows ≠ [] := fun z => by
          rw [z] at hr6
          cases hr6
        have hdr := deep_rows d hne
        have hjl := (List.getElem?_eq_some_iff.mp hv10).1
        have lzs : zs.length = manyL (d.rows.take j) := by rw [Paired.length hzs, layL_len]
        have lp6 : (xs ++ ys ++ [V.non] ++ zs).length = pt + 1 + manyL (d.rows.take j) := by
          rw [List.length_append, List.length_append, lxy, lzs]
          rfl
        obtain ⟨vs6, hsq6, hds6⟩ := hq6.kt kt6
        have l6 := DsAt.length r6 vs6 hds6
        refine ⟨_, rfl, .inl ⟨rfl, _, SqL.of hw6⟩, ?_⟩
        refine via (T := (tIf _ _ _) _ H6) (.int (((if r6.isEmpty then bk else pt + 1 + manyL (d.rows.take j) : Nat)) : Int)) H6 (fun R hR => ?_) ?_
        · refine ⟨_, rfl, !vs6.isEmpty, .inr (.inl ⟨vs6, hsq6, rfl⟩), ?_⟩
          cases r6 with
          | nil =>
            cases vs6 with
            | nil => exact iteF ⟨_, rfl, hR⟩
            | cons x y => cases l6
          | cons x y =>
            cases vs6 with
            | nil => cases l6
            | cons x' y' =>
              refine iteT ⟨_, rfl, p, _, rfl, .inl (SqL.of hp6), ?_⟩
              rw [lp6]
              exact hR
        obtain ⟨wn, hwn⟩ : ∃ wn, (if r6.isEmpty then bk else pt + 1 + manyL (d.rows.take j) : Nat) = wn := ⟨_, rfl⟩
        rw [hwn]
        have hrl : d.rows.length ≤ 2 := by
          cases d <;> simp [Dd.rows]
        refine ⟨wl, _, _, rfl, rfl, hw6, by rw [numsV_len, wayL_len, List.length_take]; omega, ?_⟩
        have kt7 : KT H6 (upd H6 wl (.lst (numsV (wayL (d.rows.take j) bk (pt + 1)) ++ [.int (wn : Nat)]))) := KT.lst hw6
        have e7 : numsV (wayL (d.rows.take j) bk (pt + 1)) ++ [.int (wn : Nat)] = numsV (wayL (d.rows.take (j + 1)) bk (pt + 1)) := by
          rw [take_snoc hr6, wayL_app, wayL_one, numsV_app, hwn]
          rfl
        rw [e7] at kt7 ⊢
        have hw7 : (upd H6 wl (.lst (numsV (wayL (d.rows.take (j + 1)) bk (pt + 1))))) wl = some (.lst (numsV (wayL (d.rows.take (j + 1)) bk (pt + 1)))) := upd_same
        have he7 : (upd H6 wl (.lst (numsV (wayL (d.rows.take (j + 1)) bk (pt + 1))))) e = some (.lst (numsV En)) := by rw [upd_ne (Ne.symm hwe)]; exact he6
        have hp7 : (upd H6 wl (.lst (numsV (wayL (d.rows.take (j + 1)) bk (pt + 1))))) p = some (.lst (xs ++ ys ++ [.non] ++ zs)) := by rw [upd_ne (Ne.symm hwp)]; exact hp6
        have kb7 : KB p H (upd H6 wl (.lst (numsV (wayL (d.rows.take (j + 1)) bk (pt + 1))))) := fun a o na ha => by
          rw [upd_ne (ne_of_none ha nwH)]
          exact kb6 _ _ na ha
        revert kt7 hw7 he7 hp7 kb7
        generalize upd H6 wl (.lst (numsV (wayL (d.rows.take (j + 1)) bk (pt + 1)))) = H7
        intro kt7 hw7 he7 hp7 kb7
        have hpre7 : Pre En (xs ++ ys ++ [V.non] ++ zs).length (endsR r6 (xs ++ ys ++ [V.non] ++ zs).length) := by
          rw [lp6]
          have h1 : Pre En (pt + 1) (endsL d.rows (pt + 1)) := by
            have := hpre2
            rw [ends_rows] at this
            exact Pre.right (a := [pt + d.many]) this
          obtain ⟨rest2, hen2⟩ := endsL_at d.rows (pt + 1) j r6 hr6
          rw [hen2] at h1
          have h2 := h1.right
          rw [endsL_len] at h2
          exact h2.left
        refine ⟨_, rfl, _, rfl, _, rfl, _, rfl, q6, e, p, bk, r6, En, _, rfl, (hq6.kt kt6).kt kt7, by omega, he7, hpre7, hp7, hep, by rw [lp6]; omega, fun H8 zs2 kb8 hp8 hzs2 => ?_⟩
        have kt8 : KT H7 H8 := kb8.kt hp7
        rw [lp6] at hzs2
        refine ⟨_, zs ++ zs2, rfl, kb7.trans kb8, (kt6.trans kt7).trans kt8, kb8 _ _ hep he7, kb8 _ _ hwp hw7, by rw [hp8, List.append_assoc (xs ++ ys ++ [V.non])], ?_⟩
        rw [take_snoc hr6, layL_app, layL_one]
        exact paired_app (pls_kt (kt7.trans kt8) hzs) hzs2
      · rintro σ H6 ⟨x10, zs, rfl, kb6, kt6, he6, hw6, hp6, hzs⟩
        rw [hwl5, List.take_length] at hw6 hzs
        have hpd6 := sqt_kt (kt25.trans kt6) hpd
        refine ⟨_, rfl, pd, _, 0, _, rfl, rfl, hpd6, at0 _ _, rfl, _, rfl, ?_⟩
        rw [kind_f]
        cases hF : d.isF with
        | true =>
          refine iteF ?_
          have ew : wayL d.rows bk (pt + 1) = d.ways af pt := by
            rw [Dd.ways, hbk, hF, if_pos rfl, List.append_nil]
          rw [ew] at hw6
          refine ⟨_, rfl, _, rfl, wl, _, rfl, .inl ⟨SqL.of hw6, fun wt nwt => ?_⟩⟩
          have s8 : Same H6 (upd H6 wt (.tup (numsV (d.ways af pt)))) := Same.new nwt
          have hwt8 : (upd H6 wt (.tup (numsV (d.ways af pt)))) wt = some (.tup (numsV (d.ways af pt))) := upd_same
          revert s8 hwt8
          generalize upd H6 wt (.tup (numsV (d.ways af pt))) = H8
          intro s8 hwt8
          refine ⟨by show 2 ≤ sizeLine; decide, fun tt ntt => ?_⟩
          have s9 : Same H8 (upd H8 tt (.tup [.ref pd, .ref wt])) := Same.new ntt
          have htt9 : (upd H8 tt (.tup [.ref pd, .ref wt])) tt = some (.tup [.ref pd, .ref wt]) := upd_same
          revert s9 htt9
          generalize upd H8 tt (.tup [.ref pd, .ref wt]) = H9
          intro s9 htt9
          have s79 := s8.trans s9
          have hp9 := s79 _ _ hp6
          have kt9 : KT H9 (upd H9 p (.lst ((xs ++ ys ++ [V.non] ++ zs).set pt (.ref tt)))) := KT.lst hp9
          refine ⟨_, rfl, _, rfl, p, _, _, pt, rfl, rfl, hp9, ixN_at _ _ (by rw [List.length_append, List.length_append, lxy]; simp only [List.length_cons]; omega), ?_⟩
          have es : (xs ++ ys ++ [V.non] ++ zs).set pt (.ref tt) = xs ++ (ys ++ (.ref tt :: zs)) := by
            rw [List.append_assoc (xs ++ ys), List.set_append_right _ _ (by rw [lxy]; exact Nat.le_refl _), lxy, Nat.sub_self, List.append_assoc]
            rfl
          have ktz : KT H2 (upd H9 p (.lst ((xs ++ ys ++ [V.non] ++ zs).set pt (.ref tt)))) := ((kt25.trans kt6).trans (KT.of s79)).trans kt9
          refine ⟨_, _, _, _, _, _, _, ys ++ (.ref tt :: zs), rfl, (kb6.trans (KB.of s79)).trans KB.set, by rw [upd_same, es], ?_⟩
          rw [lay_step r f xs.length i d hd, hpt, haf, lay_rows, hbk]
          refine paired_app (pls_kt ktz hys2) (.cons ⟨tt, wt, .ref pd, rfl, kt9 _ _ htt9 (fun _ e => nomatch e), kt9 _ _ (s9 _ _ hwt8) (fun _ e => nomatch e), DAt_kt ktz d _ hdv2⟩ (pls_kt ((KT.of s79).trans kt9) hzs))
        | false =>
          refine iteT ?_
          have hrl : d.rows.length ≤ 2 := by
            cases d <;> simp [Dd.rows]
          refine ⟨_, rfl, .inl ⟨rfl, _, SqL.of hw6⟩, _, rfl, wl, _, _, rfl, rfl, hw6, by rw [numsV_len, wayL_len]; omega, ?_⟩
          have ew : numsV (wayL d.rows bk (pt + 1)) ++ [.int (af : Nat)] = numsV (d.ways af pt) := by
            rw [Dd.ways, hbk, hF, if_neg Bool.false_ne_true, numsV_app]
            rfl
          rw [ew]
          have kt7 : KT H6 (upd H6 wl (.lst (numsV (d.ways af pt)))) := KT.lst hw6
          have hw7 : (upd H6 wl (.lst (numsV (d.ways af pt)))) wl = some (.lst (numsV (d.ways af pt))) := upd_same
          have hp7 : (upd H6 wl (.lst (numsV (d.ways af pt)))) p = some (.lst (xs ++ ys ++ [.non] ++ zs)) := by rw [upd_ne (Ne.symm hwp)]; exact hp6
          have kb7 : KB p H (upd H6 wl (.lst (numsV (d.ways af pt)))) := fun a o na ha => by
            rw [upd_ne (ne_of_none ha nwH)]
            exact kb6 _ _ na ha
          have hzs7 := pls_kt kt7 hzs
          revert kt7 hw7 hp7 kb7 hzs7
          generalize upd H6 wl (.lst (numsV (d.ways af pt))) = H7
          intro kt7 hw7 hp7 kb7 hzs7
          refine ⟨_, rfl, _, rfl, wl, _, rfl, .inl ⟨SqL.of hw7, fun wt nwt => ?_⟩⟩
          have s8 : Same H7 (upd H7 wt (.tup (numsV (d.ways af pt)))) := Same.new nwt
          have hwt8 : (upd H7 wt (.tup (numsV (d.ways af pt)))) wt = some (.tup (numsV (d.ways af pt))) := upd_same
          revert s8 hwt8
          generalize upd H7 wt (.tup (numsV (d.ways af pt))) = H8
          intro s8 hwt8
          refine ⟨by show 2 ≤ sizeLine; decide, fun tt ntt => ?_⟩
          have s9 : Same H8 (upd H8 tt (.tup [.ref pd, .ref wt])) := Same.new ntt
          have htt9 : (upd H8 tt (.tup [.ref pd, .ref wt])) tt = some (.tup [.ref pd, .ref wt]) := upd_same
          revert s9 htt9
          generalize upd H8 tt (.tup [.ref pd, .ref wt]) = H9
          intro s9 htt9
          have s79 := s8.trans s9
          have hp9 := s79 _ _ hp7
          have kt9 : KT H9 (upd H9 p (.lst ((xs ++ ys ++ [V.non] ++ zs).set pt (.ref tt)))) := KT.lst hp9
          refine ⟨_, rfl, _, rfl, p, _, _, pt, rfl, rfl, hp9, ixN_at _ _ (by rw [List.length_append, List.length_append, lxy]; simp only [List.length_cons]; omega), ?_⟩
          have es : (xs ++ ys ++ [V.non] ++ zs).set pt (.ref tt) = xs ++ (ys ++ (.ref tt :: zs)) := by
            rw [List.append_assoc (xs ++ ys), List.set_append_right _ _ (by rw [lxy]; exact Nat.le_refl _), lxy, Nat.sub_self, List.append_assoc]
            rfl
          have ktz : KT H2 (upd H9 p (.lst ((xs ++ ys ++ [V.non] ++ zs).set pt (.ref tt)))) := ((kt25.trans (kt6.trans kt7)).trans (KT.of s79)).trans kt9
          refine ⟨_, _, _, _, _, _, _, ys ++ (.ref tt :: zs), rfl, (kb7.trans (KB.of s79)).trans KB.set, by rw [upd_same, es], ?_⟩
          rw [lay_step r f xs.length i d hd, hpt, haf, lay_rows, hbk]
          refine paired_app (pls_kt ktz hys2) (.cons ⟨tt, wt, .ref pd, rfl, kt9 _ _ htt9 (fun _ e => nomatch e), kt9 _ _ (s9 _ _ hwt8) (fun _ e => nomatch e), DAt_kt ktz d _ hdv2⟩ (pls_kt ((KT.of s79).trans kt9) hzs7))
    · rintro σ H1 ⟨x4, x5, x6, x7, x8, x9, x10, ys, rfl, kb1, hp1, hys⟩
      rw [hlen, List.take_length, List.take_of_length_le (by rw [layR_len]; exact Nat.le_refl _)] at hys
      exact k H1 ys kb1 hp1 hys
end
end Js

set_option Elab.async false
set_option linter.all false
set_option maxRecDepth 100000
set_option maxHeartbeats 2000000
/-! == of deeds, of rows of deeds -/
namespace Js
open PySem L2
noncomputable instance : DecidableEq Dd := Classical.typeDecidableEq Dd
def kindN : Dd → Nat
  | .told _ _ => 0
  | .take false _ _ => 1
  | .take true _ _ => 2
  | .two false _ _ _ => 3
  | .two true _ _ _ => 4
  | .wh _ _ => 5
  | .iff _ _ _ => 6
def kindI (x : Str) : Nat := (["told", "first", "second", "pair", "same", "while", "if"] : List Str).findIdx (· == x)
theorem kind_ix : ∀ d : Dd, kindI (kindOf d) = kindN d
  | .told _ _ => (by decide +kernel : kindI "told" = 0)
  | .take false _ _ => (by decide +kernel : kindI "first" = 1)
  | .take true _ _ => (by decide +kernel : kindI "second" = 2)
  | .two false _ _ _ => (by decide +kernel : kindI "pair" = 3)
  | .two true _ _ _ => (by decide +kernel : kindI "same" = 4)
  | .wh _ _ => (by decide +kernel : kindI "while" = 5)
  | .iff _ _ _ => (by decide +kernel : kindI "if" = 6)
theorem kind_eq {d e : Dd} (h : kindOf d = kindOf e) : kindN d = kindN e := by rw [← kind_ix, ← kind_ix, h]
section
variable {X : Cx} {pins : List (Addr × Obj)} {σ : L2.St} {H : Hp} {s : Shared} {C : Addr}
theorem DAt_kind (I : Inv X pins σ H s) {d e : Dd} {v : V} (h : DAt X.K C H v d) (g : DAt X.K C H v e) : kindN d = kindN e := by
  obtain ⟨p, its, rfl, h1, _⟩ := shape d h
  obtain ⟨p', its', e', g1, _⟩ := shape e g
  cases e'
  have := I.tuple_inj h1 g1
  simp only [List.cons.injEq, V.str.injEq] at this
  exact kind_eq this.1
mutual
theorem DAt_inj (I : Inv X pins σ H s) : ∀ (d e : Dd) (v : V), DAt X.K C H v d → DAt X.K C H v e → d = e
  | .told a t, e, v, h, g => by
    have hk := DAt_kind I h g
    cases e with
    | told b u =>
      obtain ⟨p, x, rfl, h1, h2, h3, h4⟩ := h
      obtain ⟨p', x', e', g1, g2, g3, g4⟩ := g
      cases e'
      have := I.tuple_inj h1 g1
      simp only [List.cons.injEq, V.int.injEq, V.ref.injEq, and_true, true_and] at this
      obtain ⟨ea, rfl⟩ := this
      cases Int.ofNat.inj ea
      rw [h3.inj g3]
    | take s _ _ => cases s <;> cases hk
    | two s _ _ _ => cases s <;> cases hk
    | wh _ _ => cases hk
    | iff _ _ _ => cases hk
  | .take k a b, e, v, h, g => by
    have hk := DAt_kind I h g
    cases e with
    | take s a' b' =>
      obtain ⟨p, rfl, h1, h2, h3⟩ := h
      obtain ⟨p', e', g1, g2, g3⟩ := g
      cases e'
      have := I.tuple_inj h1 g1
      simp only [List.cons.injEq, V.int.injEq, and_true] at this
      obtain ⟨_, ea, eb⟩ := this
      cases Int.ofNat.inj ea
      cases Int.ofNat.inj eb
      have : k = s := by cases k <;> cases s <;> first | rfl | cases hk
      rw [this]
    | told _ _ => cases k <;> cases hk
    | two s _ _ _ => cases k <;> cases s <;> cases hk
    | wh _ _ => cases k <;> cases hk
    | iff _ _ _ => cases k <;> cases hk
  | .two k a b c, e, v, h, g => by
    have hk := DAt_kind I h g
    cases e with
    | two s a' b' c' =>
      obtain ⟨p, rfl, h1, h2, h3, h4⟩ := h
      obtain ⟨p', e', g1, g2, g3, g4⟩ := g
      cases e'
      have := I.tuple_inj h1 g1
      simp only [List.cons.injEq, V.int.injEq, and_true] at this
      obtain ⟨_, ea, eb, ec⟩ := this
      cases Int.ofNat.inj ea
      cases Int.ofNat.inj eb
      cases Int.ofNat.inj ec
      have : k = s := by cases k <;> cases s <;> first | rfl | cases hk
      rw [this]
    | told _ _ => cases k <;> cases hk
    | take s _ _ => cases k <;> cases s <;> cases hk
    | wh _ _ => cases k <;> cases hk
    | iff _ _ _ => cases k <;> cases hk
  | .wh a r, e, v, h, g => by
    have hk := DAt_kind I h g
    cases e with
    | wh a' r' =>
      obtain ⟨p, q, vs, rfl, h1, h2, h3, h4⟩ := h
      obtain ⟨p', q', vs', e', g1, g2, g3, g4⟩ := g
      cases e'
      have := I.tuple_inj h1 g1
      simp only [List.cons.injEq, V.int.injEq, V.ref.injEq, and_true, true_and] at this
      obtain ⟨ea, rfl⟩ := this
      cases Int.ofNat.inj ea
      cases I.tuple_inj h3 g3
      rw [DsAt_inj I r r' vs h4 g4]
    | told _ _ => cases hk
    | take s _ _ => cases s <;> cases hk
    | two s _ _ _ => cases s <;> cases hk
    | iff _ _ _ => cases hk
  | .iff a r o, e, v, h, g => by
    have hk := DAt_kind I h g
    cases e with
    | iff a' r' o' =>
      obtain ⟨p, q, vs, q2, vs2, rfl, h1, h2, h3, h4, h5, h6⟩ := h
      obtain ⟨p', q', vs', q2', vs2', e', g1, g2, g3, g4, g5, g6⟩ := g
      cases e'
      have := I.tuple_inj h1 g1
      simp only [List.cons.injEq, V.int.injEq, V.ref.injEq, and_true, true_and] at this
      obtain ⟨ea, rfl, rfl⟩ := this
      cases Int.ofNat.inj ea
      cases I.tuple_inj h3 g3
      cases I.tuple_inj h5 g5
      rw [DsAt_inj I r r' vs h4 g4, DsAt_inj I o o' vs2 h6 g6]
    | told _ _ => cases hk
    | take s _ _ => cases s <;> cases hk
    | two s _ _ _ => cases s <;> cases hk
    | wh _ _ => cases hk
theorem DsAt_inj (I : Inv X pins σ H s) : ∀ (r u : List Dd) (vs : List V), DsAt X.K C H vs r → DsAt X.K C H vs u → r = u
  | [], u, vs, h, g => by
    have e : vs = [] := h
    subst e
    cases u with
    | nil => rfl
    | cons d u =>
      obtain ⟨v, us, e, _⟩ := g
      cases e
  | d :: r, u, vs, h, g => by
    obtain ⟨v, us, rfl, h1, h2⟩ := h
    cases u with
    | nil => cases (show v :: us = [] from g)
    | cons e u =>
      obtain ⟨v', us', e', g1, g2⟩ := g
      cases e'
      rw [DAt_inj I d e v h1 g1, DsAt_inj I r u us h2 g2]
end
theorem RAt_inj (I : Inv X pins σ H s) {q : Addr} {r u : List Dd} (h : RAt X.K C H q r) (g : RAt X.K C H q u) : r = u := by
  obtain ⟨vs, h1, h2⟩ := h
  obtain ⟨us, g1, g2⟩ := g
  cases I.tuple_inj h1 g1
  exact DsAt_inj I r u vs h2 g2
end
/-! what == tells -/
/-- rows of fewer than n floors -/
def TRow (K : PySem.W.Frag) (C : Addr) (n : Nat) : Tells := fun x y b H => ∃ q q2 r u, x = .ref q ∧ y = .ref q2 ∧ RAt K C H q r ∧ RAt K C H q2 u ∧ deepR r < n ∧ deepR u < n ∧ b = decide (r = u)
def TDd (K : PySem.W.Frag) (C : Addr) (n : Nat) : Tells := fun x y b H => ∃ d e, DAt K C H x d ∧ DAt K C H y e ∧ d.deep ≤ n ∧ e.deep ≤ n ∧ b = decide (d = e)
/-- the parts of a deed -/
def TPart (K : PySem.W.Frag) (C : Addr) (n : Nat) : Tells := fun x y b H => (TFlat x y b H ∨ DTh C x y b H) ∨ TRow K C n x y b H
theorem TRow_mon {K : PySem.W.Frag} {C : Addr} {n : Nat} : MonT (TRow K C n) := fun x y r H H' s d => by
  obtain ⟨q, q2, a, u, e1, e2, h1, h2, h3, h4, e3⟩ := d
  exact ⟨q, q2, a, u, e1, e2, h1.same s, h2.same s, h3, h4, e3⟩
theorem TDd_mon {K : PySem.W.Frag} {C : Addr} {n : Nat} : MonT (TDd K C n) := fun x y r H H' s d => by
  obtain ⟨a, u, h1, h2, h3, h4, e3⟩ := d
  exact ⟨a, u, DAt_kt (KT.of s) _ _ h1, DAt_kt (KT.of s) _ _ h2, h3, h4, e3⟩
theorem DThM {C : Addr} : MonT (DTh C) := fun x y r H H' s d => by
  obtain ⟨a, b, t, u, e1, e2, ha, hb, hz, e3⟩ := d
  exact ⟨a, b, t, u, e1, e2, ha.same s, hb.same s, hz, e3⟩
theorem TPart_mon {K : PySem.W.Frag} {C : Addr} {n : Nat} : MonT (TPart K C n) := fun x y r H H' s d => by
  rcases d with (d | d) | d
  · exact .inl (.inl d)
  · exact .inl (.inr (DThM _ _ _ _ _ s d))
  · exact .inr (TRow_mon _ _ _ _ _ s d)
theorem eqT_thing {X : Cx} {C : Addr} (S : Spc X.prog X.w X.K X.mg X.base C "__eq__" 2 ["self", "other"] (spEqT C)) : EqT X 2 (DTh C) := by
  obtain ⟨f, fd, ow, F, hb⟩ := S
  refine eqT_own ow F hb (pass0) fun x y r H d => ?_
  obtain ⟨a, b, t, u, rfl, rfl, ha, hb', hz, rfl⟩ := d
  obtain ⟨dx, f1, g1, h1⟩ := ha.obj
  obtain ⟨dy, f2, g2, h2⟩ := hb'.obj
  refine ⟨a, b, dx, dy, _, _, rfl, rfl, h1, h2, fun e => ?_, a, b, t, u, rfl, ha, hb', hz, fun H' s => ⟨_, rfl, rfl, s⟩⟩
  subst e
  exact decide_eq_true (ha.inj hb')
theorem flat_i {H : Hp} (a b : Nat) : TFlat (.int (a : Nat)) (.int (b : Nat)) (decide (a = b)) H := ⟨rfl, rfl, by
  show (((a : Nat) : Int) == ((b : Nat) : Int)) = decide (a = b)
  by_cases h : a = b
  · subst h; simp
  · rw [decide_eq_false h]
    exact beq_eq_false_iff_ne.mpr (by omega)⟩
theorem flat_s {H : Hp} (a b : Str) : TFlat (.str a) (.str b) (decide (a = b)) H := ⟨rfl, rfl, by
  show (a == b) = decide (a = b)
  by_cases h : a = b
  · subst h; simp
  · rw [decide_eq_false h]
    exact beq_eq_false_iff_ne.mpr h⟩
theorem prs_nil {D : Tells} {H : Hp} : PrsT D [] [] [] H := ⟨rfl, fun i x y b h1 _ _ _ => by simp at h1⟩
theorem prs_cons {D : Tells} {H : Hp} {x y : V} {b : Bool} {xs ys : List V} {bs : List Bool} (h : D x y b H) (t : b = true → PrsT D xs ys bs H) (hl : bs.length = min xs.length ys.length) : PrsT D (x :: xs) (y :: ys) (b :: bs) H := by
  refine ⟨by rw [List.length_cons, List.length_cons, List.length_cons, hl]; omega, fun i u v c h1 h2 h3 h4 => ?_⟩
  cases i with
  | zero =>
    cases Option.some.inj h1
    cases Option.some.inj h2
    cases Option.some.inj h3
    exact h
  | succ i =>
    rw [List.take_succ_cons, List.all_cons] at h4
    have hb : b = true := by
      cases b
      · cases h4
      · rfl
    subst hb
    exact (t rfl).2 i u v c h1 h2 h3 (by simpa using h4)
theorem tells_cons (x y : V) (xs ys : List V) (b : Bool) (bs : List Bool) : tells (x :: xs) (y :: ys) (b :: bs) = (b && tells xs ys bs) := by
  unfold tells
  simp only [List.length_cons, List.all_cons, id, Nat.add_right_cancel_iff]
  cases b <;> simp
theorem tells_nil : tells [] [] [] = true := rfl
/-- unlike kinds: the first word tells -/
theorem prs_kind {K : PySem.W.Frag} {C : Addr} {n : Nat} {H : Hp} {a b : Str} {xs ys : List V} (h : a ≠ b) : PrsT (TPart K C n) (.str a :: xs) (.str b :: ys) (false :: List.replicate (min xs.length ys.length) false) H :=
  prs_cons (.inl (.inl (by rw [← decide_eq_false h]; exact flat_s a b))) (fun z => by cases z) (by rw [List.length_replicate])
theorem kind_ne {d e : Dd} (h : kindOf d ≠ kindOf e) : decide (d = e) = false := decide_eq_false fun z => h (by rw [z])
/-- two deeds that stand, part by part -/
theorem deeds_prs {K : PySem.W.Frag} {C : Addr} {n : Nat} {H : Hp} {x y : V} {d e : Dd} (h : DAt K C H x d) (g : DAt K C H y e) (hd : d.deep ≤ n) (he : e.deep ≤ n) :
    ∃ p q xs ys bs, x = .ref p ∧ y = .ref q ∧ SqT K H p xs ∧ SqT K H q ys ∧ PrsT (TPart K C n) xs ys bs H ∧ tells xs ys bs = decide (d = e) := by
  by_cases hk : kindOf d = kindOf e
  · have hn := kind_eq hk
    have fi : ∀ a b : Nat, TPart K C n (.int (a : Nat)) (.int (b : Nat)) (decide (a = b)) H := fun a b => .inl (.inl (flat_i a b))
    have fs : TPart K C n (.str (kindOf d)) (.str (kindOf e)) true H := .inl (.inl (by rw [hk]; have := flat_s (H := H) (kindOf e) (kindOf e); rwa [decide_eq_true rfl] at this))
    cases d with
    | told a t =>
      cases e with
      | told b u =>
        obtain ⟨p, x1, rfl, h1, h2, h3, h4⟩ := h
        obtain ⟨q, y1, rfl, g1, g2, g3, g4⟩ := g
        refine ⟨p, q, _, _, [true, decide (a = b), decide (t = u)], rfl, rfl, h1, g1, prs_cons fs (fun _ => prs_cons (fi a b) (fun _ => prs_cons (.inl (.inr ⟨x1, y1, t, u, rfl, rfl, h3, g3, h4, rfl⟩)) (fun _ => prs_nil) rfl) rfl) rfl, ?_⟩
        rw [tells_cons, tells_cons, tells_cons, tells_nil]
        by_cases e1 : a = b <;> by_cases e2 : t = u <;> simp [e1, e2]
      | take s _ _ => cases s <;> cases hn
      | two s _ _ _ => cases s <;> cases hn
      | wh _ _ => cases hn
      | iff _ _ _ => cases hn
    | take k a b =>
      cases e with
      | take s a' b' =>
        obtain ⟨p, rfl, h1, h2, h3⟩ := h
        obtain ⟨q, rfl, g1, g2, g3⟩ := g
        have eks : k = s := by cases k <;> cases s <;> first | rfl | cases hn
        subst eks
        refine ⟨p, q, _, _, [true, decide (a = a'), decide (b = b')], rfl, rfl, h1, g1, prs_cons fs (fun _ => prs_cons (fi a a') (fun _ => prs_cons (fi b b') (fun _ => prs_nil) rfl) rfl) rfl, ?_⟩
        rw [tells_cons, tells_cons, tells_cons, tells_nil]
        by_cases e1 : a = a' <;> by_cases e2 : b = b' <;> simp [e1, e2]
      | told _ _ => cases k <;> cases hn
      | two s _ _ _ => cases k <;> cases s <;> cases hn
      | wh _ _ => cases k <;> cases hn
      | iff _ _ _ => cases k <;> cases hn
    | two k a b c =>
      cases e with
      | two s a' b' c' =>
        obtain ⟨p, rfl, h1, h2, h3, h4⟩ := h
        obtain ⟨q, rfl, g1, g2, g3, g4⟩ := g
        have eks : k = s := by cases k <;> cases s <;> first | rfl | cases hn
        subst eks
        refine ⟨p, q, _, _, [true, decide (a = a'), decide (b = b'), decide (c = c')], rfl, rfl, h1, g1, prs_cons fs (fun _ => prs_cons (fi a a') (fun _ => prs_cons (fi b b') (fun _ => prs_cons (fi c c') (fun _ => prs_nil) rfl) rfl) rfl) rfl, ?_⟩
        rw [tells_cons, tells_cons, tells_cons, tells_cons, tells_nil]
        by_cases e1 : a = a' <;> by_cases e2 : b = b' <;> by_cases e3 : c = c' <;> simp [e1, e2, e3]
      | told _ _ => cases k <;> cases hn
      | take s _ _ => cases k <;> cases s <;> cases hn
      | wh _ _ => cases k <;> cases hn
      | iff _ _ _ => cases k <;> cases hn
    | wh a r =>
      cases e with
      | wh a' r' =>
        obtain ⟨p, q1, vs, rfl, h1, h2, h3, h4⟩ := h
        obtain ⟨q, q2, us, rfl, g1, g2, g3, g4⟩ := g
        rw [Dd.deep] at hd he
        refine ⟨p, q, _, _, [true, decide (a = a'), decide (r = r')], rfl, rfl, h1, g1, prs_cons fs (fun _ => prs_cons (fi a a') (fun _ => prs_cons (.inr ⟨q1, q2, r, r', rfl, rfl, ⟨vs, h3, h4⟩, ⟨us, g3, g4⟩, by omega, by omega, rfl⟩) (fun _ => prs_nil) rfl) rfl) rfl, ?_⟩
        rw [tells_cons, tells_cons, tells_cons, tells_nil]
        by_cases e1 : a = a' <;> by_cases e2 : r = r' <;> simp [e1, e2]
      | told _ _ => cases hn
      | take s _ _ => cases s <;> cases hn
      | two s _ _ _ => cases s <;> cases hn
      | iff _ _ _ => cases hn
    | iff a r o =>
      cases e with
      | iff a' r' o' =>
        obtain ⟨p, q1, vs, q3, vs3, rfl, h1, h2, h3, h4, h5, h6⟩ := h
        obtain ⟨q, q2, us, q4, us4, rfl, g1, g2, g3, g4, g5, g6⟩ := g
        rw [Dd.deep] at hd he
        refine ⟨p, q, _, _, [true, decide (a = a'), decide (r = r'), decide (o = o')], rfl, rfl, h1, g1, prs_cons fs (fun _ => prs_cons (fi a a') (fun _ => prs_cons (.inr ⟨q1, q2, r, r', rfl, rfl, ⟨vs, h3, h4⟩, ⟨us, g3, g4⟩, by omega, by omega, rfl⟩) (fun _ => prs_cons (.inr ⟨q3, q4, o, o', rfl, rfl, ⟨vs3, h5, h6⟩, ⟨us4, g5, g6⟩, by omega, by omega, rfl⟩) (fun _ => prs_nil) rfl) rfl) rfl) rfl, ?_⟩
        rw [tells_cons, tells_cons, tells_cons, tells_cons, tells_nil]
        by_cases e1 : a = a' <;> by_cases e2 : r = r' <;> by_cases e3 : o = o' <;> simp [e1, e2, e3]
      | told _ _ => cases hn
      | take s _ _ => cases s <;> cases hn
      | two s _ _ _ => cases s <;> cases hn
      | wh _ _ => cases hn
  · obtain ⟨p, xs, rfl, h1, _⟩ := shape d h
    obtain ⟨q, ys, rfl, g1, _⟩ := shape e g
    refine ⟨p, q, _, _, _, rfl, rfl, h1, g1, prs_kind hk, ?_⟩
    rw [tells_cons, kind_ne hk]
    rfl
theorem rows_prs {K : PySem.W.Frag} {C : Addr} {n : Nat} {H : Hp} : ∀ (r u : List Dd) (xs ys : List V), DsAt K C H xs r → DsAt K C H ys u → deepR r ≤ n → deepR u ≤ n → ∃ bs, PrsT (TDd K C n) xs ys bs H ∧ tells xs ys bs = decide (r = u)
  | [], [], xs, ys, h, g, _, _ => by
    have e1 : xs = [] := h
    have e2 : ys = [] := g
    subst e1 e2
    exact ⟨[], prs_nil, by rw [tells_nil, decide_eq_true rfl]⟩
  | [], e :: u, xs, ys, h, g, _, _ => by
    have e1 : xs = [] := h
    obtain ⟨v, us, rfl, _⟩ := g
    subst e1
    exact ⟨[], ⟨by simp, fun i x y b h1 _ _ _ => by simp at h1⟩, by rw [decide_eq_false (by simp)]; rfl⟩
  | d :: r, [], xs, ys, h, g, _, _ => by
    have e2 : ys = [] := g
    obtain ⟨v, us, rfl, _⟩ := h
    subst e2
    exact ⟨[], ⟨by simp, fun i x y b _ h2 _ _ => by simp at h2⟩, by rw [decide_eq_false (by simp)]; rfl⟩
  | d :: r, e :: u, xs, ys, h, g, hr, hu => by
    obtain ⟨v, vs, rfl, h1, h2⟩ := h
    obtain ⟨v', us, rfl, g1, g2⟩ := g
    rw [deepR] at hr hu
    have m1 := Nat.le_max_left d.deep (deepR r)
    have m2 := Nat.le_max_right d.deep (deepR r)
    have m3 := Nat.le_max_left e.deep (deepR u)
    have m4 := Nat.le_max_right e.deep (deepR u)
    obtain ⟨bs, p, t⟩ := rows_prs (n := n) r u vs us h2 g2 (by omega) (by omega)
    refine ⟨decide (d = e) :: bs, prs_cons ⟨d, e, h1, g1, by omega, by omega, rfl⟩ (fun _ => p) p.1, ?_⟩
    rw [tells_cons, t]
    by_cases e1 : d = e <;> by_cases e2 : r = u <;> simp [e1, e2]
section
variable {X : Cx} {C : Addr}
/-- == of rows, of deeds, of their parts -/
theorem eqT_rows (S : Spc X.prog X.w X.K X.mg X.base C "__eq__" 2 ["self", "other"] (spEqT C)) : ∀ n, EqT X (2 * n + 2) (TRow X.K C n) ∧ RcT X .Eq id (2 * n + 2) (TRow X.K C n) ∧ RcT X .NotEq not (2 * n + 2) (TRow X.K C n) := by
  intro n
  induction n with
  | zero =>
    refine ⟨fun A pins s σ H x y u v r sb I rx ry d => ?_, fun A pins s σ H x y u v r sb I rx ry d => ?_, fun A pins s σ H x y u v r sb I rx ry d => ?_⟩ <;>
    · obtain ⟨q, q2, a, b, _, _, _, _, h, _⟩ := d
      exact absurd h (Nat.not_lt_zero _)
  | succ n ih =>
    have hp : EqT X (2 * n + 2) (TPart X.K C n) := ((eqT_flat.mono (Nat.zero_le _)).or ((eqT_thing S).mono (by omega))).or ih.1
    have hd1 : EqT X (2 * n + 3) (TDd X.K C n) := by
      refine EqT.imp (D := fun x y b H => TTup X.K (TPart X.K C n) x y b H ∧ TDd X.K C n x y b H) ?_ (fun x y b H d => ?_)
      · refine RcT.eqT (fun A pins s σ H x y u v r sb I rx ry d => rcT_tup_eq TPart_mon hp A pins s σ H x y u v r sb I rx ry d.1) (fun x y r H d => ?_) fun pins s σ H x r I d => ?_
        · obtain ⟨a, b, _, _, _, hx, hy, _⟩ := d.1
          exact ⟨a, b, hx, hy⟩
        · obtain ⟨_, d, e, h1, h2, _, _, rfl⟩ := d
          exact decide_eq_true (DAt_inj I d e x h1 h2)
      · obtain ⟨d', e, h, g, hd, he, rfl⟩ := id d
        obtain ⟨p, q, xs, ys, bs, ex, ey, h1, h2, h3, h4⟩ := deeds_prs h g hd he
        exact ⟨⟨p, q, xs, ys, bs, ex, ey, h1, h2, h3, h4.symm⟩, d⟩
    have tt : ∀ x y b H, TRow X.K C (n + 1) x y b H → TTup X.K (TDd X.K C n) x y b H := by
      intro x y b H d
      obtain ⟨q, q2, r, u, ex, ey, ⟨vs, h1, h2⟩, ⟨us, g1, g2⟩, h3, h4, rfl⟩ := d
      obtain ⟨bs, p, t⟩ := rows_prs r u vs us h2 g2 (Nat.lt_succ_iff.mp h3) (Nat.lt_succ_iff.mp h4)
      exact ⟨q, q2, vs, us, bs, ex, ey, h1, g1, p, t.symm⟩
    have r1 : RcT X .Eq id (2 * (n + 1) + 2) (TRow X.K C (n + 1)) := fun A pins s σ H x y u v r sb I rx ry d => rcT_tup_eq TDd_mon hd1 A pins s σ H x y u v r sb I rx ry (tt _ _ _ _ d)
    have r2 : RcT X .NotEq not (2 * (n + 1) + 2) (TRow X.K C (n + 1)) := fun A pins s σ H x y u v r sb I rx ry d => rcT_tup_ne TDd_mon hd1 A pins s σ H x y u v r sb I rx ry (tt _ _ _ _ d)
    refine ⟨RcT.eqT r1 (fun x y r H d => ?_) fun pins s σ H x r I d => ?_, r1, r2⟩
    · obtain ⟨q, q2, _, _, ex, ey, _⟩ := d
      exact ⟨q, q2, ex, ey⟩
    · obtain ⟨q, q2, a, b, ex, ey, h1, h2, _, _, rfl⟩ := d
      cases ex
      cases ey
      exact decide_eq_true (RAt_inj I h1 h2)
end
end Js

set_option Elab.async false
set_option linter.all false
set_option maxRecDepth 100000
set_option maxHeartbeats 2000000
namespace Js
open PySem L2
abbrev sPInit : Stmt := inClass (top 22) 0
abbrev sPLen : Stmt := inClass (top 22) 2
abbrev sPEq : Stmt := inClass (top 22) 3
theorem n_dp : ¬ (("deeds" : Str) = "plan") := by decide +kernel
theorem n_pd : ¬ (("plan" : Str) = "deeds") := by decide +kernel
def pf (q pl : Addr) : List (Str × V) := putF "plan" (.ref pl) (putF "deeds" (.ref q) [])
theorem pf_deeds (q pl : Addr) : (pf q pl).lookup ("deeds" : Str) = some (.ref q) := by
  unfold pf
  rw [lookup_putF, if_neg n_dp, lookup_putF, if_pos rfl]
theorem pf_plan (q pl : Addr) : (pf q pl).lookup ("plan" : Str) = some (.ref pl) := by
  unfold pf
  rw [lookup_putF, if_pos rfl]
/-- tuples and things stay -/
structure Fr (H H' : Hp) : Prop where
  t : ∀ a xs, H a = some (.tup xs) → H' a = some (.tup xs)
  z : ∀ a o xs, H a = some (.frz o (.tup xs)) → H' a = some (.frz o (.tup xs))
  i : ∀ a C dx f s n, H a = some (.ins C dx (tf f s n)) → H' a = some (.ins C dx (tf f s n))
theorem Fr.kb {H H' : Hp} {p D dx : Addr} (hp : H p = some (.ins D dx [])) (k : KB p H H') : Fr H H' :=
  ⟨fun a xs h => k _ _ (fun z => by rw [z, hp] at h; cases h) h, fun a o xs h => k _ _ (fun z => by rw [z, hp] at h; cases h) h, fun a C dx f s n h => k _ _ (fun z => by
    rw [z, hp] at h
    have e := Option.some.inj h
    injection e with _ _ e3
    have := tf_size f s n
    rw [← e3] at this
    cases this) h⟩
theorem Th.fr {C : Addr} {H H' : Hp} (k : Fr H H') {a : Addr} {t : Tr} (h : Th C H a t) : Th C H' a t := by
  induction h with
  | nil h => exact .nil (k.i _ _ _ _ _ _ h)
  | pr h _ _ ih1 ih2 => exact .pr (k.i _ _ _ _ _ _ h) ih1 ih2
theorem sqt_fr {K : PySem.W.Frag} {H H' : Hp} (k : Fr H H') {a : Addr} {xs : List V} (h : SqT K H a xs) : SqT K H' a xs :=
  h.elim (fun h => .inl (h.elim (fun h => .inl (k.t _ _ h)) fun ⟨o, h⟩ => .inr ⟨o, k.z _ _ _ h⟩)) fun h => .inr h
mutual
theorem DAt_fr {K : PySem.W.Frag} {C : Addr} {H H' : Hp} (k : Fr H H') : ∀ (d : Dd) (v : V), DAt K C H v d → DAt K C H' v d
  | .told a t, v, h => by
    obtain ⟨p, x, e, h1, h2, h3, h4⟩ := h
    exact ⟨p, x, e, sqt_fr k h1, h2, h3.fr k, h4⟩
  | .take s a b, v, h => by
    obtain ⟨p, e, h1, h2⟩ := h
    exact ⟨p, e, sqt_fr k h1, h2⟩
  | .two s a b c, v, h => by
    obtain ⟨p, e, h1, h2⟩ := h
    exact ⟨p, e, sqt_fr k h1, h2⟩
  | .wh a r, v, h => by
    obtain ⟨p, q, vs, e, h1, h2, h3, h4⟩ := h
    exact ⟨p, q, vs, e, sqt_fr k h1, h2, sqt_fr k h3, DsAt_fr k r vs h4⟩
  | .iff a r o, v, h => by
    obtain ⟨p, q, vs, q2, vs2, e, h1, h2, h3, h4, h5, h6⟩ := h
    exact ⟨p, q, vs, q2, vs2, e, sqt_fr k h1, h2, sqt_fr k h3, DsAt_fr k r vs h4, sqt_fr k h5, DsAt_fr k o vs2 h6⟩
theorem DsAt_fr {K : PySem.W.Frag} {C : Addr} {H H' : Hp} (k : Fr H H') : ∀ (r : List Dd) (vs : List V), DsAt K C H vs r → DsAt K C H' vs r
  | [], vs, h => h
  | d :: r, vs, h => by
    obtain ⟨v, us, e, h1, h2⟩ := h
    exact ⟨v, us, e, DAt_fr k d v h1, DsAt_fr k r us h2⟩
end
theorem RAt.fr {K : PySem.W.Frag} {C : Addr} {H H' : Hp} (k : Fr H H') {q : Addr} {r : List Dd} (h : RAt K C H q r) : RAt K C H' q r := by
  obtain ⟨vs, h1, h2⟩ := h
  exact ⟨vs, sqt_fr k h1, DsAt_fr k r vs h2⟩
theorem pls_fr {K : PySem.W.Frag} {C : Addr} {H H' : Hp} (k : Fr H H') : ∀ {ys : List V} {ps : List (Dd × List Nat)}, Paired (PlE K C H) ys ps → Paired (PlE K C H') ys ps
  | _, _, .nil => .nil
  | _, _, .cons ⟨t, wv, dv, e, h1, h2, h3⟩ u => .cons ⟨t, wv, dv, e, k.t _ _ h1, k.t _ _ h2, DAt_fr k _ _ h3⟩ (pls_fr k u)
/-- what the text says of Program -/
structure TxtP (K : PySem.W.Frag) (mg : Str → Option Value) (CP : Addr) : Prop where
  cl : Cls K CP
  nD : NoAttr K CP "deeds"
  nP : NoAttr K CP "plan"
  mgP : mg "Program" = some (.ref CP)
  ca : PySem.W.findIn K (.ref CP) "__class__" = some (some (.builtin "object.__class__"))
  cn : PySem.W.specialIn K (.builtin "object.__class__") "__get__" = some (some (.builtin "getset_descriptor.__get__"))
  ct : PySem.W.takesIn K (.builtin "object.__class__") = some true
  cm : PySem.W.mroIn K CP (.type "object") = some true
  ne : PySem.W.findIn K (.ref CP) "__ne__" = some (some (.builtin "object.__ne__"))
/-- a program stands at a -/
structure PgAt (K : PySem.W.Frag) (C CP : Addr) (H : Hp) (a : Addr) (r : List Dd) : Prop where
  ex : ∃ dx q pl ys, H a = some (.ins CP dx (pf q pl)) ∧ RAt K C H q r ∧ H pl = some (.tup ys) ∧ Paired (PlE K C H) ys (layR r (manyR r) 0)
  dp : deepR r ≤ 8
  mn : manyR r ≤ 4000
theorem PgAt.kt {K : PySem.W.Frag} {C CP : Addr} {H H' : Hp} (k : KT H H') {a : Addr} {r : List Dd} (h : PgAt K C CP H a r) : PgAt K C CP H' a r := by
  obtain ⟨dx, q, pl, ys, h1, h2, h3, h4⟩ := h.ex
  exact ⟨⟨dx, q, pl, ys, k _ _ h1 (fun _ e => nomatch e), h2.kt k, k _ _ h3 (fun _ e => nomatch e), pls_kt k h4⟩, h.dp, h.mn⟩
theorem PgAt.same {K : PySem.W.Frag} {C CP : Addr} {H H' : Hp} (s : Same H H') {a : Addr} {r : List Dd} (h : PgAt K C CP H a r) : PgAt K C CP H' a r := h.kt (KT.of s)
def spPInit (K : PySem.W.Frag) (C CP : Addr) : Sp := fun vs H Q _ => ∃ (p dx q : Addr) (r : List Dd), vs = [.ref p, .ref q] ∧ H p = some (.ins CP dx []) ∧ RAt K C H q r ∧ deepR r ≤ 8 ∧ manyR r ≤ 4000 ∧
  ∀ pl ys H', KB p H H' → H' p = some (.ins CP dx (pf q pl)) → H' pl = some (.tup ys) → RAt K C H' q r → Paired (PlE K C H') ys (layR r (manyR r) 0) → Q .non H'
def spPLen (K : PySem.W.Frag) (C CP : Addr) : Sp := fun vs H Q _ => ∃ a r, vs = [.ref a] ∧ PgAt K C CP H a r ∧ Q (.int ((manyR r : Nat) : Int)) H
def spPEq (K : PySem.W.Frag) (C CP : Addr) : Sp := fun vs H Q _ => ∃ a b r u, vs = [.ref a, .ref b] ∧ PgAt K C CP H a r ∧ PgAt K C CP H b u ∧ ∀ H', Same H H' → Q (.bl (decide (r = u))) H'
section
variable {P : Program} {w : World} {K : PySem.W.Frag} {mg : Str → Option Value} {base : Heap} {C CP : Addr}
theorem scPI : FnScope ["self", "deeds", "ends", "plan"] ["self", "deeds"] (defScope sPInit) := ⟨rfl, rfl, rfl, by decide +kernel, rfl, by decide +kernel, by decide +kernel⟩
theorem ok_pinit {f : Addr} {fd : FuncData} (F : Fun K "__init__" "Program.__init__" sPInit f fd) (B : Blt mg) (T : Txt K mg C) (G : FrmC K w mg) (TP : TxtP K mg CP) (DL : Def P w K mg base "look_through" 13 ["row", "floors", "ends"] (spLook K C 9)) (DY : Def P w K mg base "lay_out" 11 ["row", "behind", "ends", "plan"] (spLay K C 9)) : FnOk P w K mg base CX0 14 f fd ["self", "deeds"] (spPInit K C CP) := by
  refine F.ok scPI (fun vs H Q E h => ?_) (fun cdv A outer s H vs Q E hr h => ?_)
  · obtain ⟨p, dx, q, r, rfl, _⟩ := h
    rfl
  · obtain ⟨p, dx, q, r, rfl, hp, hq, hd, hm, k⟩ := h
    have hr11 : Room 11 _ := hr.mono (by decide)
    refine ⟨_, PSs.nox (pss_cons (ps_if (pt_not (pt_val (pe_callB (r := rIsi K) call_isi (by rfl) T.isi PyProof.Rows.boot_isinstance (pa_cons (pv 1) (pa_cons (pe_bltn (v := .ty "tuple") rfl G.mt PyProof.Rows.boot_tuple rfl) pa_nil))))) (pss_one ps_never) pss_nil) (pss_cons (ps_set (i := 2) scPI.nd rfl (Or.inl rfl) (pe_lst pa_nil)) (pss_cons (ps_expr (pe_def DL hr rfl (pa_cons (pv 1) (pa_cons pe_int (pa_cons (pv 2) pa_nil))))) (pss_cons (ps_set (i := 3) scPI.nd rfl (Or.inl rfl) (pe_lst pa_nil)) (pss_cons (ps_expr (pe_def DY hr11 rfl (pa_cons (pv 1) (pa_cons (pe_callB call_len_seq (by rfl) B.len PySem.boot_len (pa_cons (pv 2) pa_nil)) (pa_cons (pv 2) (pa_cons (pv 3) pa_nil)))))) (pss_cons (ps_fld (pv 0) (pv 1) rfl) (pss_one (ps_fld (pv 0) (pe_callTy call_tuple_of (by rfl) G.mt PyProof.Rows.boot_tuple (pa_cons (pv 3) pa_nil)) rfl)))))))), ?_⟩
    have hsl := line4
    obtain ⟨vs, hqv, hvs⟩ := id hq
    refine ⟨_, rfl, _, _, _, _, true, rfl, .ty "tuple", sqt_ty hqv, G.tt, _, rfl, iteF ?_⟩
    refine ⟨Nat.zero_le _, fun e ne => ?_⟩
    have s1 : Same H (upd H e (.lst [])) := Same.new ne
    have he1 : (upd H e (.lst [])) e = some (.lst (numsV [])) := upd_same
    revert s1 he1
    generalize upd H e (.lst []) = H1
    intro s1 he1
    refine ⟨_, rfl, _, rfl, q, e, 0, r, [], rfl, hq.same s1, by omega, by omega, he1, by simpa using hm, fun H2 kb2 he2 => ?_⟩
    rw [List.nil_append] at he2
    have kt2 : KT H1 H2 := kb2.kt he1
    have hep : e ≠ p := fun z => by rw [z, hp] at ne; cases ne
    refine ⟨Nat.zero_le _, fun pn npn => ?_⟩
    have s3 : Same H2 (upd H2 pn (.lst [])) := Same.new npn
    have hpn3 : (upd H2 pn (.lst [])) pn = some (.lst []) := upd_same
    have hpe : e ≠ pn := fun z => by rw [← z, he2] at npn; cases npn
    have hpp : pn ≠ p := fun z => by
      have : H2 p = some (.ins CP dx []) := kb2 _ _ (Ne.symm hep) (s1 _ _ hp)
      rw [z, this] at npn
      cases npn
    revert s3 hpn3
    generalize upd H2 pn (.lst []) = H3
    intro s3 hpn3
    have he3 := s3 _ _ he2
    have hq3 : RAt K C H3 q r := ((hq.same s1).kt kt2).same s3
    refine ⟨_, rfl, _, rfl, e, _, rfl, .inl (SqL.of he3), ?_⟩
    rw [numsV_len, endsR_len]
    refine ⟨_, rfl, _, rfl, q, e, pn, manyR r, r, endsR r 0, [], rfl, hq3, by omega, he3, Pre.whole _, hpn3, hpe, by simpa using hm, fun H4 ys kb4 hp4 hys => ?_⟩
    rw [List.nil_append] at hp4
    have kt4 : KT H3 H4 := kb4.kt hpn3
    have hpz : H4 p = some (.ins CP dx []) := kb4 _ _ (Ne.symm hpp) (s3 _ _ (kb2 _ _ (Ne.symm hep) (s1 _ _ hp)))
    refine ⟨_, rfl, _, rfl, p, CP, dx, [], rfl, hpz, TP.cl, TP.nD, (by show 0 < 1000; decide), ?_⟩
    have hp5 : (upd H4 p (.ins CP dx (putF "deeds" (.ref q) []))) pn = some (.lst ys) := by rw [upd_ne hpp]; exact hp4
    refine ⟨_, rfl, pn, _, rfl, .inl ⟨SqL.of hp5, fun pl npl => ?_⟩⟩
    have hplp : pl ≠ p := fun z => by rw [z, upd_same] at npl; cases npl
    refine ⟨_, rfl, p, CP, dx, _, rfl, by rw [upd_ne (Ne.symm hplp)]; exact upd_same, TP.cl, TP.nP, Nat.lt_of_le_of_lt (length_putF _ _ _) (by show 0 + 1 < 1000; decide), ?_⟩
    have kbz : KB p H4 (upd (upd (upd H4 p (.ins CP dx (putF "deeds" (.ref q) []))) pl (.tup ys)) p (.ins CP dx (pf q pl))) := fun a o na ha => by
      have npl4 : H4 pl = none := by
        rw [upd_ne hplp] at npl
        exact npl
      rw [upd_ne na, upd_ne (ne_of_none ha npl4), upd_ne na]
      exact ha
    have kbH : KB p H H4 := fun a o na ha => by
      have nae : a ≠ e := ne_of_none ha ne
      have h2 := kb2 _ _ nae (s1 _ _ ha)
      have nan : a ≠ pn := ne_of_none h2 npn
      exact kb4 _ _ nan (s3 _ _ h2)
    have fr := Fr.kb hpz kbz
    refine k pl ys _ (kbH.trans kbz) ?_ ?_ ((hq3.kt kt4).fr fr) (pls_fr fr hys)
    · exact upd_same
    · rw [upd_ne hplp, upd_same]
theorem scPL : FnScope ["self"] ["self"] (defScope sPLen) := ⟨rfl, rfl, rfl, by decide +kernel, rfl, by decide +kernel, by decide +kernel⟩
theorem ok_plen {f : Addr} {fd : FuncData} (F : Fun K "__len__" "Program.__len__" sPLen f fd) (B : Blt mg) (TP : TxtP K mg CP) : FnOk P w K mg base CX0 1 f fd ["self"] (spPLen K C CP) := by
  refine F.ok scPL (fun vs H Q E h => ?_) (fun cdv A outer s H vs Q E hr h => ?_)
  · obtain ⟨a, r, rfl, _⟩ := h
    rfl
  · obtain ⟨a, r, rfl, ha, k⟩ := h
    refine ⟨_, pss_one (ps_ret (pe_callB call_len_seq (by rfl) B.len PySem.boot_len (pa_cons (pe_fld (pv 0) rfl) pa_nil))), ?_⟩
    obtain ⟨dx, q, pl, ys, h1, h2, h3, h4⟩ := ha.ex
    refine ⟨_, rfl, _, _, _, _, _, rfl, h1, TP.cl, TP.nP, pf_plan _ _, pl, ys, rfl, .inr (SqT.of h3), ?_⟩
    rw [Paired.length h4, layR_len]
    exact k
theorem scPE : FnScope ["self", "other"] ["self", "other"] (defScope sPEq) := ⟨rfl, rfl, rfl, by decide +kernel, rfl, by decide +kernel, by decide +kernel⟩
theorem ok_peq {f : Addr} {fd : FuncData} (F : Fun K "__eq__" "Program.__eq__" sPEq f fd) (T : Txt K mg C) (TP : TxtP K mg CP) (SE : Spc P w K mg base C "__eq__" 2 ["self", "other"] (spEqT C)) : FnOk P w K mg base CX0 21 f fd ["self", "other"] (spPEq K C CP) := by
  refine F.ok scPE (fun vs H Q E h => ?_) (fun cdv A outer s H vs Q E hr h => ?_)
  · obtain ⟨a, b, r, u, rfl, _⟩ := h
    rfl
  · obtain ⟨a, b, r, u, rfl, ha, hb, k⟩ := h
    refine ⟨_, pss_one (ps_ret (pe_and (pe_callB (r := rIsi K) call_isi (by rfl) T.isi PyProof.Rows.boot_isinstance (pa_cons (pv 1) (pa_cons (pe_glob (v := .ref CP) rfl TP.mgP rfl) pa_nil))) (pe_one (pe_cmpR (op_eqTl (eqT_rows SE 9).2.1 hr) (pe_fld (pv 0) rfl) (pe_fld (pv 1) rfl) (nomark _))))), ?_⟩
    obtain ⟨dx, q, pl, ys, h1, h2, h3, h4⟩ := ha.ex
    obtain ⟨dy, q2, pl2, ys2, g1, g2, g3, g4⟩ := hb.ex
    have d1 := ha.dp
    have d2 := hb.dp
    refine ⟨_, rfl, _, _, _, _, true, rfl, ClsV.own CP, .base (.ins g1 TP.cl TP.ca TP.cn TP.ct TP.cm), kit_self _ _, _, rfl, iteT ?_⟩
    exact ⟨_, rfl, _, _, _, _, _, rfl, h1, TP.cl, TP.nD, pf_deeds _ _, _, rfl, _, _, _, _, _, rfl, g1, TP.cl, TP.nD, pf_deeds _ _, decide (r = u), ⟨q, q2, r, u, rfl, rfl, h2, g2, by omega, by omega, rfl⟩, fun H' s' => k H' s'⟩
end
/-! making a program -/
structure MakerP (P : Program) (w : World) (K : PySem.W.Frag) (mg : Str → Option Value) (base : Heap) (C CP fI : Addr) (fdI : FuncData) : Prop where
  M : Mk K CP fI
  G : FnOk P w K mg base CX0 14 fI fdI ["self", "deeds"] (spPInit K C CP)
  mgP : mg "Program" = some (.ref CP)
  b : Binds K fdI ["self", "deeds"] []
def tP (K : PySem.W.Frag) (C CP : Addr) (t : TA) : TE := fun σ H Q => t σ H fun vs H1 => ∃ q r, vs = [.ref q] ∧ RAt K C H1 q r ∧ deepR r ≤ 8 ∧ manyR r ≤ 4000 ∧ ∀ z H', Same H1 H' → H1 z = none → PgAt K C CP H' z r → Q (.ref z) H'
theorem mk_pg {K : PySem.W.Frag} {C CP q : Addr} {H : Hp} {r : List Dd} {Q : VK} {E : XK} (hq : RAt K C H q r) (hd : deepR r ≤ 8) (hm : manyR r ≤ 4000) (k : ∀ z H', Same H H' → H z = none → PgAt K C CP H' z r → Q (.ref z) H') :
    ∀ x dx, H x = none → H dx = none → dx ≠ x → spPInit K C CP (.ref x :: ([.ref q] ++ [])) (upd (upd H dx (.own x)) x (.ins CP dx [])) (fun v H3 => v = .non ∧ Q (.ref x) H3) E := by
  intro x dx nx ndx ne
  have s0 : Same H (upd (upd H dx (.own x)) x (.ins CP dx [])) := fun b o e => by
    rw [upd_ne (ne_of_none e nx), upd_ne (ne_of_none e ndx)]
    exact e
  refine ⟨x, dx, q, r, rfl, upd_same, hq.same s0, hd, hm, fun pl ys H' kb h1 h2 h3 h4 => ⟨rfl, k x H' (fun b o e => kb _ _ (ne_of_none e nx) (s0 _ _ e)) nx ⟨⟨dx, q, pl, ys, h1, h3, h2, h4⟩, hd, hm⟩⟩⟩
section
open PyProof.Rows
variable {X : Cx} {C CP fI : Addr} {fdI : FuncData} {p pos : Pos} {e : Expr} {es : List Expr} {t : TA}
theorem pe_P (mk : MakerP X.prog X.w X.K X.mg X.base C CP fI fdI) (hr : Room 15 X.A) (hg : Gl X "Program") (ha : PA X (e :: es) t)
    (he : starEach (e :: es) X.env = (false, eval e X.env) :: starEach es X.env := by rfl) (hpl : (backTo pos (starEach es X.env)).any (·.1) = false := by rfl) : PE X (.Call (.Name "Program" p) (e :: es) [] pos) (tP X.K C CP t) := by
  refine ⟨fun pins s σ H Q I h => ?_⟩
  refine wpAny_Call_Name_kw (ld_glob I hg mk.mgP ?_ (by decide))
  refine PySem.W.callWith_K (h₀ := X.base) I.ok.mod.kin mk.M.kp (thn (ha.run pos pins s σ H _ I h) fun us s1 ⟨vs, H1, I1, r, q⟩ => ⟨I1.kIn, ?_⟩) he hpl
  obtain ⟨q, r', rfl, h1, h2, hz, k⟩ := q
  exact run_make mk.M mk.G hr mk.b .nil pass0 I1 r (mk_pg h1 h2 hz k)
end
end Js

set_option Elab.async false
set_option linter.all false
set_option maxRecDepth 100000
set_option maxHeartbeats 2000000
namespace Js
open PySem L2
/-! ### texts, by their signs -/
def tx (cs : List Nat) : Str := ⟨cs.toArray⟩
theorem tx_list (cs : List Nat) : (tx cs).cps.toList = cs := rfl
theorem tx_len (cs : List Nat) : (tx cs).length = cs.length := by
  show cs.toArray.size = _
  rw [List.size_toArray]
theorem tx_of (x : Str) : tx x.cps.toList = x := PyProof.Rows.ext_toList (by rw [tx_list])
theorem tx_text (t : Tr) : t.text = tx t.codes := rfl
theorem tx_append (a b : List Nat) : tx a ++ tx b = tx (a ++ b) := by
  apply PyProof.Rows.ext_toList
  rw [tx_list]
  show (a.toArray ++ b.toArray).toList = a ++ b
  simp
theorem tx_inj {a b : List Nat} (h : tx a = tx b) : a = b := by rw [← tx_list a, ← tx_list b, h]
def repl (n : Nat) (xs : List Nat) : List Nat := (List.replicate n xs).flatten
theorem repl_succ (n : Nat) (xs : List Nat) : repl (n + 1) xs = xs ++ repl n xs := by simp [repl, List.replicate_succ]
theorem repl_len (n : Nat) (xs : List Nat) : (repl n xs).length = n * xs.length := by
  induction n with
  | zero => simp [repl]
  | succ n ih => rw [repl_succ, List.length_append, ih, Nat.succ_mul]; omega
theorem foldl_repl (xs : Array Nat) : ∀ (n : Nat) (acc : Array Nat), ((List.replicate n xs).foldl (· ++ ·) acc).toList = acc.toList ++ repl n xs.toList
  | 0, acc => by simp [repl]
  | n + 1, acc => by
    rw [List.replicate_succ, List.foldl_cons, foldl_repl xs n, repl_succ]
    simp
theorem mul_tx (cs : List Nat) (n : Nat) : PySem.Txt.mul (tx cs) (n : Nat) = tx (repl n cs) := by
  unfold PySem.Txt.mul
  by_cases h : ((n : Nat) : Int) < 1
  · rw [if_pos h]
    have : n = 0 := by omega
    subst this
    rfl
  · rw [if_neg h]
    by_cases h2 : ((((n : Nat) : Int) == 1 || (tx cs).length == 0) = true)
    · rw [if_pos h2]
      rcases Bool.or_eq_true_iff.mp h2 with h3 | h3
      · have : n = 1 := by
          have := eq_of_beq h3
          omega
        subst this
        simp [repl]
      · have h4 : cs.length = 0 := by
          have := eq_of_beq h3
          rw [tx_len] at this
          exact this
        have h5 : cs = [] := List.length_eq_zero_iff.mp h4
        subst h5
        have : repl n [] = [] := by
          apply List.length_eq_zero_iff.mp
          rw [repl_len]
          simp
        rw [this]
    · rw [if_neg h2]
      apply PyProof.Rows.ext_toList
      rw [tx_list]
      show ((List.replicate ((n : Nat) : Int).toNat cs.toArray).foldl (· ++ ·) #[]).toList = _
      rw [foldl_repl, Int.toNat_natCast]
      simp
theorem mul_ok (x : Str) (n : Nat) (h : x.length * n ≤ 1000000) (hn : n ≤ 1000000) (hx : x.length ≤ 1000000) : PySem.MulOk x (n : Nat) := by
  have hs := sizeLine_eq
  refine ⟨?_, fun h1 h2 => ?_, fun h1 h2 => ?_⟩
  · rw [decide_eq_false (by omega), decide_eq_false (by omega)]
    rfl
  · intro z
    have h3 : (1000000 : Int) ≤ (2 ^ 63 - 1) / (n : Nat) := by
      have hp : (0 : Int) < (n : Nat) := by omega
      rw [Int.le_ediv_iff_mul_le hp]
      omega
    omega
  · unfold PySem.Builtin.Str.tooLong
    rw [Int.toNat_natCast]
    exact decide_eq_false (by omega)
section
variable {X : Cx}
theorem op_mulS : OpR X (binaryOp .Mult) (fun x y H Q => ∃ (cs : List Nat) (n : Nat), x = .str (tx cs) ∧ y = .int (n : Nat) ∧ cs.length * n ≤ 1000000 ∧ n ≤ 1000000 ∧ cs.length ≤ 1000000 ∧ Q (.str (tx (repl n cs))) H) := by
  intro pins s σ H x y v u Q I rx ry h
  obtain ⟨cs, n, rfl, rfl, h1, h2, h3, q⟩ := h
  obtain ⟨t, rfl⟩ := rx
  obtain ⟨t', rfl⟩ := ry
  refine PySem.SB.mul (mul_ok _ n (by rw [tx_len]; exact h1) h2 (by rw [tx_len]; exact h3)) fun tk k => ?_
  rw [mul_tx]
  exact ⟨.str _, H, I.tok k, ⟨tk, rfl⟩, q⟩
/-- s + t by their signs -/
theorem op_addX : OpR X (binaryOp .Add) (fun x y H Q => ∃ (a b : List Nat), x = .str (tx a) ∧ y = .str (tx b) ∧ a.length + b.length ≤ 1000000 ∧ Q (.str (tx (a ++ b))) H) :=
  OpR.imp op_add_str fun x y H Q h => by
    obtain ⟨a, b, rfl, rfl, h1, q⟩ := h
    have hs := sizeLine_eq
    exact ⟨_, _, rfl, rfl, by rw [tx_len, tx_len]; omega, by rw [tx_append]; exact q⟩
end
/-! ### how often a sign stands in a text -/
theorem chain_count (x : Str) (c : Nat) (hi : Nat) (hh : hi = x.length) : ∀ (cuts : List Nat) (a f : Nat), PySem.StrLaws.ChainG x ⟨#[c]⟩ hi a cuts f → (∀ k, f ≤ k → ¬ PySem.StrLaws.At x ⟨#[c]⟩ hi k) → cuts.length = (x.cps.toList.drop a).count c
  | [], a, f, h, hn => by
    have e : f = a := h
    subst e
    symm
    rw [List.length_nil, List.count_eq_zero]
    intro hm
    obtain ⟨j, hj⟩ := List.getElem?_of_mem hm
    rw [List.getElem?_drop] at hj
    subst hh
    exact hn (f + j) (by omega) ((PySem.StrLaws.subAt_one x c (f + j)).mpr hj)
  | d :: r, a, f, h, hn => by
    obtain ⟨h1, h2, h3, h4⟩ := h
    have ih := chain_count x c hi hh r (d + 1) f h4 hn
    subst hh
    have hd : x.cps.toList[d]? = some c := (PySem.StrLaws.subAt_one x c d).mp h2
    have hlt := (List.getElem?_eq_some_iff.mp hd).1
    have e1 : x.cps.toList.drop a = (x.cps.toList.drop a).take (d - a) ++ x.cps.toList.drop d := by
      have := List.take_append_drop (d - a) (x.cps.toList.drop a)
      rw [List.drop_drop] at this
      have e : a + (d - a) = d := by omega
      rw [e] at this
      exact this.symm
    have e2 : ((x.cps.toList.drop a).take (d - a)).count c = 0 := by
      rw [List.count_eq_zero]
      intro hm
      obtain ⟨j, hj⟩ := List.getElem?_of_mem hm
      have hj1 : j < d - a := by
        have := (List.getElem?_eq_some_iff.mp hj).1
        rw [List.length_take] at this
        omega
      rw [List.getElem?_take_of_lt hj1, List.getElem?_drop] at hj
      exact h3 (a + j) (by omega) (by omega) ((PySem.StrLaws.subAt_one x c (a + j)).mpr hj)
    have e3 : x.cps.toList.drop d = c :: x.cps.toList.drop (d + 1) := by
      rw [List.drop_eq_getElem_cons hlt, (List.getElem?_eq_some_iff.mp hd).2]
    rw [e1, List.count_append, e2, e3, List.count_cons_self, List.length_cons, ih]
    omega
theorem count_tx (cs : List Nat) (c : Nat) : PySem.Txt.count (tx cs) ⟨#[c]⟩ = ((cs.count c : Nat) : Int) := by
  unfold PySem.Txt.count
  obtain ⟨f, h1, h2⟩ := PySem.StrLaws.occ_tight (tx cs) ⟨#[c]⟩ (by show 1 ≤ 1; decide)
  rw [chain_count (tx cs) c _ rfl _ 0 f h1 h2, List.drop_zero, tx_list]
theorem count_codes : ∀ t : Tr, t.codes.count 40 = t.size
  | .nil => by decide
  | .pr l r => by
    simp only [Tr.codes, Tr.size, List.count_cons, List.count_append, count_codes l, count_codes r]
    simp
    omega
/-! ### slices -/
theorem cut_tx (cs : List Nat) (i j : Nat) (h : i ≤ j) (hj : j ≤ cs.length) : cutS (tx cs) (some (i : Nat)) (some (j : Nat)) = tx ((cs.drop i).take (j - i)) := by
  unfold cutS
  have e1 : min i cs.length = i := Nat.min_eq_left (by omega)
  rw [HT.sIx_nat, HT.sIx_nat, tx_len, tx_list, e1, Nat.min_eq_left hj]
  rfl
theorem cut_neg (cs : List Nat) (i j : Nat) (h : i + j ≤ cs.length) (h0 : 0 < j) : cutS (tx cs) (some (i : Nat)) (some (-(j : Nat) : Int)) = tx ((cs.drop i).take (cs.length - j - i)) := by
  unfold cutS
  have e : HT.sIx (tx cs).length (tx cs).length (some (-((j : Nat) : Int))) = cs.length - j := by
    rw [tx_len]
    show (if (-((j : Nat) : Int)) < 0 then _ else _) = _
    rw [if_pos (by omega)]
    omega
  rw [HT.sIx_nat, e, tx_len, tx_list, Nat.min_eq_left (by omega)]
  rfl
/-! ### how deep -/
def dp1 (c : Nat) : Int := if c = 40 then 1 else if c = 41 then -1 else 0
def dep (cs : List Nat) : Int := (cs.map dp1).sum
theorem dp40 : dp1 40 = 1 := rfl
theorem dep_nil : dep [] = 0 := rfl
theorem dep_cons (c : Nat) (cs : List Nat) : dep (c :: cs) = dp1 c + dep cs := by simp [dep]
theorem dep_append (a b : List Nat) : dep (a ++ b) = dep a + dep b := by simp [dep]
theorem dep_codes : ∀ t : Tr, dep t.codes = 0
  | .nil => rfl
  | .pr l r => by
    simp only [Tr.codes, dep_cons, dep_append, dep_codes l, dep_codes r, dep_nil]
    decide
theorem dep_take_append (a b : List Nat) (j : Nat) : dep ((a ++ b).take j) = if j ≤ a.length then dep (a.take j) else dep a + dep (b.take (j - a.length)) := by
  by_cases h : j ≤ a.length
  · rw [if_pos h, List.take_append_of_le_length h]
  · rw [if_neg h, List.take_append, List.take_of_length_le (by omega), dep_append]
theorem dep_nn : ∀ (t : Tr) (j : Nat), 0 ≤ dep (t.codes.take j)
  | .nil, 0 => by decide
  | .nil, j + 1 => by simp [Tr.codes, dep]; decide
  | .pr l r, 0 => by simp [dep]
  | .pr l r, j + 1 => by
    have hl := dep_nn l
    have hr := dep_nn r
    simp only [Tr.codes, List.take_succ_cons, dep_cons]
    rw [dep_take_append]
    split
    · have := hl j
      simp only [dp1]
      omega
    · rw [dep_take_append, dep_codes l]
      split
      · have := hr (j - l.codes.length)
        simp only [dp1]
        omega
      · rw [dep_codes r]
        match j - l.codes.length - r.codes.length with
        | 0 => simp [dep, dp1]
        | n + 1 => simp [dep, dp1]
/-- between the first sign and the last one some bracket is open -/
theorem dep_pos (t : Tr) (j : Nat) (h0 : 0 < j) (h1 : j < t.codes.length) : 0 < dep (t.codes.take j) := by
  cases t with
  | nil => simp [Tr.codes] at h1; omega
  | pr l r =>
    obtain ⟨j, rfl⟩ : ∃ i, j = i + 1 := ⟨j - 1, by omega⟩
    have hl := dep_nn l
    have hr := dep_nn r
    simp only [Tr.codes, List.length_cons, List.length_append, List.length_nil] at h1
    simp only [Tr.codes, List.take_succ_cons, dep_cons]
    rw [dep_take_append]
    split
    · have := hl j
      rw [dp40]
      omega
    · rw [dep_take_append, dep_codes l]
      split
      · have := hr (j - l.codes.length)
        rw [dp40]
        omega
      · omega
theorem codes_sign : ∀ (t : Tr) (c : Nat), c ∈ t.codes → c = 46 ∨ c = 40 ∨ c = 41
  | .nil, c, h => by simp [Tr.codes] at h; exact .inl h
  | .pr l r, c, h => by
    simp only [Tr.codes, List.mem_cons, List.mem_append, List.not_mem_nil, or_false] at h
    rcases h with h | h | h | h
    · exact .inr (.inl h)
    · exact codes_sign l c h
    · exact codes_sign r c h
    · exact .inr (.inr h)
theorem dot_eq : ((("." : Str))) = Tr.nil.text := by decide +kernel
theorem pr_not_dot (l r : Tr) : decide (V.str (Tr.pr l r).text = V.str ".") = false := by
  rw [dot_eq]
  exact decide_eq_false fun z => Tr.noConfusion (Tr.text_inj (V.str.inj z))
theorem nil_dot : decide (V.str Tr.nil.text = V.str ".") = true := by
  rw [dot_eq]
  simp
end Js

set_option Elab.async false
set_option linter.all false
set_option maxRecDepth 100000
set_option maxHeartbeats 2000000
namespace Js
open PySem L2
abbrev sNamesIn : Stmt := top 26
/-- the names of a deed, in their order -/
def Dd.names : Dd → List Nat
  | .told a _ => [a]
  | .take _ a b => [a, b]
  | .two _ a b c => [a, b, c]
  | .wh a _ => [a]
  | .iff a _ _ => [a]
def namesV (ns : List Nat) : List V := ns.map fun a => V.int ((a : Nat) : Int)
theorem cn (s : Str) (cs : List Nat) (h : s.cps = cs.toArray) : PySem.Txt.count s "n" = ((cs.count 110 : Nat) : Int) := by
  rw [show s = tx cs from by cases s; simp only [tx]; exact congrArg _ h, c_n, count_tx]
theorem cut1n (x : V) (its : List V) (n : Nat) (hn : n ≤ its.length) : cutV (x :: its) (some 1) (some (1 + (n : Int))) = its.take n := by
  have e : HT.sIx (its.length + 1) 0 (some 1) = 1 := by
    show min 1 (its.length + 1) = 1
    omega
  have e2 : HT.sIx (its.length + 1) (its.length + 1) (some (1 + (n : Int))) = n + 1 := by
    have : (1 + (n : Int)) = ((n + 1 : Nat) : Int) := by omega
    rw [this]
    show min (n + 1) (its.length + 1) = n + 1
    omega
  unfold cutV
  rw [List.length_cons, e, e2, List.drop_succ_cons, List.drop_zero, Nat.add_sub_cancel]
/-- the names stand behind the kind -/
theorem names_look {K : PySem.W.Frag} {C : Addr} {H : Hp} {v : V} : ∀ (d : Dd), DAt K C H v d → ∃ p its n, v = .ref p ∧ SqT K H p (.str (kindOf d) :: its) ∧ PySem.Txt.count (formOf d) "n" = ((n : Nat) : Int) ∧ n ≤ its.length ∧ its.take n = namesV d.names ∧ its.length ≤ 3 ∧ 1 ≤ n ∧ n < its.length + 1 ∧ (∀ a ∈ d.names, a < 10)
  | .told a t, h => by
    obtain ⟨p, x, e, h1, h2, h3, h4⟩ := h
    exact ⟨p, _, 1, e, h1, by rw [formOf, cn _ [110, 116] cps_nt]; rfl, by simp, rfl, by simp, by simp, by simp, by simp [Dd.names]; omega⟩
  | .take s a b, h => by
    obtain ⟨p, e, h1, h2, h3⟩ := h
    exact ⟨p, _, 2, e, h1, by rw [formOf, cn _ [110, 110] cps_nn]; rfl, by simp, rfl, by simp, by simp, by simp, by simp [Dd.names]; omega⟩
  | .two s a b c, h => by
    obtain ⟨p, e, h1, h2, h3, h4⟩ := h
    exact ⟨p, _, 3, e, h1, by rw [formOf, cn _ [110, 110, 110] cps_nnn]; rfl, by simp, rfl, by simp, by simp, by simp, by simp [Dd.names]; omega⟩
  | .wh a r, h => by
    obtain ⟨p, q, vs, e, h1, h2, h3, h4⟩ := h
    exact ⟨p, _, 1, e, h1, by rw [formOf, cn _ [110, 114] cps_nr]; rfl, by simp, rfl, by simp, by simp, by simp, by simp [Dd.names]; omega⟩
  | .iff a r o, h => by
    obtain ⟨p, q, vs, q2, vs2, e, h1, h2, h3, h4, h5, h6⟩ := h
    exact ⟨p, _, 1, e, h1, by rw [formOf, cn _ [110, 114, 114] cps_nrr]; rfl, by simp, rfl, by simp, by simp, by simp, by simp [Dd.names]; omega⟩
def spNamesIn (K : PySem.W.Frag) (C : Addr) : Sp := fun vs H Q _ => ∃ v d, vs = [v] ∧ DAt K C H v d ∧ ∀ p H', Same H H' → SqT K H' p (namesV d.names) → Q (.ref p) H'
section
variable {P : Program} {w : World} {K : PySem.W.Frag} {mg : Str → Option Value} {base : Heap} {C : Addr}
theorem scNI : FnScope ["deed"] ["deed"] (defScope sNamesIn) := ⟨rfl, rfl, rfl, by decide +kernel, rfl, by decide +kernel, by decide +kernel⟩
theorem ok_namesIn {f : Addr} {fd : FuncData} (F : Fun K "names_in" "names_in" sNamesIn f fd) (G : FrmC K w mg) : FnOk P w K mg base CX0 1 f fd ["deed"] (spNamesIn K C) := by
  obtain ⟨dF, es, n, mF, kd, hk⟩ := G.ex
  refine F.ok scNI (fun vs H Q E h => ?_) (fun cdv A outer s H vs Q E hr h => ?_)
  · obtain ⟨v, d, rfl, _⟩ := h
    rfl
  · obtain ⟨v, d, rfl, hd, k⟩ := h
    refine ⟨_, pss_one (ps_ret (pe_slice sl_tup (pv 0) (po_some pe_int) (po_some (pe_op op_add pe_int (pe_m1 PySem.F.slot_str_count PySem.F.type_str_count mt_count (pe_ix (r := rIxD K w) ix_kdict (pe_glob (v := .ref dF) rfl mF rfl) (pe_ix (r := rIxT K) ix_tup (pv 0) pe_int (fun _ _ => rfl)) (fun _ _ => rfl)) pe_str))))), ?_⟩
    obtain ⟨p, its, m, rfl, hp, hc, hm, hn, hl3, hm1, hm2, _⟩ := names_look d hd
    obtain ⟨tk, hk⟩ := hk _ (form_in d)
    have hsl := line4
    refine ⟨_, rfl, _, rfl, _, rfl, p, _, 0, _, rfl, rfl, hp, at0 _ _, dF, _, .str (formOf d), rfl, rfl, ⟨es, n, _, kd.at_, kd.lit, hk, ⟨_, rfl⟩⟩, ?_⟩
    refine ⟨⟨_, rfl⟩, _, _, rfl, rfl, ?_⟩
    rw [hc]
    refine ⟨_, _, rfl, rfl, _, rfl, p, _, rfl, hp, ?_, fun q nq => ?_⟩
    · rintro ⟨h0, _⟩
      have e : HT.sIx (its.length + 1) 0 (some 1) = 1 := by
        show min 1 (its.length + 1) = 1
        omega
      rw [List.length_cons, e] at h0
      cases h0
    rw [cut1n _ _ _ hm, hn]
    exact k q _ (Same.new nq) (SqT.of upd_same)
end
end Js

set_option Elab.async false
set_option linter.all false
set_option maxRecDepth 100000
set_option maxHeartbeats 2000000
namespace Js
open PySem L2
abbrev sRowW : Stmt := top 30
abbrev sDeedW : Stmt := top 31
def letS : Nat → Str
  | 0 => "a" | 1 => "b" | 2 => "c" | 3 => "d" | 4 => "e" | 5 => "f" | 6 => "g" | 7 => "h" | 8 => "i" | _ => "j"
/-! the words of deeds; wordsT has a sign ahead of each deed -/
mutual
def Dd.words : Dd → List Str
  | .told a t => [letS a, ("=" : Str), t.text]
  | .take s a b => [letS a, ("=" : Str), takeS s, letS b]
  | .two s a b c => [letS a, ("=" : Str), twoS s, letS b, letS c]
  | .wh a r => [("while" : Str), letS a] ++ (("[" : Str) :: ((wordsT r).drop 1 ++ [("]" : Str)]))
  | .iff a r o => [("if" : Str), letS a] ++ (("[" : Str) :: ((wordsT r).drop 1 ++ [("]" : Str)])) ++ (("[" : Str) :: ((wordsT o).drop 1 ++ [("]" : Str)]))
def wordsT : List Dd → List Str
  | [] => []
  | d :: r => (";" : Str) :: (d.words ++ wordsT r)
end
def wordsR (r : List Dd) : List Str := (wordsT r).drop 1
def wordsL (rs : List (List Dd)) : List Str := rs.flatMap fun r => ("[" : Str) :: (wordsR r ++ [("]" : Str)])
def strV (xs : List Str) : List V := xs.map V.str
theorem strV_app (xs ys : List Str) : strV (xs ++ ys) = strV xs ++ strV ys := List.map_append
theorem strV_len (xs : List Str) : (strV xs).length = xs.length := List.length_map _
theorem wordsT_app : ∀ (a b : List Dd), wordsT (a ++ b) = wordsT a ++ wordsT b
  | [], b => by rw [List.nil_append, wordsT, List.nil_append]
  | d :: a, b => by rw [List.cons_append, wordsT, wordsT_app a b, wordsT, List.cons_append, List.append_assoc]
theorem wordsT_one (d : Dd) : wordsT [d] = (";" : Str) :: d.words := by rw [wordsT, wordsT, List.append_nil]
theorem words_ne : ∀ d : Dd, d.words ≠ []
  | .told _ _ => by simp [Dd.words]
  | .take _ _ _ => by simp [Dd.words]
  | .two _ _ _ _ => by simp [Dd.words]
  | .wh _ _ => by simp [Dd.words]
  | .iff _ _ _ => by simp [Dd.words]
theorem wordsR_nil : wordsR [] = [] := by rw [wordsR, wordsT]; rfl
theorem wordsR_first (d : Dd) : wordsR [d] = d.words := by rw [wordsR, wordsT_one]; rfl
theorem wordsR_snoc (a : List Dd) (d : Dd) (h : a ≠ []) : wordsR (a ++ [d]) = wordsR a ++ [(";" : Str)] ++ d.words := by
  cases a with
  | nil => exact absurd rfl h
  | cons x a => rw [wordsR, wordsT_app, wordsT_one, wordsR, wordsT, List.cons_append, List.drop_succ_cons, List.drop_zero, List.drop_succ_cons, List.drop_zero]; simp
theorem wordsR_ne (a : List Dd) (h : a ≠ []) : wordsR a ≠ [] := by
  cases a with
  | nil => exact absurd rfl h
  | cons x a =>
    rw [wordsR, wordsT, List.drop_succ_cons, List.drop_zero]
    intro z
    exact words_ne x (List.append_eq_nil_iff.mp z).1
mutual
theorem words_len : ∀ d : Dd, d.words.length + 1 ≤ 8 * d.many
  | .told _ _ => by rw [many_told]; simp [Dd.words]
  | .take _ _ _ => by rw [many_take]; simp [Dd.words]
  | .two _ _ _ _ => by rw [many_two]; simp [Dd.words]
  | .wh a r => by
    have := wordsT_len r
    rw [many_wh]
    simp only [Dd.words, List.length_append, List.length_cons, List.length_nil, List.length_drop]
    omega
  | .iff a r o => by
    have := wordsT_len r
    have := wordsT_len o
    rw [many_iff]
    simp only [Dd.words, List.length_append, List.length_cons, List.length_nil, List.length_drop]
    omega
theorem wordsT_len : ∀ r : List Dd, (wordsT r).length ≤ 8 * manyR r
  | [] => by rw [wordsT]; exact Nat.zero_le _
  | d :: r => by
    have := words_len d
    have := wordsT_len r
    rw [many_cons, wordsT]
    simp only [List.length_append, List.length_cons]
    omega
end
theorem wordsR_len (r : List Dd) : (wordsR r).length ≤ 8 * manyR r := by
  have := wordsT_len r
  rw [wordsR, List.length_drop]
  omega
def spRowW (K : PySem.W.Frag) (C : Addr) (n : Nat) : Sp := fun vs H Q _ => ∃ q r, vs = [.ref q] ∧ RAt K C H q r ∧ deepR r < n ∧ manyR r ≤ 4000 ∧ ∀ p H', Same H H' → H p = none → H' p = some (.lst (strV (wordsR r))) → Q (.ref p) H'
def spDeedW (K : PySem.W.Frag) (C : Addr) (n : Nat) : Sp := fun vs H Q _ => ∃ v d, vs = [v] ∧ DAt K C H v d ∧ d.deep < n ∧ d.many ≤ 4000 ∧ ∀ p H', Same H H' → H p = none → H' p = some (.lst (strV d.words)) → Q (.ref p) H'
section
variable {P : Program} {w : World} {K : PySem.W.Frag} {mg : Str → Option Value} {base : Heap} {C : Addr}
theorem scRW : FnScope ["row", "words", "deed"] ["row"] (defScope sRowW) := ⟨rfl, rfl, rfl, by decide +kernel, rfl, by decide +kernel, by decide +kernel⟩
theorem ok_rowW {f fD : Addr} {fd fdD : FuncData} (F : Fun K "row_words" "row_words" sRowW f fd) (FD : Fun K "deed_words" "deed_words" sDeedW fD fdD) (mgd : mg "deed_words" = some (.ref fD)) (bd : Binds K fdD ["deed"] []) (m n : Nat) (GD : FnOk P w K mg base CX0 m fD fdD ["deed"] (spDeedW K C n)) : FnOk P w K mg base CX0 (m + 1) f fd ["row"] (spRowW K C n) := by
  refine F.ok scRW (fun vs H Q E h => ?_) (fun cdv A outer s H vs Q E hr h => ?_)
  · obtain ⟨q, r, rfl, _⟩ := h
    rfl
  · obtain ⟨q, r, rfl, ⟨vs, hq, hvs⟩, hdp, hmn, k⟩ := h
    refine ⟨_, pss_cons (ps_set (i := 1) scRW.nd rfl (Or.inl rfl) (pe_lst pa_nil)) (pss_cons (ps_for PassesOwn.never rfl (pi_tup (pv 0)) (pg_name (i := 2) scRW.nd rfl (Or.inl rfl)) (pss_cons (ps_if (pt_truth (pv 1) (by intro _; rfl)) (pss_one (ps_expr (pe_bm PySem.F.plainAttrs_list PySem.F.slot_list_append PySem.F.type_list_append mt_append (pv 1) (pa_cons pe_str pa_nil)))) pss_nil) (pss_one (ps_expr (pe_bm PySem.F.plainAttrs_list PySem.F.slot_list_extend PySem.F.type_list_extend mt_extend (pv 1) (pa_cons (pe_call GD hr rfl mgd FD.kp bd .nil pass0 (pa_cons (pv 2) pa_nil)) pa_nil)))))) (pss_one (ps_ret (pv 1)))), ?_⟩
    have hsl := line4
    have hlen := DsAt.length r vs hvs
    refine ⟨Nat.zero_le _, fun l nl => ?_⟩
    refine ⟨_, rfl, q, rfl, ⟨_, sqt_kt (KT.of (Same.new nl)) hq⟩, for_tup (K := K) (a := q) (xs := vs) (fun i σ H' => ∃ x2 : Option V, σ = [some (.ref q), some (.ref l), x2] ∧ Same H H' ∧ H' l = some (.lst (strV (wordsR (r.take i))))) ⟨none, rfl, Same.new nl, by rw [upd_same, List.take_zero, wordsR_nil]; rfl⟩ (fun i σ H1 _ z => ?_) ?_ ?_⟩
    · obtain ⟨_, _, s1, _⟩ := z
      exact sqt_kt (KT.of s1) hq
    · rintro i v σ H1 hv ⟨x2, rfl, s1, hl1⟩
      obtain ⟨d, hd, hdv⟩ := DsAt.get r vs i v hvs hv
      have hdd := deepR_mem r d (List.mem_of_getElem? hd)
      have hmt := manyR_take r i d hd
      have hwl := wordsR_len (r.take i)
      have hdl := words_len d
      refine ⟨_, rfl, !(strV (wordsR (r.take i))).isEmpty, .inl ⟨_, SqL.of hl1, rfl⟩, ?_⟩
      by_cases h0 : r.take i = []
      · rw [h0, wordsR_nil] at hl1
        rw [h0, wordsR_nil]
        refine iteF ?_
        refine ⟨_, rfl, .inl ⟨rfl, _, SqL.of hl1⟩, _, rfl, v, d, rfl, DAt_kt (KT.of s1) d v hdv, by omega, by omega, fun p H2 s2 np hp => ?_⟩
        refine ⟨l, p, _, _, rfl, rfl, s2 _ _ hl1, hp, by rw [strV_len, strV_len, List.length_nil]; omega, ?_⟩
        refine ⟨_, rfl, (s1.trans s2).set nl, ?_⟩
        rw [upd_same, take_snoc hd, h0, List.nil_append, wordsR_first]
        rfl
      · have hne := wordsR_ne _ h0
        rw [show (!(strV (wordsR (r.take i))).isEmpty) = true from by
          cases e : wordsR (r.take i) with
          | nil => exact absurd e hne
          | cons _ _ => rfl]
        refine iteT ?_
        refine ⟨_, rfl, .inl ⟨rfl, _, SqL.of hl1⟩, l, _, _, rfl, rfl, hl1, by rw [strV_len]; omega, ?_⟩
        have s1' := s1.set (o := .lst (strV (wordsR (r.take i)) ++ [V.str ";"])) nl
        have hl2 : (upd H1 l (.lst (strV (wordsR (r.take i)) ++ [V.str ";"]))) l = some (.lst (strV (wordsR (r.take i)) ++ [V.str ";"])) := upd_same
        revert s1' hl2
        generalize upd H1 l (.lst (strV (wordsR (r.take i)) ++ [V.str ";"])) = H1'
        intro s1' hl2
        refine ⟨_, rfl, .inl ⟨rfl, _, SqL.of hl2⟩, _, rfl, v, d, rfl, DAt_kt (KT.of s1') d v hdv, by omega, by omega, fun p H2 s2 np hp => ?_⟩
        refine ⟨l, p, _, _, rfl, rfl, s2 _ _ hl2, hp, by rw [List.length_append, strV_len, strV_len, List.length_singleton]; omega, ?_⟩
        refine ⟨_, rfl, (s1'.trans s2).set nl, ?_⟩
        rw [upd_same, take_snoc hd, wordsR_snoc _ _ h0, strV_app, strV_app]
        rfl
    · rintro σ H1 ⟨x2, rfl, s1, hl1⟩
      refine ⟨_, rfl, ?_⟩
      rw [hlen, List.take_length] at hl1
      exact k l H1 s1 nl hl1
theorem scDW : FnScope ["deed", "kind", "letters", "inner", "words", "part", "name"] ["deed"] (defScope sDeedW) := ⟨rfl, rfl, rfl, by decide +kernel, rfl, by decide +kernel, by decide +kernel⟩
theorem let_at (a : Nat) (h : a < 10) : ∃ c, atI (("abcdefghij" : Str)).cps.toList ((a : Nat) : Int) = some c ∧ letS a = ⟨#[c]⟩ := by
  match a, h with
  | 0, _ => exact ⟨97, by decide +kernel, by decide +kernel⟩
  | 1, _ => exact ⟨98, by decide +kernel, by decide +kernel⟩
  | 2, _ => exact ⟨99, by decide +kernel, by decide +kernel⟩
  | 3, _ => exact ⟨100, by decide +kernel, by decide +kernel⟩
  | 4, _ => exact ⟨101, by decide +kernel, by decide +kernel⟩
  | 5, _ => exact ⟨102, by decide +kernel, by decide +kernel⟩
  | 6, _ => exact ⟨103, by decide +kernel, by decide +kernel⟩
  | 7, _ => exact ⟨104, by decide +kernel, by decide +kernel⟩
  | 8, _ => exact ⟨105, by decide +kernel, by decide +kernel⟩
  | 9, _ => exact ⟨106, by decide +kernel, by decide +kernel⟩
theorem words_rows : ∀ d : Dd, d.rows ≠ [] → d.words = [kindOf d, letS (d.names.headD 0)] ++ wordsL d.rows
  | .told _ _, h => absurd rfl h
  | .take _ _ _, h => absurd rfl h
  | .two _ _ _ _, h => absurd rfl h
  | .wh a r, _ => by simp [Dd.words, kindOf, Dd.names, Dd.rows, wordsL, wordsR]
  | .iff a r o, _ => by simp [Dd.words, kindOf, Dd.names, Dd.rows, wordsL, wordsR]
theorem words_flat : ∀ d : Dd, d.rows = [] → kindOf d ≠ ("told" : Str) → d.words = [letS (d.names.headD 0), ("=" : Str), kindOf d] ++ (d.names.map letS).drop 1
  | .told _ _, _, h => absurd rfl h
  | .take _ _ _, _, _ => by simp [Dd.words, kindOf, Dd.names]
  | .two _ _ _ _, _, _ => by simp [Dd.words, kindOf, Dd.names]
  | .wh a r, h, _ => by cases h
  | .iff a r o, h, _ => by cases h
theorem names_cons : ∀ d : Dd, ∃ a ns, d.names = a :: ns
  | .told a _ => ⟨a, _, rfl⟩
  | .take _ a _ => ⟨a, _, rfl⟩
  | .two _ a _ _ => ⟨a, _, rfl⟩
  | .wh a _ => ⟨a, _, rfl⟩
  | .iff a _ _ => ⟨a, _, rfl⟩
theorem told_of : ∀ d : Dd, kindOf d = ("told" : Str) → ∃ a t, d = .told a t
  | .told a t, _ => ⟨a, t, rfl⟩
  | .take false _ _, h => absurd (show ("first" : Str) = "told" from h) (by decide +kernel)
  | .take true _ _, h => absurd (show ("second" : Str) = "told" from h) (by decide +kernel)
  | .two false _ _ _, h => absurd (show ("pair" : Str) = "told" from h) (by decide +kernel)
  | .two true _ _ _, h => absurd (show ("same" : Str) = "told" from h) (by decide +kernel)
  | .wh _ _, h => absurd (show ("while" : Str) = "told" from h) (by decide +kernel)
  | .iff _ _ _, h => absurd (show ("if" : Str) = "told" from h) (by decide +kernel)
theorem names_few : ∀ d : Dd, d.names.length ≤ 3
  | .told _ _ => by simp [Dd.names]
  | .take _ _ _ => by simp [Dd.names]
  | .two _ _ _ _ => by simp [Dd.names]
  | .wh _ _ => by simp [Dd.names]
  | .iff _ _ _ => by simp [Dd.names]
theorem wordsL_snoc (a : List (List Dd)) (r : List Dd) : wordsL (a ++ [r]) = wordsL a ++ ((("[" : Str) :: wordsR r) ++ [("]" : Str)]) := by
  simp [wordsL]
theorem wordsL_len : ∀ rs : List (List Dd), (wordsL rs).length ≤ 8 * manyL rs + 2 * rs.length
  | [] => Nat.zero_le _
  | r :: rs => by
    have h1 := wordsL_len rs
    have h2 := wordsR_len r
    have e : wordsL (r :: rs) = (("[" : Str) :: (wordsR r ++ [("]" : Str)])) ++ wordsL rs := by simp [wordsL]
    rw [e, manyL]
    simp only [List.length_append, List.length_cons, List.length_nil]
    omega
theorem ok_deedW {f fR : Addr} {fd fdR : FuncData} {tL : Tok} (F : Fun K "deed_words" "deed_words" sDeedW f fd) (FR : Fun K "row_words" "row_words" sRowW fR fdR) (mgr : mg "row_words" = some (.ref fR)) (br : Binds K fdR ["row"] []) (B : Blt mg) (G : FrmC K w mg) (mL : mg "LETTERS" = some (.str "abcdefghij" tL)) (SS : Spc P w K mg base C "__str__" 2 ["self"] (spStr C)) (DN : Def P w K mg base "names_in" 1 ["deed"] (spNamesIn K C)) (DR : Def P w K mg base "rows_in" 1 ["deed"] (spRowsIn K C)) (m n : Nat) (hm : 4 ≤ m) (GR : FnOk P w K mg base CX0 m fR fdR ["row"] (spRowW K C n)) : FnOk P w K mg base CX0 (m + 1) f fd ["deed"] (spDeedW K C (n + 1)) := by
  refine F.ok scDW (fun vs H Q E h => ?_) (fun cdv A outer s H vs Q E hr h => ?_)
  · obtain ⟨v, d, rfl, _⟩ := h
    rfl
  · obtain ⟨v, d, rfl, hd, hdp, hmn, k⟩ := h
    have hr1 : Room 1 _ := hr.mono (by omega)
    have hr4 : Room 4 _ := hr.mono (by omega)
    refine ⟨_, pss_cons (ps_set (i := 1) scDW.nd rfl (Or.inl rfl) (pe_ix (r := rIxT K) ix_tup (pv 0) pe_int (fun _ _ => rfl))) (pss_cons (ps_setLc (i := 2) (own := [("name", 6)]) (g := gName 6) (tt := tYes) rfl scDW.nd rfl rfl rfl (pi_tup (pe_def DN hr1 rfl (pa_cons (pv 0) pa_nil))) (blkOk_by (N := ["deed", "kind", "letters", "inner", "words", "part", "name"]) (sc := defScope sDeedW) (by decide +kernel)) (fun _ _ _ _ _ => pg_name (i := 6) scDW.nd rfl (Or.inl rfl)) (fun _ _ _ _ _ => pts_nil) (fun _ _ _ _ _ => (pe_ix (r := rIxS) ix_str (pe_glob (v := .str "abcdefghij") rfl mL ⟨_, rfl⟩) (pv 6) (fun _ _ => rfl)))) (pss_cons (ps_if (pt_cmpR op_eq (pv 1) pe_str (nomark _)) (pss_one (ps_ret (pe_lst (pa_cons (pe_ix (r := rIxL K) ix_list (pv 2) pe_int (fun _ _ => rfl)) (pa_cons pe_str (pa_cons (pe_callTy (call_strT SS hr4) (by rfl) B.str PyProof.Rows.boot_str (pa_cons (pe_ix (r := rIxT K) ix_tup (pv 0) pe_int (fun _ _ => rfl)) pa_nil)) pa_nil)))))) pss_nil) (pss_cons (ps_set (i := 3) scDW.nd rfl (Or.inl rfl) (pe_def DR hr1 rfl (pa_cons (pv 0) pa_nil))) (pss_cons (ps_if (pt_not (pt_truth (pv 3) (by intro _; rfl))) (pss_one (ps_ret (pe_op op_cat (pe_lst (pa_cons (pe_ix (r := rIxL K) ix_list (pv 2) pe_int (fun _ _ => rfl)) (pa_cons pe_str (pa_cons (pv 1) pa_nil)))) (pe_slice sl_list (pv 2) (po_some pe_int) po_none)))) pss_nil) (pss_cons (ps_set (i := 4) scDW.nd rfl (Or.inl rfl) (pe_lst (pa_cons (pv 1) (pa_cons (pe_ix (r := rIxL K) ix_list (pv 2) pe_int (fun _ _ => rfl)) pa_nil)))) (pss_cons (ps_for PassesOwn.never rfl (pi_tup (pv 3)) (pg_name (i := 5) scDW.nd rfl (Or.inl rfl)) (pss_one (ps_expr (pe_bm PySem.F.plainAttrs_list PySem.F.slot_list_extend PySem.F.type_list_extend mt_extend (pv 4) (pa_cons (pe_op op_cat (pe_op op_cat (pe_lst (pa_cons pe_str pa_nil)) (pe_call GR hr rfl mgr FR.kp br .nil pass0 (pa_cons (pv 5) pa_nil))) (pe_lst (pa_cons pe_str pa_nil))) pa_nil))))) (pss_one (ps_ret (pv 4))))))))), ?_⟩
    have hsl := line4
    obtain ⟨p, its, mm, rfl, hp, _, _, _, _, _, _, hn10⟩ := names_look d hd
    obtain ⟨a, ns, hns⟩ := names_cons d
    have hnf := names_few d
    refine ⟨_, rfl, p, _, 0, _, rfl, rfl, hp, at0 _ _, ?_⟩
    refine ⟨_, rfl, _, d, rfl, hd, fun np H1 s1 hnp => ?_⟩
    refine ⟨np, rfl, ⟨_, hnp⟩, fun D nD => lc_tup (K := K) (a := np) (xs := namesV d.names) (fun i H' => Same H1 H' ∧ H' D = some (.lst (strV ((d.names.take i).map letS)))) ⟨Same.new nD, upd_same⟩ (fun i H' _ z => sqt_kt (KT.of z.1) hnp) ?_ ?_⟩
    · rintro i x H2 hx ⟨s2, hD⟩
      rw [namesV, List.getElem?_map] at hx
      cases e : d.names[i]? with
      | none => rw [e] at hx; cases hx
      | some b =>
      rw [e] at hx
      cases Option.some.inj hx
      obtain ⟨c, hc1, hc2⟩ := let_at b (hn10 b (List.mem_of_getElem? e))
      refine ⟨rfl, lc_yes ?_⟩
      refine ⟨_, rfl, _, _, c, rfl, rfl, by show 10 ≤ sizeLine; omega, hc1, ?_⟩
      refine ⟨_, hD, by rw [strV_len, List.length_map, List.length_take]; omega, s2.set nD, ?_⟩
      rw [upd_same, take_snoc e, List.map_append, strV_app, ← hc2]
      rfl
    · rintro H2 ⟨s2, hD⟩
      rw [show (namesV d.names).length = d.names.length from List.length_map _, List.take_length, hns, List.map_cons] at hD
      rw [hns, List.length_cons] at hnf
      have sH := s1.trans s2
      have hd2 := DAt_kt (KT.of sH) d _ hd
      have hp2 := sqt_kt (KT.of sH) hp
      have hlD : H D = none := s1.free nD
      refine ⟨_, rfl, rfl, _, rfl, ?_⟩
      by_cases ht : kindOf d = ("told" : Str)
      · rw [decide_eq_true (congrArg V.str ht)]
        refine iteT ?_
        obtain ⟨a', t, rfl⟩ := told_of d ht
        cases hns
        obtain ⟨p2, x, e2, hq2, ha, hx, hz⟩ := hd2
        cases e2
        refine ⟨_, rfl, D, _, 0, _, rfl, rfl, SqL.of hD, at0 _ _, ?_⟩
        refine ⟨_, rfl, p, _, 2, _, rfl, rfl, hq2, (show atI [V.str "told", V.int (a : Nat), V.ref x] ((2 : Nat) : Int) = some (V.ref x) from atI_nat rfl), x, t, rfl, hx, hz, fun H3 s3 => ?_⟩
        refine ⟨by show 3 ≤ sizeLine; omega, fun l nl => ?_⟩
        exact k l _ ((sH.trans s3).trans (Same.new nl)) ((sH.trans s3).free nl) upd_same
      · rw [decide_eq_false (fun z => ht (V.str.inj z))]
        refine iteF ?_
        refine ⟨_, rfl, _, d, rfl, hd2, fun ip ws H3 s3 hip hws => ?_⟩
        have hwl := Paired.length hws
        have hD3 := s3 _ _ hD
        refine ⟨_, rfl, !ws.isEmpty, .inr (.inl ⟨ws, hip, rfl⟩), ?_⟩
        by_cases hrw : d.rows = []
        · have hw0 : ws = [] := by
            rw [hrw] at hwl
            exact List.length_eq_zero_iff.mp hwl
          subst hw0
          refine iteT ?_
          refine ⟨_, rfl, D, _, 0, _, rfl, rfl, SqL.of hD3, at0 _ _, _, rfl, by show 3 ≤ sizeLine; omega, fun l nl => ?_⟩
          have sl := Same.new nl (o := .lst [V.str (letS a), V.str "=", V.str (kindOf d)])
          refine ⟨_, rfl, _, rfl, D, _, rfl, SqL.of (sl _ _ hD3), fun l2 nl2 => ?_⟩
          have nll : l ≠ l2 := ne_of_none upd_same nl2
          refine ⟨l, l2, _, _, rfl, rfl, (upd_ne nll).trans upd_same, upd_same, ?_, fun l3 nl3 => ?_⟩
          · rw [show strV (letS a :: ns.map letS) = V.str (letS a) :: strV (ns.map letS) from rfl, cut1, strV_len, List.length_map]
            show 3 + _ ≤ _
            omega
          · rw [show strV (letS a :: ns.map letS) = V.str (letS a) :: strV (ns.map letS) from rfl, cut1] at nl3 ⊢
            have sA := ((sH.trans s3).trans sl).trans (Same.new nl2 (o := .lst (strV (ns.map letS))))
            refine k l3 _ (sA.trans (Same.new nl3)) (sA.free nl3) ?_
            rw [upd_same, words_flat d hrw ht, hns]
            rfl
        · have hw1 : ws.isEmpty = false := by
            cases ws with
            | nil => exact absurd (List.length_eq_zero_iff.mp hwl.symm) hrw
            | cons _ _ => rfl
          rw [hw1]
          refine iteF ?_
          refine ⟨_, rfl, _, rfl, D, _, 0, _, rfl, rfl, SqL.of hD3, at0 _ _, by show 2 ≤ sizeLine; omega, fun l nl => ?_⟩
          have hdr := deep_rows d hrw
          have hmr := many_rows d
          have hrl : d.rows.length ≤ 2 := by cases d <;> simp [Dd.rows]
          refine ⟨_, rfl, ip, rfl, ⟨_, sqt_kt (KT.of (Same.new nl)) hip⟩, for_tup (K := K) (a := ip) (xs := ws) (fun j σ H' => ∃ x5 : Option V, σ = [some (.ref p), some (.str (kindOf d)), some (.ref D), some (.ref ip), some (.ref l), x5, none] ∧ Same H3 H' ∧ H' l = some (.lst (strV ([kindOf d, letS a] ++ wordsL (d.rows.take j))))) ⟨none, rfl, Same.new nl, upd_same⟩ (fun j σ H' _ z => ?_) ?_ ?_⟩
          · obtain ⟨_, _, s4, _⟩ := z
            exact sqt_kt (KT.of s4) hip
          · rintro j y σ H4 hy ⟨x5, rfl, s4, hl4⟩
            obtain ⟨r6, hr6, q6, rfl, hq6⟩ := paired_get hws hy
            have hml := manyL_take d.rows j r6 hr6
            have hdl := deepL_mem d.rows r6 (List.mem_of_getElem? hr6)
            have hwL := wordsL_len (d.rows.take j)
            have hwR := wordsR_len r6
            rw [List.length_take] at hwL
            refine ⟨_, rfl, .inl ⟨rfl, _, SqL.of hl4⟩, by show 1 ≤ sizeLine; omega, fun u nu => ?_⟩
            have su := Same.new nu (o := .lst [V.str "["])
            refine ⟨_, rfl, q6, r6, rfl, (hq6.same s4).same su, by omega, by omega, fun p5 H5 s5 np5 hp5 => ?_⟩
            refine ⟨u, p5, _, _, rfl, rfl, s5 _ _ upd_same, hp5, by rw [strV_len]; show 1 + _ ≤ _; omega, fun u2 nu2 => ?_⟩
            have su2 := Same.new nu2 (o := .lst ([V.str "["] ++ strV (wordsR r6)))
            refine ⟨by show 1 ≤ sizeLine; omega, fun u3 nu3 => ?_⟩
            have su3 := Same.new nu3 (o := .lst [V.str "]"])
            refine ⟨u2, u3, _, _, rfl, rfl, su3 _ _ upd_same, upd_same, by rw [List.length_append, strV_len]; show 1 + _ + 1 ≤ _; omega, fun u4 nu4 => ?_⟩
            have su4 := Same.new nu4 (o := .lst (([V.str "["] ++ strV (wordsR r6)) ++ [V.str "]"]))
            have sB := (((su.trans s5).trans su2).trans su3).trans su4
            refine ⟨l, u4, _, _, rfl, rfl, sB _ _ hl4, upd_same, ?_, ?_⟩
            · simp only [List.length_append, strV_len, List.length_cons, List.length_nil]
              omega
            · refine ⟨_, rfl, (s4.trans sB).set nl, ?_⟩
              rw [upd_same, take_snoc hr6, wordsL_snoc, ← List.append_assoc [kindOf d, letS a], strV_app ([kindOf d, letS a] ++ wordsL (d.rows.take j))]
              rw [strV_app (("[" : Str) :: wordsR r6)]
              rfl
          · rintro σ H4 ⟨x5, rfl, s4, hl4⟩
            rw [hwl, List.take_length] at hl4
            refine ⟨_, rfl, ?_⟩
            refine k l H4 ((sH.trans s3).trans s4) ((sH.trans s3).free nl) ?_
            rw [hl4, words_rows d hrw, hns]
            rfl
end
end Js

set_option Elab.async false
set_option linter.all false
set_option maxRecDepth 100000
set_option maxHeartbeats 2000000
namespace Js
open PySem L2
open PySem.Spec PyProof.Rows
abbrev sPartC : Stmt := top 36
abbrev sDeedC : Stmt := top 35
abbrev sRowC : Stmt := top 34
abbrev sCodeOf : Stmt := top 33
/-! ### codes -/
mutual
def Dd.code : Dd → Tr
  | .told a t => rowT [num 0, num a, t]
  | .take s a b => rowT [num (if s then 2 else 1), num a, num b]
  | .two s a b c => rowT [num (if s then 4 else 3), num a, num b, num c]
  | .wh a r => rowT [num 5, num a, codeR r]
  | .iff a r o => rowT [num 6, num a, codeR r, codeR o]
def codeR : List Dd → Tr
  | [] => .nil
  | d :: r => .pr d.code (codeR r)
end
def Dd.kix : Dd → Nat
  | .told _ _ => 0
  | .take s _ _ => if s then 2 else 1
  | .two s _ _ _ => if s then 4 else 3
  | .wh _ _ => 5
  | .iff _ _ _ => 6
def Dd.prts : Dd → List Tr
  | .told a t => [num a, t]
  | .take _ a b => [num a, num b]
  | .two _ a b c => [num a, num b, num c]
  | .wh a r => [num a, codeR r]
  | .iff a r o => [num a, codeR r, codeR o]
theorem code_parts : ∀ d : Dd, d.code = rowT (num d.kix :: d.prts)
  | .told _ _ => by rw [Dd.code]; rfl
  | .take _ _ _ => by rw [Dd.code]; rfl
  | .two _ _ _ _ => by rw [Dd.code]; rfl
  | .wh _ _ => by rw [Dd.code]; rfl
  | .iff _ _ _ => by rw [Dd.code]; rfl
theorem codeR_row : ∀ r : List Dd, codeR r = rowT (r.map Dd.code)
  | [] => by rw [codeR]; rfl
  | d :: r => by rw [codeR, codeR_row r]; rfl
theorem rowT_size_mem : ∀ (ts : List Tr) (t : Tr), t ∈ ts → t.size ≤ (rowT ts).size
  | [], _, h => by cases h
  | x :: ts, t, h => by
    have e : (rowT (x :: ts)).size = 1 + x.size + (rowT ts).size := rfl
    rcases List.mem_cons.mp h with rfl | h
    · omega
    · have := rowT_size_mem ts t h
      omega
theorem rowT_len : ∀ ts : List Tr, ts.length ≤ (rowT ts).size
  | [] => Nat.zero_le _
  | x :: ts => by
    have e : (rowT (x :: ts)).size = 1 + x.size + (rowT ts).size := rfl
    have := rowT_len ts
    rw [List.length_cons]
    omega
/-! ### the forms as a list of keys -/
def formKs : List Str := [("told" : Str), ("first" : Str), ("second" : Str), ("pair" : Str), ("same" : Str), ("while" : Str), ("if" : Str)]
structure FoK (K : PySem.W.Frag) (w : World) (mg : Str → Option Value) : Prop where
  ex : ∃ dF es n, mg "FORMS" = some (.ref dF) ∧ KDict K w dF es n ∧ (∀ kf ∈ forms, ∃ t, PySem.W.nsIn K dF kf.1 = some (some (.str kf.2 t))) ∧ es.size = 7 ∧ ∀ (i : Nat) (h : i < es.size), ∃ z t, formKs[i]? = some z ∧ es[i].key = Value.str z t
/-- the keys of a dict's entries, in their order -/
def KyL : List Str → List DictEntry → Prop
  | [], [] => True
  | z :: zs, e :: es => (∃ t, e.key = Value.str z t) ∧ KyL zs es
  | _, _ => False
theorem KyL.at : ∀ {zs : List Str} {es : List DictEntry}, KyL zs es → es.length = zs.length ∧ ∀ (i : Nat) (h : i < es.length), ∃ z t, zs[i]? = some z ∧ es[i].key = Value.str z t
  | [], [], _ => ⟨rfl, fun i h => absurd h (Nat.not_lt_zero _)⟩
  | z :: zs, e :: es, h => by
    obtain ⟨h1, h2⟩ := KyL.at h.2
    refine ⟨by rw [List.length_cons, List.length_cons, h1], fun i hi => ?_⟩
    cases i with
    | zero =>
      obtain ⟨t, ht⟩ := h.1
      exact ⟨z, t, rfl, ht⟩
    | succ i => exact h2 i (by simpa using hi)
  | [], _ :: _, h => h.elim
  | _ :: _, [], h => h.elim
theorem FoK.of {K : PySem.W.Frag} {w : World} {mg : Str → Option Value} {dF : Addr} {es : Array DictEntry} {n : Nat} (mF : mg "FORMS" = some (.ref dF)) (D : KDict K w dF es n) (hf : ∀ kf ∈ forms, ∃ t, PySem.W.nsIn K dF kf.1 = some (some (.str kf.2 t))) (hk : KyL formKs es.toList) : FoK K w mg := by
  obtain ⟨h1, h2⟩ := hk.at
  have h7 : es.size = 7 := by rw [← Array.length_toList, h1]; rfl
  refine ⟨dF, es, n, mF, D, hf, h7, fun i hi => ?_⟩
  obtain ⟨z, t, e1, e2⟩ := h2 i (by simpa using hi)
  exact ⟨z, t, e1, by simpa using e2⟩
theorem call_listKD {X : Cx} {d : Addr} {es : Array DictEntry} {n : Nat} (hc : X.calm = true) (D : KDict X.K X.w d es n ∧ es.size = 7 ∧ ∀ (i : Nat) (h : i < es.size), ∃ z t, formKs[i]? = some z ∧ es[i].key = Value.str z t) : CallR X (.type "list") (fun xs H Q => xs = [.ref d] ∧ ∀ p, H p = none → Q (.ref p) (upd H p (.lst (strV formKs)))) := by
  obtain ⟨D, h7, hks⟩ := D
  intro pins s σ H xs us Q I r h
  obtain ⟨rfl, q⟩ := h
  obtain ⟨u, rfl, rx⟩ := vals1 r
  cases rx
  have hraw : s.heap.DictRaw d es n := ⟨_, I.kIn _ _ D.at_, ⟨rfl, rfl, rfl⟩, rfl⟩
  refine PySem.W.kdl_call (KdlSrc.rawDict (prog := X.prog) (w := X.w) D.low) (I.ok.hd hc) hraw (by rw [h7, sizeLine_eq]; decide) fun h' tk acc c' hk hD hacc => ?_
  have hl : acc.toList.length = 7 := by rw [Array.length_toList, hacc.1, h7]
  have hv : Vals (strV formKs) acc.toList := by
    have pt : ∀ (xs : List V) (ys : List Value), xs.length = ys.length → (∀ (j : Nat) x y, xs[j]? = some x → ys[j]? = some y → RelV x y) → Vals xs ys := by
      intro xs
      induction xs with
      | nil =>
        intro ys h _
        cases ys with
        | nil => exact .nil
        | cons _ _ => cases h
      | cons x xs ih =>
        intro ys h k
        cases ys with
        | nil => cases h
        | cons y ys => exact .cons (k 0 x y rfl rfl) (ih ys (by simpa using h) fun j a b e1 e2 => k (j + 1) a b e1 e2)
    refine pt _ _ (by rw [hl]; rfl) fun j a b e1 e2 => ?_
    obtain ⟨hi, e3⟩ := hacc.2 j b (by simpa using e2)
    obtain ⟨z, t, hz, e4⟩ := hks j hi
    rw [strV, List.getElem?_map, hz] at e1
    cases Option.some.inj e1
    exact ⟨t, e3.trans e4⟩
  exact ⟨.ref s.heap.objs.size, _, I.laid (t' := tk) hk (Nat.le_refl _) (show ObjOk X.prog X.w _ h' _ (.lst (strV formKs)) from ⟨by rw [sizeLine_eq]; decide, acc.toList, c', hv, by simpa using hD⟩), rfl, q _ (I.hok.fresh (Nat.le_refl _))⟩
theorem kix_at (d : Dd) : (strV formKs)[d.kix]? = some (.str (kindOf d)) ∧ ∀ (m : Nat) (z : V), m < d.kix → (strV formKs)[m]? = some z → eqV z (.str (kindOf d)) = false := by
  have hne : ∀ k : Fin 7, ∀ m : Fin 7, m.1 < k.1 → formKs[m.1]? ≠ formKs[k.1]? := by decide +kernel
  have gen : ∀ (k : Nat) (x : Str), k < 7 → formKs[k]? = some x → (strV formKs)[k]? = some (.str x) ∧ ∀ (m : Nat) (z : V), m < k → (strV formKs)[m]? = some z → eqV z (.str x) = false := by
    intro k x hk hx
    refine ⟨by rw [strV, List.getElem?_map, hx]; rfl, fun m z hm hz => ?_⟩
    rw [strV, List.getElem?_map] at hz
    obtain ⟨y, hy, rfl⟩ := Option.map_eq_some_iff.mp hz
    have hyx : y ≠ x := fun e => hne ⟨k, hk⟩ ⟨m, by omega⟩ hm (by rw [e] at hy; exact hy.trans hx.symm)
    simp [eqV, hyx]
  cases d with
  | told a t => exact gen 0 _ (by decide) rfl
  | take s a b => cases s with
    | false => exact gen 1 _ (by decide) rfl
    | true => exact gen 2 _ (by decide) rfl
  | two s a b c => cases s with
    | false => exact gen 3 _ (by decide) rfl
    | true => exact gen 4 _ (by decide) rfl
  | wh a r => exact gen 5 _ (by decide) rfl
  | iff a r o => exact gen 6 _ (by decide) rfl
theorem strV_flat' (xs : List Str) : (strV xs).all flatV = true := by
  rw [List.all_eq_true]
  intro v hv
  obtain ⟨x, _, rfl⟩ := List.mem_map.mp hv
  rfl
theorem kix_le (d : Dd) : d.kix ≤ 6 := by
  cases d with
  | told a t => exact Nat.zero_le _
  | take s a b => cases s <;> simp [Dd.kix]
  | two s a b c => cases s <;> simp [Dd.kix]
  | wh a r => simp [Dd.kix]
  | iff a r o => simp [Dd.kix]
/-- what a part of a deed codes to, by its sign -/
def PtV (K : PySem.W.Frag) (C : Addr) (H : Hp) (n : Nat) (x : V) (c : Nat) (t : Tr) : Prop := (c = 110 ∧ ∃ a : Nat, a < 10 ∧ x = .int ((a : Nat) : Int) ∧ t = num a) ∨ (c = 116 ∧ ∃ y, x = .ref y ∧ Th C H y t) ∨ (c = 114 ∧ ∃ q r, x = .ref q ∧ RAt K C H q r ∧ deepR r < n ∧ t = codeR r)
theorem PtV.same {K : PySem.W.Frag} {C : Addr} {H H' : Hp} {n : Nat} {x : V} {c : Nat} {t : Tr} (s : Same H H') (h : PtV K C H n x c t) : PtV K C H' n x c t := by
  rcases h with h | ⟨e, y, e1, h⟩ | ⟨e, q, r, e1, h, h2⟩
  · exact .inl h
  · exact .inr (.inl ⟨e, y, e1, h.same s⟩)
  · exact .inr (.inr ⟨e, q, r, e1, h.same s, h2⟩)
theorem deed_parts {K : PySem.W.Frag} {C : Addr} {H : Hp} {v : V} {n : Nat} : ∀ (d : Dd), DAt K C H v d → d.deep < n + 1 → ∃ p its, v = .ref p ∧ SqT K H p (.str (kindOf d) :: its) ∧ its.length = (formOf d).cps.size ∧ d.prts.length = its.length ∧ its ≠ [] ∧ its.length ≤ 3 ∧ ∀ (i : Nat) x c, its[i]? = some x → (formOf d).cps[i]? = some c → ∃ t, d.prts[i]? = some t ∧ PtV K C H n x c t
  | .told a t, h, hn => by
    obtain ⟨p, x, e, h1, h2, h3, h4⟩ := h
    refine ⟨p, _, e, h1, by rw [formOf, cps_nt]; rfl, rfl, by simp, by simp, fun i y c g1 g2 => ?_⟩
    rw [formOf, cps_nt] at g2
    match i, g1, g2 with
    | 0, g1, g2 => cases Option.some.inj g1; cases Option.some.inj g2; exact ⟨_, rfl, .inl ⟨rfl, a, h2, rfl, rfl⟩⟩
    | 1, g1, g2 => cases Option.some.inj g1; cases Option.some.inj g2; exact ⟨_, rfl, .inr (.inl ⟨rfl, x, rfl, h3⟩)⟩
    | i + 2, g1, g2 => simp at g1
  | .take s a b, h, hn => by
    obtain ⟨p, e, h1, h2, h3⟩ := h
    refine ⟨p, _, e, h1, by rw [formOf, cps_nn]; rfl, rfl, by simp, by simp, fun i y c g1 g2 => ?_⟩
    rw [formOf, cps_nn] at g2
    match i, g1, g2 with
    | 0, g1, g2 => cases Option.some.inj g1; cases Option.some.inj g2; exact ⟨_, rfl, .inl ⟨rfl, a, h2, rfl, rfl⟩⟩
    | 1, g1, g2 => cases Option.some.inj g1; cases Option.some.inj g2; exact ⟨_, rfl, .inl ⟨rfl, b, h3, rfl, rfl⟩⟩
    | i + 2, g1, g2 => simp at g1
  | .two s a b c0, h, hn => by
    obtain ⟨p, e, h1, h2, h3, h4⟩ := h
    refine ⟨p, _, e, h1, by rw [formOf, cps_nnn]; rfl, rfl, by simp, by simp, fun i y c g1 g2 => ?_⟩
    rw [formOf, cps_nnn] at g2
    match i, g1, g2 with
    | 0, g1, g2 => cases Option.some.inj g1; cases Option.some.inj g2; exact ⟨_, rfl, .inl ⟨rfl, a, h2, rfl, rfl⟩⟩
    | 1, g1, g2 => cases Option.some.inj g1; cases Option.some.inj g2; exact ⟨_, rfl, .inl ⟨rfl, b, h3, rfl, rfl⟩⟩
    | 2, g1, g2 => cases Option.some.inj g1; cases Option.some.inj g2; exact ⟨_, rfl, .inl ⟨rfl, c0, h4, rfl, rfl⟩⟩
    | i + 3, g1, g2 => simp at g1
  | .wh a r, h, hn => by
    obtain ⟨p, q, vs, e, h1, h2, h3, h4⟩ := h
    rw [Dd.deep] at hn
    refine ⟨p, _, e, h1, by rw [formOf, cps_nr]; rfl, rfl, by simp, by simp, fun i y c g1 g2 => ?_⟩
    rw [formOf, cps_nr] at g2
    match i, g1, g2 with
    | 0, g1, g2 => cases Option.some.inj g1; cases Option.some.inj g2; exact ⟨_, rfl, .inl ⟨rfl, a, h2, rfl, rfl⟩⟩
    | 1, g1, g2 => cases Option.some.inj g1; cases Option.some.inj g2; exact ⟨_, rfl, .inr (.inr ⟨rfl, q, r, rfl, ⟨vs, h3, h4⟩, by omega, rfl⟩)⟩
    | i + 2, g1, g2 => simp at g1
  | .iff a r o, h, hn => by
    obtain ⟨p, q, vs, q2, vs2, e, h1, h2, h3, h4, h5, h6⟩ := h
    rw [Dd.deep] at hn
    refine ⟨p, _, e, h1, by rw [formOf, cps_nrr]; rfl, rfl, by simp, by simp, fun i y c g1 g2 => ?_⟩
    rw [formOf, cps_nrr] at g2
    match i, g1, g2 with
    | 0, g1, g2 => cases Option.some.inj g1; cases Option.some.inj g2; exact ⟨_, rfl, .inl ⟨rfl, a, h2, rfl, rfl⟩⟩
    | 1, g1, g2 => cases Option.some.inj g1; cases Option.some.inj g2; exact ⟨_, rfl, .inr (.inr ⟨rfl, q, r, rfl, ⟨vs, h3, h4⟩, by omega, rfl⟩)⟩
    | 2, g1, g2 => cases Option.some.inj g1; cases Option.some.inj g2; exact ⟨_, rfl, .inr (.inr ⟨rfl, q2, o, rfl, ⟨vs2, h5, h6⟩, by omega, rfl⟩)⟩
    | i + 3, g1, g2 => simp at g1
def spPartC (K : PySem.W.Frag) (C : Addr) (n : Nat) : Sp := fun vs H Q _ => ∃ x c t, vs = [x, .str ⟨#[c]⟩] ∧ PtV K C H n x c t ∧ t.size ≤ 4000 ∧ ∀ a H', Same H H' → Th C H' a t → Q (.ref a) H'
def spDeedC (K : PySem.W.Frag) (C : Addr) (n : Nat) : Sp := fun vs H Q _ => ∃ v d, vs = [v] ∧ DAt K C H v d ∧ d.deep < n ∧ d.code.size ≤ 4000 ∧ ∀ a H', Same H H' → Th C H' a d.code → Q (.ref a) H'
def spRowC (K : PySem.W.Frag) (C : Addr) (n : Nat) : Sp := fun vs H Q _ => ∃ q r, vs = [.ref q] ∧ RAt K C H q r ∧ deepR r < n ∧ (codeR r).size ≤ 4000 ∧ ∀ a H', Same H H' → Th C H' a (codeR r) → Q (.ref a) H'
def spCodeOf (K : PySem.W.Frag) (C CP : Addr) : Sp := fun vs H Q _ => ∃ a r, vs = [.ref a] ∧ PgAt K C CP H a r ∧ (codeR r).size ≤ 4000 ∧ ∀ x H', Same H H' → Th C H' x (codeR r) → Q (.ref x) H'
theorem s_n : (⟨#[110]⟩ : Str) = ("n" : Str) := by decide +kernel
theorem s_t : (⟨#[116]⟩ : Str) = ("t" : Str) := by decide +kernel
theorem s_r : (⟨#[114]⟩ : Str) = ("r" : Str) := by decide +kernel
section
variable {P : Program} {w : World} {K : PySem.W.Frag} {mg : Str → Option Value} {base : Heap} {C CP fI fP : Addr} {fdI fdP : FuncData}
theorem scPa : FnScope ["part", "sign"] ["part", "sign"] (defScope sPartC) := ⟨rfl, rfl, rfl, by decide +kernel, rfl, by decide +kernel, by decide +kernel⟩
theorem scDc : FnScope ["deed", "kind", "told", "part", "sign"] ["deed"] (defScope sDeedC) := ⟨rfl, rfl, rfl, by decide +kernel, rfl, by decide +kernel, by decide +kernel⟩
theorem scRc : FnScope ["deeds", "deed"] ["deeds"] (defScope sRowC) := ⟨rfl, rfl, rfl, by decide +kernel, rfl, by decide +kernel, by decide +kernel⟩
theorem scCo : FnScope ["program"] ["program"] (defScope sCodeOf) := ⟨rfl, rfl, rfl, by decide +kernel, rfl, by decide +kernel, by decide +kernel⟩
theorem ok_partC {f fR : Addr} {fd fdR : FuncData} {n : Nat} (F : Fun K "part_code" "part_code" sPartC f fd) (DNu : Def P w K mg base "number" 4 ["n"] (spNumber C)) (GR : FnOk P w K mg base CX0 (3 * n + 5) fR fdR ["deeds"] (spRowC K C n)) (mgr : mg "row_code" = some (.ref fR)) (kr : PySem.W.keepIn K (.ref fR) = true) (br : Binds K fdR ["deeds"] []) : FnOk P w K mg base CX0 (3 * n + 6) f fd ["part", "sign"] (spPartC K C n) := by
  refine F.ok scPa (fun vs H Q E h => ?_) (fun cdv A outer s H vs Q E hr h => ?_)
  · obtain ⟨x, c, t, rfl, _⟩ := h
    rfl
  · obtain ⟨x, c, t, rfl, hp, hz, k⟩ := h
    have hr4 : Room 4 _ := hr.mono (by omega)
    refine ⟨_, pss_cons (ps_if (pt_cmpR op_eq (pv 1) pe_str (nomark _)) (pss_one (ps_ret (pe_def DNu hr4 rfl (pa_cons (pv 0) pa_nil)))) pss_nil) (pss_cons (ps_if (pt_cmpR op_eq (pv 1) pe_str (nomark _)) (pss_one (ps_ret (pv 0))) pss_nil) (pss_one (ps_ret (pe_call GR hr rfl mgr kr br .nil pass0 (pa_cons (pv 0) pa_nil))))), ?_⟩
    rcases hp with ⟨rfl, a, ha, rfl, rfl⟩ | ⟨rfl, y, rfl, hy⟩ | ⟨rfl, q, r, rfl, hq, hd, rfl⟩
    · refine ⟨_, rfl, rfl, _, rfl, ?_⟩
      rw [s_n, decide_eq_true rfl]
      exact iteT ⟨_, rfl, a, rfl, by omega, fun y H1 s1 hy => k y H1 s1 hy⟩
    · refine ⟨_, rfl, rfl, _, rfl, ?_⟩
      rw [s_t, show decide (V.str ("t" : Str) = V.str ("n" : Str)) = false by decide +kernel]
      refine iteF ⟨_, rfl, rfl, _, rfl, ?_⟩
      rw [decide_eq_true rfl]
      exact iteT ⟨_, rfl, k y H (Same.refl H) hy⟩
    · refine ⟨_, rfl, rfl, _, rfl, ?_⟩
      rw [s_r, show decide (V.str ("r" : Str) = V.str ("n" : Str)) = false by decide +kernel]
      refine iteF ⟨_, rfl, rfl, _, rfl, ?_⟩
      rw [show decide (V.str ("r" : Str) = V.str ("t" : Str)) = false by decide +kernel]
      exact iteF ⟨_, rfl, q, r, rfl, hq, hd, hz, k⟩
theorem ok_deedC {f fP' : Addr} {fd fdP' : FuncData} {n : Nat} (F : Fun K "deed_code" "deed_code" sDeedC f fd) (ml : mg "list" = none) (G : FrmC K w mg) (Fo : FoK K w mg) (DNu : Def P w K mg base "number" 4 ["n"] (spNumber C)) (DRo : Def P w K mg base "row" 4 ["things"] (spRow C)) (GP : FnOk P w K mg base CX0 (3 * n + 6) fP' fdP' ["part", "sign"] (spPartC K C n)) (mgp : mg "part_code" = some (.ref fP')) (kp : PySem.W.keepIn K (.ref fP') = true) (bp : Binds K fdP' ["part", "sign"] []) : FnOk P w K mg base CX0 (3 * n + 7) f fd ["deed"] (spDeedC K C (n + 1)) := by
  obtain ⟨dF, es, nF, mF, kdd, hk, h7, hks⟩ := Fo.ex
  have kdF := (⟨kdd, h7, hks⟩ : KDict K w dF es nF ∧ es.size = 7 ∧ ∀ (i : Nat) (h : i < es.size), ∃ z t, formKs[i]? = some z ∧ es[i].key = Value.str z t)
  refine F.ok scDc (fun vs H Q E h => ?_) (fun cdv A outer s H vs Q E hr h => ?_)
  · obtain ⟨v, d, rfl, _⟩ := h
    rfl
  · obtain ⟨v, d, rfl, hd, hdp, hz, k⟩ := h
    have hr4 : Room 4 _ := hr.mono (by omega)
    have hr0 : Room (3 * n + 6) _ := hr
    refine ⟨_, pss_cons (ps_set (i := 1) scDc.nd rfl (Or.inl rfl) (pe_ix (r := rIxT K) ix_tup (pv 0) pe_int (fun _ _ => rfl))) (pss_cons (ps_set (i := 2) scDc.nd rfl (Or.inl rfl) (pe_lst (pa_cons (pe_def DNu hr4 rfl (pa_cons (pe_bm PySem.F.plainAttrs_list PySem.F.slot_list_index PySem.F.type_list_index mt_index (pe_callTy (call_listKD rfl kdF) (by rfl) ml PyProof.Rows.boot_list (pa_cons (pe_glob (v := .ref dF) rfl mF rfl) pa_nil)) (pa_cons (pv 1) pa_nil)) pa_nil)) pa_nil))) (pss_cons (ps_for PassesOwn.never rfl (pi_zipTS rfl G.mz (pa_cons (pe_slice sl_tup (pv 0) (po_some pe_int) po_none) (pa_cons (pe_ix (r := rIxD K w) ix_kdict (pe_glob (v := .ref dF) rfl mF rfl) (pv 1) (fun _ _ => rfl)) pa_nil))) (pg_tup rfl (pgs_cons (pg_name (i := 3) scDc.nd rfl (Or.inl rfl)) (pgs_cons (pg_name (i := 4) scDc.nd rfl (Or.inl rfl)) pgs_nil))) (pss_one (ps_expr (pe_bm PySem.F.plainAttrs_list PySem.F.slot_list_append PySem.F.type_list_append mt_append (pv 2) (pa_cons (pe_call GP hr0 rfl mgp kp bp .nil pass0 (pa_cons (pv 3) (pa_cons (pv 4) pa_nil))) pa_nil))))) (pss_one (ps_ret (pe_def DRo hr4 rfl (pa_cons (pv 2) pa_nil)))))), ?_⟩
    have hsl := sizeLine_eq
    obtain ⟨p, its, rfl, hp, hl, hpl, hne, hl3, hall⟩ := deed_parts d hd hdp
    rw [code_parts] at hz k
    have hki := kix_le d
    obtain ⟨hk1, hk2⟩ := kix_at d
    obtain ⟨tk, hkf⟩ := hk _ (form_in d)
    refine ⟨_, rfl, p, _, 0, _, rfl, rfl, hp, at0 _ _, ?_⟩
    refine ⟨rfl, fun l nl => ?_⟩
    have sl := Same.new nl (o := .lst (strV formKs))
    have el : (upd H l (.lst (strV formKs))) l = some (.lst (strV formKs)) := upd_same
    revert sl el
    generalize upd H l (.lst (strV formKs)) = H1
    intro sl el
    refine ⟨.inl ⟨rfl, _, SqL.of el⟩, _, rfl, l, _, _, d.kix, _, rfl, rfl, SqL.of el, rfl, strV_flat' _, hk1, by simp [eqV], hk2, d.kix, rfl, by omega, fun a H2 s2 ha => ⟨by show 1 ≤ sizeLine; decide, fun L nL => ?_⟩⟩
    have sL := Same.new nL (o := .lst [V.ref a])
    have eL : (upd H2 L (.lst [V.ref a])) L = some (.lst [V.ref a]) := upd_same
    have s02 := sl.trans s2
    have nLH : H L = none := s02.free nL
    revert sL eL
    generalize upd H2 L (.lst [V.ref a]) = H3
    intro sL eL
    have s03 := s02.trans sL
    refine ⟨_, rfl, _, rfl, p, _, rfl, sqt_kt (KT.of s03) hp, ?_, fun q nq => ?_⟩
    · rintro ⟨h0, _⟩
      have e : HT.sIx (its.length + 1) 0 (some 1) = 1 := by
        show min 1 (its.length + 1) = 1
        omega
      rw [List.length_cons, e] at h0
      cases h0
    rw [cut1]
    have sq := Same.new nq (o := .tup its)
    have eq : (upd H3 q (.tup its)) q = some (.tup its) := upd_same
    revert sq eq
    generalize upd H3 q (.tup its) = H4
    intro sq eq
    have s04 := s03.trans sq
    refine ⟨_, rfl, dF, _, .str (formOf d), rfl, rfl, ⟨es, nF, _, kdd.at_, kdd.lit, hkf, ⟨_, rfl⟩⟩, q, _, its, rfl, SqT.of eq, for_it (n := its.length) (walk_zipTS (K := K) (a := q) (t := formOf d) (xs := its) (by rw [← hl, Nat.min_self])) (fun i σ H' => ∃ (x3 x4 : Option V) (us : List V), σ = [some (.ref p), some (.str (kindOf d)), some (.ref L), x3, x4] ∧ Same H H' ∧ SqT K H' q its ∧ H' L = some (.lst us) ∧ Paired (ThV C H') us (num d.kix :: d.prts.take i)) ⟨none, none, _, rfl, s04, SqT.of eq, sq _ _ eL, .cons ⟨a, rfl, ha.same (sL.trans sq)⟩ (by rw [List.take_zero]; exact .nil)⟩ (fun i σ H' _ z => ?_) ?_ ?_⟩
    · obtain ⟨_, _, _, _, _, hq', _⟩ := z
      exact hq'
    · rintro i y σ H5 H6 hi ⟨x3, x4, us, rfl, s5, hq5, hL5, hus⟩ ⟨T, x, c, rfl, nT, rfl, hx, hc⟩
      have sT := Same.new nT (o := .tup [x, .str ⟨#[c]⟩])
      have eT : (upd H5 T (.tup [x, .str ⟨#[c]⟩])) T = some (.tup [x, .str ⟨#[c]⟩]) := upd_same
      revert sT eT
      generalize upd H5 T (.tup [x, .str ⟨#[c]⟩]) = H6
      intro sT eT
      obtain ⟨t, ht, hpt⟩ := hall i x c hx hc
      have htz := rowT_size_mem (num d.kix :: d.prts) t (List.mem_cons_of_mem _ (List.mem_of_getElem? ht))
      refine ⟨T, _, rfl, SqT.of eT, rfl, _, _, rfl, _, _, rfl, rfl, ?_⟩
      refine ⟨_, rfl, .inl ⟨rfl, _, SqL.of (sT _ _ hL5)⟩, _, rfl, _, rfl, x, c, t, rfl, hpt.same (s5.trans sT), by omega, fun b H7 s7 hb => ?_⟩
      have hL7 := s7 _ _ (sT _ _ hL5)
      have hul := Paired.length hus
      rw [List.length_cons, List.length_take] at hul
      refine ⟨L, _, _, rfl, rfl, hL7, by omega, ?_⟩
      have kt : KT H7 (upd H7 L (.lst (us ++ [V.ref b]))) := KT.lst hL7
      refine ⟨_, _, us ++ [V.ref b], rfl, fun z o' hz' => ?_, sqt_kt kt (sqt_kt (KT.of (sT.trans s7)) hq5), upd_same, ?_⟩
      · rw [upd_ne (ne_of_none hz' nLH)]
        exact s7 _ _ (sT _ _ (s5 _ _ hz'))
      · have hip := (List.getElem?_eq_some_iff.mp ht).1
        have e9 : num d.kix :: d.prts.take (i + 1) = (num d.kix :: d.prts.take i) ++ [t] := by
          rw [List.take_succ_eq_append_getElem hip, (List.getElem?_eq_some_iff.mp ht).2]
          rfl
        rw [e9]
        exact paired_app (ths_kt kt (ths_kt (KT.of (sT.trans s7)) hus)) (.cons ⟨b, rfl, hb.kt kt⟩ .nil)
    · rintro σ H5 ⟨x3, x4, us, rfl, s5, hq5, hL5, hus⟩
      rw [← hpl, List.take_length] at hus
      exact ⟨_, rfl, L, us, _, rfl, hL5, hus, hz, fun b H6 s6 hb => k b H6 (s5.trans s6) hb⟩
theorem ok_rowC {f fD : Addr} {fd fdD : FuncData} {n : Nat} (F : Fun K "row_code" "row_code" sRowC f fd) (DRo : Def P w K mg base "row" 4 ["things"] (spRow C)) (GD : FnOk P w K mg base CX0 (3 * n + 7) fD fdD ["deed"] (spDeedC K C (n + 1))) (mgd : mg "deed_code" = some (.ref fD)) (kd : PySem.W.keepIn K (.ref fD) = true) (bd : Binds K fdD ["deed"] []) : FnOk P w K mg base CX0 (3 * (n + 1) + 5) f fd ["deeds"] (spRowC K C (n + 1)) := by
  refine F.ok scRc (fun vs H Q E h => ?_) (fun cdv A outer s H vs Q E hr h => ?_)
  · obtain ⟨q, r, rfl, _⟩ := h
    rfl
  · obtain ⟨q, r, rfl, hq, hdp, hz, k⟩ := h
    have hr4 : Room 4 _ := hr.mono (by omega)
    refine ⟨_, pss_one (ps_ret (pe_def DRo hr4 rfl (pa_cons (pe_lc (own := [("deed", 1)]) (g := gName 1) (tt := tYes) rfl scRc.nd (pi_tup (pv 0)) (blkOk_by (N := ["deeds", "deed"]) (sc := defScope sRowC) (by decide +kernel)) (fun _ _ _ _ _ => (pg_name (i := 1) scRc.nd rfl (Or.inl rfl))) (fun _ _ _ _ _ => pts_nil) (fun _ _ _ _ _ => (pe_call GD hr rfl mgd kd bd .nil pass0 (pa_cons (pv 1) pa_nil)))) pa_nil))), ?_⟩
    have hsl := sizeLine_eq
    obtain ⟨vs, hqv, hvs⟩ := id hq
    have hvl := DsAt.length r vs hvs
    rw [codeR_row] at hz k
    have hrl := rowT_len (r.map Dd.code)
    rw [List.length_map] at hrl
    refine ⟨_, rfl, q, rfl, ⟨_, hqv⟩, fun D nD => lc_tup (K := K) (a := q) (xs := vs) (fun i H' => Same H H' ∧ ∃ us, H' D = some (.lst us) ∧ Paired (ThV C H') us ((r.map Dd.code).take i)) ⟨Same.new nD, [], upd_same, by rw [List.take_zero]; exact .nil⟩ (fun i H' _ z => sqt_kt (KT.of z.1) hqv) ?_ ?_⟩
    · rintro i v H1 hv ⟨s1, us, hD, hus⟩
      obtain ⟨d, hd, hdv⟩ := DsAt.get r vs i v hvs hv
      have hdm := List.mem_of_getElem? hd
      have hdd := deepR_mem r d hdm
      have hdz := rowT_size_mem (r.map Dd.code) d.code (List.mem_map.mpr ⟨d, hdm, rfl⟩)
      have hul := Paired.length hus
      rw [List.length_take, List.length_map] at hul
      refine ⟨rfl, lc_yes ?_⟩
      refine ⟨_, rfl, v, d, rfl, DAt_kt (KT.of s1) d v hdv, by omega, by omega, fun a H2 s2 ha => ?_⟩
      have hD2 := s2 _ _ hD
      have kt : KT H2 (upd H2 D (.lst (us ++ [V.ref a]))) := KT.lst hD2
      refine ⟨us, hD2, by omega, (s1.trans s2).set nD, us ++ [V.ref a], upd_same, ?_⟩
      have hir := (List.getElem?_eq_some_iff.mp hd).1
      have hmm : (r.map Dd.code)[i]? = some d.code := by rw [List.getElem?_map, hd]; rfl
      have him := (List.getElem?_eq_some_iff.mp hmm).1
      rw [List.take_succ_eq_append_getElem him, (List.getElem?_eq_some_iff.mp hmm).2]
      exact paired_app (ths_kt kt (ths_kt (KT.of s2) hus)) (.cons ⟨a, rfl, ha.kt kt⟩ .nil)
    · rintro H1 ⟨s1, us, hD, hus⟩
      have e : (r.map Dd.code).take vs.length = r.map Dd.code := by
        rw [hvl]
        exact List.take_of_length_le (by rw [List.length_map]; omega)
      rw [e] at hus
      exact ⟨D, us, _, rfl, hD, hus, hz, fun a H2 s2 ha => k a H2 (s1.trans s2) ha⟩
theorem ok_rowC0 {f : Addr} {fd : FuncData} (F : Fun K "row_code" "row_code" sRowC f fd) : FnOk P w K mg base CX0 (3 * 0 + 5) f fd ["deeds"] (spRowC K C 0) := by
  refine F.ok scRc (fun vs H Q E h => ?_) (fun cdv A outer s H vs Q E hr h => ?_)
  · obtain ⟨q, r, rfl, _⟩ := h
    rfl
  · obtain ⟨q, r, _, _, h, _⟩ := h
    exact absurd h (Nat.not_lt_zero _)
theorem ok_codes {fR fD fQ : Addr} {fdR fdD fdQ : FuncData} (FR : Fun K "row_code" "row_code" sRowC fR fdR) (FD : Fun K "deed_code" "deed_code" sDeedC fD fdD) (FP : Fun K "part_code" "part_code" sPartC fQ fdQ) (ml : mg "list" = none) (G : FrmC K w mg) (Fo : FoK K w mg) (DNu : Def P w K mg base "number" 4 ["n"] (spNumber C)) (DRo : Def P w K mg base "row" 4 ["things"] (spRow C))
    (mgr : mg "row_code" = some (.ref fR)) (br : Binds K fdR ["deeds"] []) (mgd : mg "deed_code" = some (.ref fD)) (bd : Binds K fdD ["deed"] []) (mgp : mg "part_code" = some (.ref fQ)) (bp : Binds K fdQ ["part", "sign"] []) : ∀ n, FnOk P w K mg base CX0 (3 * n + 5) fR fdR ["deeds"] (spRowC K C n)
  | 0 => ok_rowC0 FR
  | n + 1 => ok_rowC FR DRo (ok_deedC FD ml G Fo DNu DRo (ok_partC FP DNu (ok_codes FR FD FP ml G Fo DNu DRo mgr br mgd bd mgp bp n) mgr FR.kp br) mgp FP.kp bp) mgd FD.kp bd
theorem ok_codeOf {f : Addr} {fd : FuncData} (F : Fun K "code_of" "code_of" sCodeOf f fd) (TP : TxtP K mg CP) (DRc : Def P w K mg base "row_code" 32 ["deeds"] (spRowC K C 9)) : FnOk P w K mg base CX0 33 f fd ["program"] (spCodeOf K C CP) := by
  refine F.ok scCo (fun vs H Q E h => ?_) (fun cdv A outer s H vs Q E hr h => ?_)
  · obtain ⟨a, r, rfl, _⟩ := h
    rfl
  · obtain ⟨a, r, rfl, ha, hz, k⟩ := h
    refine ⟨_, pss_one (ps_ret (pe_def DRc hr rfl (pa_cons (pe_fld (pv 0) rfl) pa_nil))), ?_⟩
    obtain ⟨dx, q, pl, ys, h1, h2, _, _⟩ := ha.ex
    have := ha.dp
    exact ⟨_, rfl, _, _, _, _, _, rfl, h1, TP.cl, TP.nD, pf_deeds _ _, q, r, rfl, h2, by omega, hz, k⟩
end
end Js

set_option Elab.async false
set_option linter.all false
set_option maxRecDepth 100000
set_option maxHeartbeats 2000000
namespace Js
open PySem L2
/-! ### objects that hold what is handed in -/
def spObj (C : Addr) (fs : List V → List (Str × V)) (n : Nat) : Sp := fun vs H Q _ => ∃ p dx xs, vs = .ref p :: xs ∧ xs.length = n ∧ H p = some (.ins C dx []) ∧ Q .non (upd H p (.ins C dx (fs xs)))
def tObj (C : Addr) (fs : List V → List (Str × V)) (n : Nat) (dvs : List V) (t : TA) : TE := fun σ H Q => t σ H fun vs H1 => (vs ++ dvs).length = n ∧ ∀ z dx H', Same H1 H' → H1 z = none → H' z = some (.ins C dx (fs (vs ++ dvs))) → Q (.ref z) H'
theorem mk_obj {C : Addr} {fs : List V → List (Str × V)} {n : Nat} {vs : List V} {H : Hp} {Q : VK} {E : XK} (hn : vs.length = n) (k : ∀ z dx H', Same H H' → H z = none → H' z = some (.ins C dx (fs vs)) → Q (.ref z) H') :
    ∀ x dx, H x = none → H dx = none → dx ≠ x → spObj C fs n (.ref x :: vs) (upd (upd H dx (.own x)) x (.ins C dx [])) (fun v H2 => v = .non ∧ Q (.ref x) H2) E := by
  intro x dx nx ndx ne
  refine ⟨x, dx, vs, rfl, hn, upd_same, rfl, ?_⟩
  rw [upd_upd]
  refine k x dx _ (fun b o e => ?_) nx upd_same
  rw [upd_ne (ne_of_none e nx), upd_ne (ne_of_none e ndx)]
  exact e
section
open PyProof.Rows
variable {X : Cx} {C f : Addr} {k n : Nat} {fd : FuncData} {ps : List Str} {fs : List V → List (Str × V)} {ds : List Value} {dvs : List V} {p pos : Pos} {x : Str} {e : Expr} {es : List Expr} {t : TA}
theorem pe_obj (M : Mk X.K C f) (G : FnOk X.prog X.w X.K X.mg X.base CX0 k f fd ps (spObj C fs n)) (hr : Room (k + 1) X.A) (hg : Gl X x) (hm : X.mg x = some (.ref C)) (hb : Binds X.K fd ps ds) (hd : Vals dvs ds) (ha : PA X (e :: es) t)
    (hdb : (x == ("__debug__" : Str)) = false := by decide) (he : starEach (e :: es) X.env = (false, eval e X.env) :: starEach es X.env := by rfl) (hpl : (backTo pos (starEach es X.env)).any (·.1) = false := by rfl) : PE X (.Call (.Name x p) (e :: es) [] pos) (tObj C fs n dvs t) := by
  refine ⟨fun pins s σ H Q I h => ?_⟩
  refine wpAny_Call_Name_kw (ld_glob I hg hm ?_ hdb)
  refine PySem.W.callWith_K (h₀ := X.base) I.ok.mod.kin M.kp (thn (ha.run pos pins s σ H _ I h) fun us s1 ⟨vs, H1, I1, r, q⟩ => ⟨I1.kIn, ?_⟩) he hpl
  exact run_make M G hr hb hd pass0 I1 r (mk_obj q.1 q.2)
end
/-- how objects of a class are made -/
structure MkO (P : Program) (w : World) (K : PySem.W.Frag) (mg : Str → Option Value) (base : Heap) (x : Str) (CS f : Addr) (fd : FuncData) (ps : List Str) (fs : List V → List (Str × V)) (n : Nat) : Prop where
  M : Mk K CS f
  G : FnOk P w K mg base CX0 1 f fd ps (spObj CS fs n)
  mgc : mg x = some (.ref CS)
  b : Binds K fd ps []
end Js

set_option Elab.async false
set_option linter.all false
set_option maxRecDepth 100000
set_option maxHeartbeats 2000000
namespace Js
open PySem L2
abbrev sRead : Stmt := top 50
abbrev sWhole : Stmt := top 51
abbrev sDue : Stmt := top 52
/-! ### the levels of a text that is read, the top first -/
def whole : List (List Tr) → Bool
  | [[_]] => true
  | _ => false
def topLen : List (List Tr) → Nat
  | [] => 0
  | xs :: _ => xs.length
def app (x : Tr) : List (List Tr) → List (List Tr)
  | [] => []
  | xs :: lv => (xs ++ [x]) :: lv
/-- lv has been read; ws is what the text goes on with -/
inductive Rel (t : Tr) : List (List Tr) → List (Option Tr) → Prop where
  | start : Rel t [[]] [some t]
  | fin : Rel t [[t]] []
  | l0 {lv ws l r} : Rel t lv (some (.pr l r) :: ws) → Rel t ([] :: lv) (some l :: some r :: none :: ws)
  | l1 {lv ws l r} : Rel t lv (some (.pr l r) :: ws) → Rel t ([l] :: lv) (some r :: none :: ws)
  | l2 {lv ws l r} : Rel t lv (some (.pr l r) :: ws) → Rel t ([l, r] :: lv) (none :: ws)
theorem Rel.app {t x : Tr} {lv : List (List Tr)} {ws : List (Option Tr)} (h : Rel t lv (some x :: ws)) : Rel t (app x lv) ws := by
  cases h with
  | start => exact .fin
  | l0 h => exact .l1 h
  | l1 h => exact .l2 h
theorem Rel.ne {t : Tr} {lv : List (List Tr)} {ws : List (Option Tr)} (h : Rel t lv ws) : lv ≠ [] := by
  cases h <;> simp
theorem Rel.notWhole {t : Tr} {p : Option Tr} {lv : List (List Tr)} {ws : List (Option Tr)} (h : Rel t lv (p :: ws)) : whole lv = false := by
  cases h with
  | start => rfl
  | l0 h => rfl
  | l1 h =>
    have := h.ne
    cases h <;> rfl
  | l2 h => rfl
theorem Rel.top {t x : Tr} {lv : List (List Tr)} {ws : List (Option Tr)} (h : Rel t lv (some x :: ws)) : topLen lv ≠ 2 := by
  cases h <;> simp [topLen]
theorem Rel.shut {t : Tr} {lv : List (List Tr)} {ws : List (Option Tr)} (h : Rel t lv (none :: ws)) : ∃ l r lv', lv = [l, r] :: lv' ∧ Rel t lv' (some (.pr l r) :: ws) := by
  cases h with
  | l2 h => exact ⟨_, _, _, rfl, h⟩
theorem Rel.done {t : Tr} {lv : List (List Tr)} (h : Rel t lv []) : lv = [[t]] := by
  cases h with
  | fin => rfl
theorem Rel.le {t : Tr} {lv : List (List Tr)} {ws : List (Option Tr)} (h : Rel t lv ws) : ∀ x, some x ∈ ws → x.size ≤ t.size := by
  induction h with
  | start => intro x hx; simp at hx; subst hx; exact Nat.le_refl _
  | fin => intro x hx; simp at hx
  | @l0 lv ws l r _ ih =>
    intro x hx
    have h0 := ih (.pr l r) (by simp)
    simp only [Tr.size] at h0
    simp only [List.mem_cons, Option.some.injEq, reduceCtorEq, false_or] at hx
    rcases hx with rfl | rfl | hx
    · omega
    · omega
    · exact ih x (by simp [hx])
  | @l1 lv ws l r _ ih =>
    intro x hx
    have h0 := ih (.pr l r) (by simp)
    simp only [Tr.size] at h0
    simp only [List.mem_cons, Option.some.injEq, reduceCtorEq, false_or] at hx
    rcases hx with rfl | hx
    · omega
    · exact ih x (by simp [hx])
  | @l2 lv ws l r _ ih =>
    intro x hx
    simp only [List.mem_cons, reduceCtorEq, false_or] at hx
    exact ih x (by simp [hx])
def nn : List (Option Tr) → Nat
  | [] => 0
  | none :: r => nn r + 1
  | some _ :: r => nn r
theorem nn_le : ∀ ws, nn ws ≤ (wouts ws).length
  | [] => Nat.zero_le _
  | none :: r => by
    have := nn_le r
    rw [wouts_cons, List.length_append]
    simp only [nn, wout, List.length_singleton]
    omega
  | some t :: r => by
    have := nn_le r
    rw [wouts_cons, List.length_append]
    simp only [nn]
    omega
theorem Rel.len {t : Tr} {lv : List (List Tr)} {ws : List (Option Tr)} (h : Rel t lv ws) : lv.length = 1 + nn ws := by
  induction h with
  | start => rfl
  | fin => rfl
  | l0 _ ih => simp only [nn, List.length_cons] at ih ⊢; omega
  | l1 _ ih => simp only [nn, List.length_cons] at ih ⊢; omega
  | l2 _ ih => simp only [nn, List.length_cons] at ih ⊢; omega
theorem Rel.room {t x : Tr} {xs : List Tr} {lv : List (List Tr)} {ws : List (Option Tr)} (h : Rel t (xs :: lv) (some x :: ws)) : xs.length ≤ 1 := by
  cases h <;> simp
def osz : Option Tr → Nat
  | none => 0
  | some t => t.size
def oszs (ws : List (Option Tr)) : Nat := (ws.map osz).sum
theorem oszs_cons (p : Option Tr) (ws : List (Option Tr)) : oszs (p :: ws) = osz p + oszs ws := by simp [oszs]
/-- the things of a level are no greater than the text's whole -/
def lsz (lv : List (List Tr)) : Nat := (lv.map fun xs => (xs.map Tr.size).sum).sum
theorem lsz_cons (xs : List Tr) (lv : List (List Tr)) : lsz (xs :: lv) = (xs.map Tr.size).sum + lsz lv := by simp [lsz]
theorem lsz_app (x : Tr) : ∀ {lv : List (List Tr)}, lv ≠ [] → lsz (app x lv) = lsz lv + x.size
  | [], h => absurd rfl h
  | xs :: lv, _ => by
    simp only [app, lsz_cons, List.map_append, List.sum_append, List.map_cons, List.map_nil, List.sum_cons, List.sum_nil]
    omega
def opened (lv : List (List Tr)) : Nat := lv.length - 1
/-! ### in the heap -/
def LvAt (C : Addr) (H : Hp) (p : Addr) (xs : List Tr) : Prop := ∃ vs, H p = some (.lst vs) ∧ Paired (ThV C H) vs xs
structure Levels (C : Addr) (H : Hp) (LA : Addr) (ps : List Addr) (lv : List (List Tr)) : Prop where
  la : H LA = some (.lst (ps.map V.ref).reverse)
  at_ : Paired (LvAt C H) ps lv
  nd : (LA :: ps).Nodup
theorem lv_keep {C : Addr} {H H' : Hp} (k : KT H H') : ∀ {ps : List Addr} {lv : List (List Tr)}, (∀ p ∈ ps, ∀ vs, H p = some (.lst vs) → H' p = some (.lst vs)) → Paired (LvAt C H) ps lv → Paired (LvAt C H') ps lv
  | _, _, _, .nil => .nil
  | p :: ps, _, hl, .cons ⟨vs, h1, h2⟩ t => .cons ⟨vs, hl p (List.mem_cons_self ..) vs h1, ths_kt k h2⟩ (lv_keep k (fun q hq => hl q (List.mem_cons_of_mem _ hq)) t)
theorem Levels.same {C : Addr} {H H' : Hp} (s : Same H H') {LA : Addr} {ps : List Addr} {lv : List (List Tr)} (h : Levels C H LA ps lv) : Levels C H' LA ps lv :=
  ⟨s _ _ h.la, lv_keep (KT.of s) (fun _ _ _ e => s _ _ e) h.at_, h.nd⟩
theorem at_some {C : Addr} {H : Hp} : ∀ {ps : List Addr} {lv : List (List Tr)}, Paired (LvAt C H) ps lv → ∀ p ∈ ps, ∃ vs, H p = some (.lst vs)
  | _, _, .nil, p, hp => by cases hp
  | _, _, .cons ⟨vs, h1, _⟩ t, p, hp => by
    rcases List.mem_cons.mp hp with rfl | hp
    · exact ⟨vs, h1⟩
    · exact at_some t p hp
/-- something is put to the top level -/
theorem Levels.put {C : Addr} {H : Hp} {LA p : Addr} {ps : List Addr} {xs : List Tr} {lv : List (List Tr)} {vs : List V} {v : V} {x : Tr} (h : Levels C H LA (p :: ps) (xs :: lv)) (hp : H p = some (.lst vs)) (hv : ThV C H v x) :
    Levels C (upd H p (.lst (vs ++ [v]))) LA (p :: ps) ((xs ++ [x]) :: lv) := by
  have nd := h.nd
  rw [List.nodup_cons, List.nodup_cons] at nd
  have k : KT H (upd H p (.lst (vs ++ [v]))) := KT.lst hp
  have hat := h.at_
  cases hat with
  | cons h0 t =>
    obtain ⟨vs', e1, e2⟩ := h0
    have e := Option.some.inj (hp.symm.trans e1)
    injection e with e
    subst e
    refine ⟨(upd_ne (fun z => nd.1 (by rw [z]; simp))).trans h.la, .cons ⟨_, upd_same, paired_snoc (ths_kt k e2) (hv.kt k)⟩ (lv_keep k (fun q hq ws e => ?_) t), h.nd⟩
    rw [upd_ne (fun z => nd.2.1 (by rw [← z]; exact hq))]
    exact e
/-- a level is begun -/
theorem Levels.open_ {C : Addr} {H : Hp} {LA q : Addr} {ps : List Addr} {lv : List (List Tr)} (h : Levels C H LA ps lv) (nq : H q = none) :
    Levels C (upd (upd H q (.lst [])) LA (.lst ((ps.map V.ref).reverse ++ [.ref q]))) LA (q :: ps) ([] :: lv) := by
  have nqL : LA ≠ q := ne_of_none h.la nq
  have hL : (upd H q (.lst [])) LA = some (.lst (ps.map V.ref).reverse) := (upd_ne nqL).trans h.la
  have k : KT H (upd (upd H q (.lst [])) LA (.lst ((ps.map V.ref).reverse ++ [.ref q]))) := (KT.new nq).trans (KT.lst hL)
  have nd := h.nd
  rw [List.nodup_cons] at nd
  refine ⟨by rw [upd_same, List.map_cons, List.reverse_cons], .cons ⟨[], (upd_ne (Ne.symm nqL)).trans upd_same, .nil⟩ (lv_keep k (fun p hp ws e => ?_) h.at_), ?_⟩
  · rw [upd_ne (fun z => nd.1 (by rw [← z]; exact hp)), upd_ne (ne_of_none e nq)]
    exact e
  · rw [List.nodup_cons, List.nodup_cons]
    refine ⟨fun z => ?_, fun z => ?_, nd.2⟩
    · rcases List.mem_cons.mp z with z | z
      · exact nqL z
      · exact nd.1 z
    · obtain ⟨ws, e⟩ := at_some h.at_ q z
      rw [nq] at e
      cases e
/-- a level is shut -/
theorem Levels.shut {C : Addr} {H : Hp} {LA p : Addr} {ps : List Addr} {xs : List Tr} {lv : List (List Tr)} (h : Levels C H LA (p :: ps) (xs :: lv)) : Levels C (upd H LA (.lst (ps.map V.ref).reverse)) LA ps lv := by
  have nd := h.nd
  rw [List.nodup_cons, List.nodup_cons] at nd
  have hat := h.at_
  cases hat with
  | cons h0 t =>
    refine ⟨upd_same, lv_keep (KT.lst h.la) (fun q hq ws e => ?_) t, ?_⟩
    · rw [upd_ne (fun z => nd.1 (by rw [← z]; simp [hq]))]
      exact e
    · rw [List.nodup_cons]
      exact ⟨fun z => nd.1 (by simp [z]), nd.2.2⟩
def due (lv : List (List Tr)) (b : Nat) : Str := if whole lv = true then "" else if topLen lv = 2 then ")" else if b = 4000 then "." else ".("
def spWhole (C : Addr) : Sp := fun vs H Q _ => ∃ LA ps lv, vs = [.ref LA] ∧ Levels C H LA ps lv ∧ lv ≠ [] ∧ Q (.bl (whole lv)) H
def spDue (C : Addr) : Sp := fun vs H Q _ => ∃ LA ps lv b, vs = [.ref LA, .int (b : Nat)] ∧ Levels C H LA ps lv ∧ lv ≠ [] ∧ Q (.str (due lv b)) H
def spRead (C : Addr) : Sp := fun vs H Q _ => ∃ t : Tr, vs = [.str t.text] ∧ t.size ≤ 4000 ∧ ∀ a H', Same H H' → Th C H' a t → Q (.ref a) H'
section
variable {P : Program} {w : World} {K : PySem.W.Frag} {mg : Str → Option Value} {base : Heap} {C fI : Addr} {fdI : FuncData}
theorem scW : FnScope ["levels"] ["levels"] (defScope sWhole) := ⟨rfl, rfl, rfl, by decide +kernel, rfl, by decide +kernel, by decide +kernel⟩
theorem ok_whole {f : Addr} {fd : FuncData} (F : Fun K "is_whole" "is_whole" sWhole f fd) (T : Txt K mg C) : FnOk P w K mg base CX0 1 f fd ["levels"] (spWhole C) := by
  refine F.ok scW (fun vs H Q E h => ?_) (fun cdv A outer s H vs Q E hr h => ?_)
  · obtain ⟨LA, ps, lv, rfl, _⟩ := h
    rfl
  · obtain ⟨LA, ps, lv, rfl, hL, hne, k⟩ := h
    refine ⟨_, pss_one (ps_ret (pe_and (pe_cmpR op_eq (pe_callB call_len_seq (by rfl) T.len PySem.boot_len (pa_cons (pv 0) pa_nil)) pe_int (nomark _))
      (pe_one (pe_cmpR op_eq (pe_callB call_len_seq (by rfl) T.len PySem.boot_len (pa_cons (pe_ix ix_list (pv 0) pe_int (fun _ _ => rfl)) pa_nil)) pe_int (nomark _))))), ?_⟩
    refine ⟨_, rfl, LA, _, rfl, .inl (SqL.of hL.la), rfl, _, rfl, ?_⟩
    have hat := hL.at_
    have la := hL.la
    cases hat with
    | nil => exact absurd rfl hne
    | @cons p xs ps lv h0 t =>
      obtain ⟨vs, e1, e2⟩ := h0
      cases t with
      | nil =>
        refine iteT ?_
        refine ⟨_, rfl, LA, _, _, .ref p, rfl, rfl, SqL.of la, rfl, p, vs, rfl, .inl (SqL.of e1), rfl, ?_⟩
        have hl := Paired.length e2
        have e : decide (V.int ((vs.length : Nat) : Int) = V.int 1) = whole [xs] := by
          rw [hl]
          match xs with
          | [] => rfl
          | [x] => rfl
          | x :: y :: r =>
            show decide (V.int (((x :: y :: r).length : Nat) : Int) = V.int 1) = false
            simp only [List.length_cons, decide_eq_false_iff_not, V.int.injEq]
            omega
        show Q (.bl (decide (V.int ((vs.length : Nat) : Int) = V.int 1))) H
        rw [e]
        exact k
      | @cons p2 ys ps lv h1 t =>
        have ed : decide (V.int (((((p :: p2 :: ps).map V.ref).reverse).length : Nat) : Int) = V.int 1) = false := by
          simp only [List.length_reverse, List.length_map, List.length_cons, decide_eq_false_iff_not, V.int.injEq]
          omega
        rw [ed]
        have e : whole (xs :: ys :: lv) = false := by rcases xs with _ | ⟨x, _ | ⟨y, r⟩⟩ <;> rfl
        rw [e] at k
        exact iteF k
theorem scD : FnScope ["levels", "begun"] ["levels", "begun"] (defScope sDue) := ⟨rfl, rfl, rfl, by decide +kernel, rfl, by decide +kernel, by decide +kernel⟩
theorem ok_due {f fW : Addr} {fd fdW : FuncData} (F : Fun K "signs_due" "signs_due" sDue f fd) (T : Txt K mg C) (AW : At K mg "is_whole" sWhole ["levels"] fW fdW) : FnOk P w K mg base CX0 2 f fd ["levels", "begun"] (spDue C) := by
  have GW : FnOk P w K mg base CX0 1 fW fdW ["levels"] (spWhole C) := ok_whole AW.F T
  obtain ⟨tm, mgM⟩ := T.mgM
  refine F.ok scD (fun vs H Q E h => ?_) (fun cdv A outer s H vs Q E hr h => ?_)
  · obtain ⟨LA, ps, lv, b, rfl, _⟩ := h
    rfl
  · obtain ⟨LA, ps, lv, b, rfl, hL, hne, k⟩ := h
    refine ⟨_, pss_cons (ps_if (pt_val (pe_call GW hr rfl AW.mgf AW.F.kp AW.b .nil pass0 (pa_cons (pv 0) pa_nil))) (pss_one (ps_ret pe_str)) pss_nil)
      (pss_cons (ps_if (pt_cmpR op_eq (pe_callB call_len_seq (by rfl) T.len PySem.boot_len (pa_cons (pe_ix ix_list (pv 0) (pe_un un_neg pe_int) (fun _ _ => rfl)) pa_nil)) pe_int (nomark _)) (pss_one (ps_ret pe_str)) pss_nil)
      (pss_cons (ps_if (pt_cmpR op_eq (pv 1) (pe_glob (v := .int 4000) rfl mgM ⟨_, rfl⟩) (nomark _)) (pss_one (ps_ret pe_str)) pss_nil)
      (pss_one (ps_ret pe_str)))), ?_⟩
    refine ⟨_, rfl, LA, ps, lv, rfl, hL, hne, _, rfl, ?_⟩
    unfold due at k
    by_cases hw : whole lv = true
    · rw [if_pos hw] at k
      rw [hw]
      exact iteT k
    · rw [if_neg hw] at k
      have hw' : whole lv = false := by simpa using hw
      rw [hw']
      refine iteF ?_
      have la := hL.la
      have hat := hL.at_
      cases hat with
      | nil => exact absurd rfl hne
      | @cons p xs ps lv h0 t =>
        obtain ⟨vs, e1, e2⟩ := h0
        have hl := Paired.length e2
        refine ⟨_, rfl, _, rfl, LA, _, _, .ref p, rfl, rfl, SqL.of la, ?_, p, vs, rfl, .inl (SqL.of e1), rfl, _, rfl, ?_⟩
        · rw [List.map_cons, List.reverse_cons]
          exact atI_last _ _
        · have e : decide (V.int ((vs.length : Nat) : Int) = V.int 2) = decide (topLen (xs :: lv) = 2) := by
            simp only [topLen, V.int.injEq, ← hl]
            exact decide_eq_decide.mpr (by omega)
          rw [e]
          by_cases h2 : topLen (xs :: lv) = 2
          · rw [if_pos h2] at k
            rw [decide_eq_true h2]
            exact iteT k
          · rw [if_neg h2] at k
            rw [decide_eq_false h2]
            refine iteF ?_
            refine ⟨_, rfl, rfl, _, rfl, ?_⟩
            by_cases hb : b = 4000
            · rw [if_pos hb] at k
              subst hb
              exact iteT k
            · rw [if_neg hb] at k
              have ed : decide (V.int ((b : Nat) : Int) = V.int 4000) = false := by
                simp only [decide_eq_false_iff_not, V.int.injEq]
                omega
              rw [ed]
              exact iteF k
theorem due_in {c : Nat} {z : Str} (h : c ∈ z.cps.toList) : (!decide (c ∈ z.cps.toList)) = false := by simp [h]
theorem m41 : (41 : Nat) ∈ ((")" : Str)).cps.toList := by decide +kernel
theorem m46 : (46 : Nat) ∈ (("." : Str)).cps.toList := by decide +kernel
theorem m46b : (46 : Nat) ∈ ((".(" : Str)).cps.toList := by decide +kernel
theorem m40b : (40 : Nat) ∈ ((".(" : Str)).cps.toList := by decide +kernel
theorem scRd : FnScope ["text", "levels", "begun", "place", "sign", "first", "second"] ["text"] (defScope sRead) := ⟨rfl, rfl, rfl, by decide +kernel, rfl, by decide +kernel, by decide +kernel⟩
theorem ok_read {f fW fD : Addr} {fd fdW fdD : FuncData} (F : Fun K "read_thing" "read_thing" sRead f fd) (T : Txt K mg C) (men : mg "enumerate" = none) (mk : Maker P w K mg base C fI fdI) (AW : At K mg "is_whole" sWhole ["levels"] fW fdW) (AD : At K mg "signs_due" sDue ["levels", "begun"] fD fdD) :
    FnOk P w K mg base CX0 4 f fd ["text"] (spRead C) := by
  have GW : FnOk P w K mg base CX0 1 fW fdW ["levels"] (spWhole C) := ok_whole AW.F T
  have GD : FnOk P w K mg base CX0 2 fD fdD ["levels", "begun"] (spDue C) := ok_due AD.F T AW
  refine F.ok scRd (fun vs H Q E h => ?_) (fun cdv A outer s H vs Q E hr h => ?_)
  · obtain ⟨t, rfl, _⟩ := h
    rfl
  · obtain ⟨t, rfl, hz, k⟩ := h
    have hr1 : Room 1 _ := hr.mono (by decide)
    have hr2 : Room 2 _ := hr.mono (by decide)
    refine ⟨_, pss_cons (ps_set (i := 1) scRd.nd rfl (Or.inl rfl) (pe_lst (pa_cons (pe_lst pa_nil) pa_nil))) (pss_cons (ps_set (i := 2) scRd.nd rfl (Or.inl rfl) pe_int)
      (pss_cons (ps_for PassesOwn.never rfl (pi_enumS rfl men (pa_cons (pv 0) pa_nil)) (pg_tup rfl (pgs_cons (pg_name (i := 3) scRd.nd rfl (Or.inl rfl)) (pgs_cons (pg_name (i := 4) scRd.nd rfl (Or.inl rfl)) pgs_nil)))
        (pss_cons (ps_if (pt_cmpR op_notIn_sign (pv 4) (pe_call GD hr2 rfl AD.mgf AD.F.kp AD.b .nil pass0 (pa_cons (pv 1) (pa_cons (pv 2) pa_nil))) rfl) (pss_one ps_never) pss_nil)
        (pss_one (ps_if (pt_cmpR op_eq (pv 4) pe_str (nomark _))
          (pss_cons (ps_aug (i := 2) scRd.nd rfl (Or.inl rfl) pe_int ip_add) (pss_one (ps_expr (pe_bm PySem.F.plainAttrs_list PySem.F.slot_list_append PySem.F.type_list_append mt_append (pv 1) (pa_cons (pe_lst pa_nil) pa_nil)))))
          (pss_one (ps_if (pt_cmpR op_eq (pv 4) pe_str (nomark _))
            (pss_cons (ps_asg (pe_bm0 PySem.F.plainAttrs_list PySem.F.slot_list_pop PySem.F.type_list_pop mt_pop (pv 1)) (pg_unl rfl (pgs_cons (pg_name (i := 5) scRd.nd rfl (Or.inl rfl)) (pgs_cons (pg_name (i := 6) scRd.nd rfl (Or.inl rfl)) pgs_nil))))
              (pss_one (ps_expr (pe_bm PySem.F.plainAttrs_list PySem.F.slot_list_append PySem.F.type_list_append mt_append (pe_ix ix_list (pv 1) (pe_un un_neg pe_int) (fun _ _ => rfl)) (pa_cons (pe_T2 mk hr rfl (pa_cons (pv 5) (pa_cons (pv 6) pa_nil))) pa_nil)))))
            (pss_one (ps_expr (pe_bm PySem.F.plainAttrs_list PySem.F.slot_list_append PySem.F.type_list_append mt_append (pe_ix ix_list (pv 1) (pe_un un_neg pe_int) (fun _ _ => rfl)) (pa_cons (pe_T0 mk hr rfl) pa_nil))))))))))
      (pss_cons (ps_if (pt_not (pt_val (pe_call GW hr1 rfl AW.mgf AW.F.kp AW.b .nil pass0 (pa_cons (pv 1) pa_nil)))) (pss_one ps_never) pss_nil)
      (pss_one (ps_ret (pe_ix ix_list (pe_ix ix_list (pv 1) pe_int (fun _ _ => rfl)) pe_int (fun _ _ => rfl))))))), ?_⟩
    refine ⟨Nat.zero_le _, fun p0 np0 => ?_⟩
    refine ⟨(by show 1 ≤ sizeLine; decide), fun LA nLA => ?_⟩
    have npL : p0 ≠ LA := ne_of_none (o := .lst []) upd_same nLA
    have hLA : H LA = none := by
      have := nLA
      rw [upd_ne (Ne.symm npL)] at this
      exact this
    have hsl := line4
    have s0 : Same H (upd (upd H p0 (.lst [])) LA (.lst [.ref p0])) := (Same.new np0).set hLA
    have L0 : Levels C (upd (upd H p0 (.lst [])) LA (.lst [.ref p0])) LA [p0] [[]] := ⟨upd_same, .cons ⟨[], (upd_ne npL).trans upd_same, .nil⟩ .nil, by simp [Ne.symm npL]⟩
    have hn : t.text.cps.size = t.codes.length := by
      show t.codes.toArray.size = _
      rw [List.size_toArray]
    refine ⟨_, rfl, t.text, rfl, for_it (walk_enumS (z := t.text)) (fun i σ H' => ∃ (x3 x4 x5 x6 : Option V) (ps : List Addr) (lv : List (List Tr)) (ws : List (Option Tr)) (b : Nat),
        σ = [some (.str t.text), some (.ref LA), some (.int (b : Nat)), x3, x4, x5, x6] ∧ Same H H' ∧ Levels C H' LA ps lv ∧ (∀ p ∈ ps, H p = none) ∧ Rel t lv ws ∧ t.codes.drop i = wouts ws ∧ b + oszs ws = t.size)
      ⟨none, none, none, none, [p0], [[]], [some t], 0, rfl, s0, L0, by simp [np0], .start, by simp [wouts, wout], by simp [oszs, osz]⟩ (fun _ _ _ _ _ => trivial) ?_ ?_⟩
    · rintro i x σ H1 H2 hi ⟨x3, x4, x5, x6, ps, lv, ws, b, rfl, s1, hL, hfr, hrel, hws, hb⟩ ⟨T0, c, rfl, nT0, rfl, hc⟩
      have hi' : i < t.codes.length := by rw [← hn]; exact hi
      have hdr : t.codes.drop i = c :: t.codes.drop (i + 1) := by
        rw [List.drop_eq_getElem_cons hi']
        have e : t.codes[i]? = some c := by
          rw [← hc, ← Array.getElem?_toList, Tr.text_list]
        rw [List.getElem?_eq_getElem hi'] at e
        rw [Option.some.inj e]
      have hnn : nn ws ≤ 3 * t.size + 1 := by
        have h1 := nn_le ws
        rw [← hws, List.length_drop, Tr.codes_len] at h1
        omega
      have hlen := hrel.len
      have hpl : ps.length = lv.length := Paired.length hL.at_
      have s2 : Same H (upd H1 T0 (.tup [.int (i : Nat), .str ⟨#[c]⟩])) := s1.trans (Same.new nT0)
      have hL2 : Levels C (upd H1 T0 (.tup [.int (i : Nat), .str ⟨#[c]⟩])) LA ps lv := hL.same (Same.new nT0)
      have hT2 : (upd H1 T0 (.tup [.int (i : Nat), .str ⟨#[c]⟩])) T0 = some (.tup [.int (i : Nat), .str ⟨#[c]⟩]) := upd_same
      revert s2 hL2 hT2
      generalize (upd H1 T0 (.tup [.int (i : Nat), .str ⟨#[c]⟩])) = H3
      intro s2 hL2 hT2
      refine ⟨T0, _, rfl, SqT.of hT2, rfl, _, _, rfl, _, _, rfl, rfl, ?_⟩
      -- if sign not in signs_due(levels, begun)
      refine ⟨_, rfl, _, rfl, _, rfl, LA, ps, lv, b, rfl, hL2, hrel.ne, c, _, rfl, rfl, _, rfl, ?_⟩
      rw [hws] at hdr
      cases ws with
      | nil => simp [wouts] at hdr
      | cons p ws =>
        rw [wouts_cons] at hdr
        rw [oszs_cons] at hb
        have hnw := hrel.notWhole
        cases p with
        | none =>
          simp only [wout, List.singleton_append, List.cons.injEq] at hdr
          obtain ⟨rfl, hdr⟩ := hdr
          obtain ⟨l, r, lv', rfl, hrel'⟩ := hrel.shut
          have hd : due ([l, r] :: lv') b = ")" := by
            unfold due
            rw [hnw, if_neg Bool.false_ne_true, if_pos (show topLen ([l, r] :: lv') = 2 from rfl)]
          rw [hd, due_in m41]
          refine iteF ?_
          refine ⟨_, rfl, rfl, _, rfl, ?_⟩
          have e1 : decide (V.str ⟨#[41]⟩ = V.str "(") = false := by decide +kernel
          rw [e1]
          refine iteF ?_
          refine ⟨_, rfl, rfl, _, rfl, ?_⟩
          have e2 : decide (V.str ⟨#[41]⟩ = V.str ")") = true := by decide +kernel
          rw [e2]
          refine iteT ?_
          have hat := hL2.at_
          cases hat with
          | @cons p _ ps _ h0 tt =>
          obtain ⟨vs, hp, hvs⟩ := h0
          cases hvs with
          | @cons v1 _ vs1 _ hv1 hvs =>
          cases hvs with
          | @cons v2 _ vs2 _ hv2 hvs =>
          cases hvs
          refine ⟨_, rfl, .inl ⟨rfl, _, SqL.of hL2.la⟩, LA, _, .ref p, rfl, rfl, hL2.la, ?_, ?_⟩
          · rw [List.map_cons]
            exact last_rev _ _
          · rw [List.map_cons, drop_rev]
            have nd := hL2.nd
            rw [List.nodup_cons] at nd
            have npLA : p ≠ LA := fun z => nd.1 (by rw [← z]; simp)
            have hL4 := hL2.shut
            have s4 : Same H (upd H3 LA (.lst (ps.map V.ref).reverse)) := s2.set hLA
            have hp4 : (upd H3 LA (.lst (ps.map V.ref).reverse)) p = some (.lst [v1, v2]) := (upd_ne npLA).trans hp
            have hv1' := hv1.kt (KT.lst hL2.la (o := .lst (ps.map V.ref).reverse))
            have hv2' := hv2.kt (KT.lst hL2.la (o := .lst (ps.map V.ref).reverse))
            revert hL4 s4 hp4 hv1' hv2'
            generalize (upd H3 LA (.lst (ps.map V.ref).reverse)) = H4
            intro hL4 s4 hp4 hv1' hv2'
            refine ⟨p, _, rfl, SqL.of hp4, rfl, _, _, rfl, _, _, rfl, rfl, ?_⟩
            obtain ⟨a1, rfl, ha1⟩ := hv1'
            obtain ⟨a2, rfl, ha2⟩ := hv2'
            have hat4 := hL4.at_
            cases lv' with
            | nil => exact absurd rfl hrel'.ne
            | cons ys lv' =>
            cases hat4 with
            | @cons q _ qs _ h0 tt =>
            obtain ⟨us, hq, hus⟩ := h0
            have hle := hrel'.le (.pr l r) (by simp)
            simp only [Tr.size] at hle
            have hroom := hrel'.room
            have hul := Paired.length hus
            refine ⟨_, rfl, _, rfl, LA, _, _, .ref q, rfl, rfl, SqL.of hL4.la, ?_, .inl ⟨rfl, _, SqL.of hq⟩, _, rfl, _, rfl, a1, a2, l, r, rfl, ha1, ha2, by omega, fun z H5 s5 _ h5 => ?_⟩
            · rw [List.map_cons, List.reverse_cons]
              exact atI_last _ _
            · have hq5 := s5 _ _ hq
              refine ⟨q, us, _, rfl, rfl, hq5, by omega, ?_⟩
              have hL6 := (hL4.same s5).put hq5 ⟨z, rfl, h5⟩
              have hfq : H q = none := hfr q (by simp)
              refine ⟨_, _, _, _, q :: qs, (ys ++ [Tr.pr l r]) :: lv', ws, b, rfl, (s4.trans s5).set hfq, hL6, fun p' hp' => hfr p' (List.mem_cons_of_mem _ hp'), hrel'.app, ?_, ?_⟩
              · rw [← hdr]
              · simp only [osz] at hb
                omega
        | some x =>
          have hroom2 := hrel.top
          have hd : due lv b = (if b = 4000 then ("." : Str) else (".(" : Str)) := by
            unfold due
            rw [hnw, if_neg Bool.false_ne_true, if_neg hroom2]
          rw [hd]
          cases x with
          | nil =>
            simp only [wout, Tr.codes, List.singleton_append, List.cons.injEq] at hdr
            obtain ⟨rfl, hdr⟩ := hdr
            have hmem : (46 : Nat) ∈ (if b = 4000 then ("." : Str) else (".(" : Str)).cps.toList := by
              split
              · exact m46
              · exact m46b
            rw [due_in hmem]
            refine iteF ?_
            refine ⟨_, rfl, rfl, _, rfl, ?_⟩
            have e1 : decide (V.str ⟨#[46]⟩ = V.str "(") = false := by decide +kernel
            rw [e1]
            refine iteF ?_
            refine ⟨_, rfl, rfl, _, rfl, ?_⟩
            have e2 : decide (V.str ⟨#[46]⟩ = V.str ")") = false := by decide +kernel
            rw [e2]
            refine iteF ?_
            have hat := hL2.at_
            cases lv with
            | nil => exact absurd rfl hrel.ne
            | cons ys lv =>
            cases hat with
            | @cons q _ qs _ h0 tt =>
            obtain ⟨us, hq, hus⟩ := h0
            have hroom := hrel.room
            have hul := Paired.length hus
            refine ⟨_, rfl, _, rfl, LA, _, _, .ref q, rfl, rfl, SqL.of hL2.la, ?_, .inl ⟨rfl, _, SqL.of hq⟩, fun z H5 s5 _ h5 => ?_⟩
            · rw [List.map_cons, List.reverse_cons]
              exact atI_last _ _
            · have hq5 := s5 _ _ hq
              refine ⟨q, us, _, rfl, rfl, hq5, by omega, ?_⟩
              have hL6 := (hL2.same s5).put hq5 ⟨z, rfl, h5⟩
              have hfq : H q = none := hfr q (by simp)
              refine ⟨_, _, _, _, q :: qs, (ys ++ [Tr.nil]) :: lv, ws, b, rfl, (s2.trans s5).set hfq, hL6, fun p' hp' => hfr p' (by simpa using hp'), hrel.app, ?_, ?_⟩
              · rw [← hdr]
              · simp only [osz, Tr.size] at hb
                omega
          | pr l r =>
            simp only [wout, Tr.codes, List.cons_append, List.cons.injEq] at hdr
            obtain ⟨rfl, hdr⟩ := hdr
            simp only [osz, Tr.size] at hb
            have hb4 : ¬ b = 4000 := by omega
            rw [if_neg hb4, due_in m40b]
            refine iteF ?_
            refine ⟨_, rfl, rfl, _, rfl, ?_⟩
            have e1 : decide (V.str ⟨#[40]⟩ = V.str "(") = true := by decide +kernel
            rw [e1]
            refine iteT ?_
            refine ⟨_, rfl, _, _, rfl, rfl, ?_⟩
            refine ⟨_, rfl, .inl ⟨rfl, _, SqL.of hL2.la⟩, Nat.zero_le _, fun q nq => ?_⟩
            have nqL : LA ≠ q := ne_of_none hL2.la nq
            refine ⟨LA, _, _, rfl, rfl, (upd_ne nqL).trans hL2.la, ?_, ?_⟩
            · rw [List.length_reverse, List.length_map]
              omega
            · refine ⟨some (.int (i : Nat)), some (.str ⟨#[40]⟩), x5, x6, q :: ps, [] :: lv, some l :: some r :: none :: ws, b + 1, ?_, (s2.trans (Same.new nq)).set hLA, hL2.open_ nq, fun p' hp' => ?_, .l0 hrel, ?_, ?_⟩
              · simp
              · rcases List.mem_cons.mp hp' with rfl | hp'
                · exact s2.free nq
                · exact hfr p' hp'
              · rw [← hdr, wouts_cons, wouts_cons, wouts_cons]
                simp [wout]
              · rw [oszs_cons, oszs_cons, oszs_cons]
                simp only [osz]
                omega
    · rintro σ H1 ⟨x3, x4, x5, x6, ps, lv, ws, b, rfl, s1, hL, hfr, hrel, hws, hb⟩
      have hw0 : ws = [] := by
        rw [hn, List.drop_length] at hws
        cases ws with
        | nil => rfl
        | cons p ws =>
          rw [wouts_cons] at hws
          cases p with
          | none => simp [wout] at hws
          | some x => cases x <;> simp [wout, Tr.codes] at hws
      subst hw0
      have hlv := hrel.done
      subst hlv
      refine ⟨_, rfl, LA, ps, _, rfl, hL, by simp, _, rfl, ?_⟩
      refine iteF ?_
      have la := hL.la
      have hat := hL.at_
      cases hat with
      | @cons q _ qs _ h0 tt =>
      cases tt
      obtain ⟨us, hq, hus⟩ := h0
      cases hus with
      | @cons v _ vs _ hv hvs =>
      cases hvs
      obtain ⟨a, rfl, ha⟩ := hv
      exact ⟨_, rfl, LA, _, _, .ref q, rfl, rfl, SqL.of la, rfl, q, _, _, .ref a, rfl, rfl, SqL.of hq, rfl, k a H1 s1 ha⟩
end
end Js

set_option Elab.async false
set_option linter.all false
set_option maxRecDepth 100000
set_option maxHeartbeats 2000000
namespace Js
open PySem L2
open PySem.Spec PyProof.Rows
abbrev sRdI : Stmt := inClass (top 56) 0
abbrev sAhead : Stmt := top 58
abbrev sTk2 : Stmt := top 59
abbrev sFw : Stmt := top 60
abbrev sRdN : Stmt := top 64
/-- list(text) -/
theorem vals_pt : ∀ (xs : List V) (ys : List Value), xs.length = ys.length → (∀ (j : Nat) x y, xs[j]? = some x → ys[j]? = some y → RelV x y) → Vals xs ys
  | [], [], _, _ => .nil
  | [], y :: ys, h, _ => by cases h
  | x :: xs, [], h, _ => by cases h
  | x :: xs, y :: ys, h, k => .cons (k 0 x y rfl rfl) (vals_pt xs ys (by simpa using h) fun j a b e1 e2 => k (j + 1) a b e1 e2)
def sgnV (x : Str) : List V := x.cps.toList.map fun c => V.str ⟨#[c]⟩
theorem call_list_txt {X : Cx} (hc : X.calm = true) : CallR X (.type "list") (fun xs H Q => ∃ x, xs = [.str x] ∧ x.length ≤ sizeLine ∧ ∀ l, H l = none → Q (.ref l) (upd H l (.lst (sgnV x)))) := by
  intro pins s σ H xs us Q I r h
  obtain ⟨x, rfl, hz, q⟩ := h
  obtain ⟨u, rfl, rx⟩ := vals1 r
  obtain ⟨t, rfl⟩ := rx
  refine PySem.call_list_str (I.ok.hd hc) x t (fun h' tk acc' c' kp e hacc => ?_) hz
  refine ⟨.ref s.heap.objs.size, _, I.laid (t' := tk) kp (Nat.le_refl _) (show ObjOk X.prog X.w _ h' _ (.lst (sgnV x)) from ⟨?_, acc'.toList, c', ?_, ?_⟩), rfl, q _ (I.hok.fresh (Nat.le_refl _))⟩
  · rw [sgnV, List.length_map, Array.length_toList]
    exact hz
  · refine vals_pt _ _ (by rw [sgnV, List.length_map, Array.length_toList, Array.length_toList, hacc.1]) fun j a b e1 e2 => ?_
    rw [sgnV, List.getElem?_map] at e1
    obtain ⟨c, hc1, rfl⟩ := Option.map_eq_some_iff.mp e1
    obtain ⟨c2, u, hc2, rfl⟩ := hacc.2 j b (by simpa using e2)
    have e3 : c = c2 := by
      have h1 : x.cps[j]? = some c := by simpa using hc1
      exact Option.some.inj (h1.symm.trans hc2)
    subst e3
    exact ⟨u, rfl⟩
  · simpa using e
/-! ### the reader -/
def letters : List Str := (List.range 10).map letS
theorem let_sgn : sgnV "abcdefghij" = strV letters := by decide +kernel
def looksS : List Str := [("while" : Str), ("if" : Str)]
def takersS : List Str := [("first" : Str), ("second" : Str), ("pair" : Str), ("same" : Str)]
def fwS (fl : Nat) : List Str := if fl = 8 then letters else letters ++ looksS
/-- what the top says -/
structure RdC (K : PySem.W.Frag) (mg : Str → Option Value) : Prop where
  ml : mg "list" = none
  lt : ∃ t, mg "LETTERS" = some (.str "abcdefghij" t)
  lk : ∃ a, mg "LOOKS" = some (.ref a) ∧ ∀ H, SqT K H a (strV looksS)
  tk : ∃ a, mg "TAKERS" = some (.ref a) ∧ ∀ H, SqT K H a (strV takersS)
structure TxtD (K : PySem.W.Frag) (mg : Str → Option Value) (CD : Addr) : Prop where
  cl : Cls K CD
  nW : NoAttr K CD "words"
  nA : NoAttr K CD "at"
  nB : NoAttr K CD "begun"
  mgD : mg "Reader" = some (.ref CD)
def rdF (wl : Addr) (at_ bg : Nat) : List (Str × V) := [("words", .ref wl), ("at", .int ((at_ : Nat) : Int)), ("begun", .int ((bg : Nat) : Int))]
def rdL : List V → List (Str × V)
  | [x] => [("words", x), ("at", .int 0), ("begun", .int 0)]
  | _ => []
theorem d_wa : ¬ (("words" : Str) = "at") := by decide +kernel
theorem d_wb : ¬ (("words" : Str) = "begun") := by decide +kernel
theorem d_ab : ¬ (("at" : Str) = "begun") := by decide +kernel
theorem rd_words (wl : Addr) (a b : Nat) : (rdF wl a b).lookup ("words" : Str) = some (.ref wl) := by
  simp [rdF, List.lookup]
theorem rd_at (wl : Addr) (a b : Nat) : (rdF wl a b).lookup ("at" : Str) = some (.int ((a : Nat) : Int)) := by
  have e : (("at" : Str) == "words") = false := by decide +kernel
  simp [rdF, List.lookup, e]
theorem rd_begun (wl : Addr) (a b : Nat) : (rdF wl a b).lookup ("begun" : Str) = some (.int ((b : Nat) : Int)) := by
  have e : (("begun" : Str) == "words") = false := by decide +kernel
  have e2 : (("begun" : Str) == "at") = false := by decide +kernel
  simp [rdF, List.lookup, e, e2]
theorem rd_pa (wl : Addr) (a b : Nat) : putF "at" (.int (((a : Nat) : Int) + 1)) (rdF wl a b) = rdF wl (a + 1) b := by
  simp only [rdF, putF, if_neg d_wa, if_true]
  rfl
theorem rd_pb (wl : Addr) (a b : Nat) : putF "begun" (.int (((b : Nat) : Int) + 1)) (rdF wl a b) = rdF wl a (b + 1) := by
  simp only [rdF, putF, if_neg d_wb, if_neg d_ab, if_true]
  rfl
def RdAt (CD : Addr) (H : Hp) (rd wl : Addr) (ws : List Str) (at_ bg : Nat) : Prop := (∃ dx, H rd = some (.ins CD dx (rdF wl at_ bg))) ∧ H wl = some (.lst (strV ws)) ∧ ws.length ≤ 10000000
theorem RdAt.same {CD : Addr} {H H' : Hp} {rd wl : Addr} {ws : List Str} {a b : Nat} (s : Same H H') (h : RdAt CD H rd wl ws a b) : RdAt CD H' rd wl ws a b := by
  obtain ⟨⟨dx, h1⟩, h2, h3⟩ := h
  exact ⟨⟨dx, s _ _ h1⟩, s _ _ h2, h3⟩
theorem RdAt.ne {CD : Addr} {H : Hp} {rd wl : Addr} {ws : List Str} {a b : Nat} (h : RdAt CD H rd wl ws a b) : wl ≠ rd := fun z => by
  obtain ⟨⟨dx, h1⟩, h2, _⟩ := h
  rw [z, h1] at h2
  cases h2
def wdV (ws : List Str) (i : Nat) : V := match ws[i]? with
  | some x => .str x
  | none => .non
theorem wdV_some {ws : List Str} {i : Nat} {x : Str} (h : ws[i]? = some x) : wdV ws i = .str x := by rw [wdV, h]
theorem wdV_none {ws : List Str} {i : Nat} (h : ws[i]? = none) : wdV ws i = .non := by rw [wdV, h]
theorem strV_flat (xs : List Str) : (strV xs).all flatV = true := by
  rw [List.all_eq_true]
  intro v hv
  obtain ⟨x, _, rfl⟩ := List.mem_map.mp hv
  rfl
theorem inV_strV (x : Str) (xs : List Str) : inV (.str x) (strV xs) = decide (x ∈ xs) := by
  unfold inV strV
  rw [List.any_map]
  by_cases h : x ∈ xs
  · rw [decide_eq_true h, List.any_eq_true]
    exact ⟨x, h, by simp [eqV]⟩
  · rw [decide_eq_false h, List.any_eq_false]
    intro y hy
    have : ¬ y = x := fun z => h (z ▸ hy)
    simp [eqV, this]
def spAhead (CD : Addr) : Sp := fun vs H Q _ => ∃ rd wl ws a b, vs = [.ref rd] ∧ RdAt CD H rd wl ws a b ∧ Q (wdV ws a) H
def spTk2 (K : PySem.W.Frag) (CD : Addr) : Sp := fun vs H Q _ => ∃ rd wl ws a b rt rs x, vs = [.ref rd, .ref rt] ∧ RdAt CD H rd wl ws a b ∧ (SqL K H rt (strV rs) ∨ SqT K H rt (strV rs)) ∧ ws[a]? = some x ∧ x ∈ rs ∧ ∀ H', KB rd H H' → RdAt CD H' rd wl ws (a + 1) b → Q (.str x) H'
def spFw : Sp := fun vs H Q _ => ∃ fl : Nat, vs = [.int ((fl : Nat) : Int)] ∧ ∀ l H', Same H H' → H l = none → H' l = some (.lst (strV (fwS fl))) → Q (.ref l) H'
def spRdN (CD : Addr) : Sp := fun vs H Q _ => ∃ rd wl ws a b c, vs = [.ref rd] ∧ RdAt CD H rd wl ws a b ∧ c < 10 ∧ ws[a]? = some (letS c) ∧ ∀ H', KB rd H H' → RdAt CD H' rd wl ws (a + 1) b → Q (.int ((c : Nat) : Int)) H'
theorem let_mem (c : Nat) (h : c < 10) : letS c ∈ letters := List.mem_map.mpr ⟨c, List.mem_range.mpr h, rfl⟩
theorem let_ix (c : Nat) (h : c < 10) : ∃ rest, Builtin.Str.occurrences (("abcdefghij" : Str)) (letS c) 0 ((("abcdefghij" : Str))).length 1 = c :: rest := by
  match c, h with
  | 0, _ => exact ⟨[], by decide +kernel⟩
  | 1, _ => exact ⟨[], by decide +kernel⟩
  | 2, _ => exact ⟨[], by decide +kernel⟩
  | 3, _ => exact ⟨[], by decide +kernel⟩
  | 4, _ => exact ⟨[], by decide +kernel⟩
  | 5, _ => exact ⟨[], by decide +kernel⟩
  | 6, _ => exact ⟨[], by decide +kernel⟩
  | 7, _ => exact ⟨[], by decide +kernel⟩
  | 8, _ => exact ⟨[], by decide +kernel⟩
  | 9, _ => exact ⟨[], by decide +kernel⟩
section
variable {P : Program} {w : World} {K : PySem.W.Frag} {mg : Str → Option Value} {base : Heap} {C CP CD fI fP : Addr} {fdI fdP : FuncData}
theorem scDI : FnScope ["self", "words"] ["self", "words"] (defScope sRdI) := ⟨rfl, rfl, rfl, by decide +kernel, rfl, by decide +kernel, by decide +kernel⟩
theorem ok_rdinit {f : Addr} {fd : FuncData} (F : Fun K "__init__" "Reader.__init__" sRdI f fd) (TD : TxtD K mg CD) : FnOk P w K mg base CX0 1 f fd ["self", "words"] (spObj CD rdL 1) := by
  refine F.ok scDI (fun vs H Q E h => ?_) (fun cdv A outer s H vs Q E hr h => ?_)
  · obtain ⟨p, dx, xs, rfl, hl, _⟩ := h
    rw [List.length_cons, hl]
    rfl
  · obtain ⟨p, dx, xs, rfl, hl, hp, k⟩ := h
    obtain ⟨x, rfl⟩ : ∃ x, xs = [x] := List.length_eq_one_iff.mp hl
    refine ⟨_, pss_cons (ps_fld (pv 0) (pv 1) rfl) (pss_cons (ps_fld (pv 0) pe_int rfl) (pss_one (ps_fld (pv 0) pe_int rfl))), ?_⟩
    refine ⟨_, rfl, _, rfl, p, CD, dx, [], rfl, hp, TD.cl, TD.nW, (by show 0 < 1000; decide), ?_⟩
    refine ⟨_, rfl, p, CD, dx, _, rfl, upd_same, TD.cl, TD.nA, (by show 1 < 1000; decide), ?_⟩
    refine ⟨_, rfl, p, CD, dx, _, rfl, upd_same, TD.cl, TD.nB, Nat.lt_of_le_of_lt (length_putF _ _ _) (by show 1 + 1 < 1000; decide), ?_⟩
    rw [upd_upd, upd_upd]
    have e : putF "begun" (.int 0) (putF "at" (.int 0) (putF "words" x [])) = rdL [x] := by
      simp only [rdL, putF, if_neg d_wa, if_neg d_wb, if_neg d_ab]
    show Q .non (upd H p (.ins CD dx (putF "begun" (.int 0) (putF "at" (.int 0) (putF "words" x [])))))
    rw [e]
    exact k
theorem scAh : FnScope ["reader"] ["reader"] (defScope sAhead) := ⟨rfl, rfl, rfl, by decide +kernel, rfl, by decide +kernel, by decide +kernel⟩
theorem scTk2 : FnScope ["reader", "right", "word"] ["reader", "right"] (defScope sTk2) := ⟨rfl, rfl, rfl, by decide +kernel, rfl, by decide +kernel, by decide +kernel⟩
theorem scFw : FnScope ["floors", "letters"] ["floors"] (defScope sFw) := ⟨rfl, rfl, rfl, by decide +kernel, rfl, by decide +kernel, by decide +kernel⟩
theorem scRdn : FnScope ["reader"] ["reader"] (defScope sRdN) := ⟨rfl, rfl, rfl, by decide +kernel, rfl, by decide +kernel, by decide +kernel⟩
theorem ok_ahead {f : Addr} {fd : FuncData} (F : Fun K "ahead" "ahead" sAhead f fd) (B : Blt mg) (TD : TxtD K mg CD) : FnOk P w K mg base CX0 1 f fd ["reader"] (spAhead CD) := by
  refine F.ok scAh (fun vs H Q E h => ?_) (fun cdv A outer s H vs Q E hr h => ?_)
  · obtain ⟨rd, wl, ws, a, b, rfl, _⟩ := h
    rfl
  · obtain ⟨rd, wl, ws, a, b, rfl, ⟨⟨dx, h1⟩, h2, h3⟩, k⟩ := h
    refine ⟨_, pss_one (ps_ret (pe_ifExp (pt_cmpR op_lt (pe_fld (pv 0) rfl) (pe_callB call_len_seq (by rfl) B.len PySem.boot_len (pa_cons (pe_fld (pv 0) rfl) pa_nil)) (nomark _)) (pe_ix (r := rIxL K) ix_list (pe_fld (pv 0) rfl) (pe_fld (pv 0) rfl) (fun _ _ => rfl)) pe_non)), ?_⟩
    refine ⟨_, rfl, _, _, _, _, _, rfl, h1, TD.cl, TD.nA, rd_at _ _ _, _, rfl, _, _, _, _, _, rfl, h1, TD.cl, TD.nW, rd_words _ _ _, wl, _, rfl, .inl (SqL.of h2), _, _, rfl, rfl, _, rfl, ?_⟩
    rw [strV_len]
    by_cases hlt : a < ws.length
    · rw [decide_eq_true (show ((a : Nat) : Int) < ((ws.length : Nat) : Int) by omega)]
      refine iteT ?_
      have hx : ws[a]? = some ws[a] := List.getElem?_eq_getElem hlt
      refine ⟨_, rfl, _, _, _, _, _, rfl, h1, TD.cl, TD.nW, rd_words _ _ _, _, rfl, _, _, _, _, _, rfl, h1, TD.cl, TD.nA, rd_at _ _ _, wl, _, _, _, rfl, rfl, SqL.of h2, atI_nat (v := .str ws[a]) ?_, ?_⟩
      · rw [strV, List.getElem?_map, hx]
        rfl
      · rw [wdV_some hx] at k
        exact k
    · rw [decide_eq_false (show ¬ ((a : Nat) : Int) < ((ws.length : Nat) : Int) by omega)]
      refine iteF ?_
      rw [wdV_none (List.getElem?_eq_none_iff.mpr (by omega))] at k
      exact k
theorem ok_take2 {f : Addr} {fd : FuncData} (F : Fun K "take" "take" sTk2 f fd) (TD : TxtD K mg CD) (DA : Def P w K mg base "ahead" 1 ["reader"] (spAhead CD)) : FnOk P w K mg base CX0 2 f fd ["reader", "right"] (spTk2 K CD) := by
  refine F.ok scTk2 (fun vs H Q E h => ?_) (fun cdv A outer s H vs Q E hr h => ?_)
  · obtain ⟨rd, wl, ws, a, b, rt, rs, x, rfl, _⟩ := h
    rfl
  · obtain ⟨rd, wl, ws, a, b, rt, rs, x, rfl, hrd, hrt, hx, hm, k⟩ := h
    have hr1 : Room 1 _ := hr
    refine ⟨_, pss_cons (ps_set (i := 2) scTk2.nd rfl (Or.inl rfl) (pe_def DA hr1 rfl (pa_cons (pv 0) pa_nil))) (pss_cons (ps_if (pt_cmpR op_notIn_seq (pv 2) (pv 1) rfl) (pss_one ps_never) pss_nil) (pss_cons (ps_fldaug (pv 0) pe_int in_add) (pss_one (ps_ret (pv 2))))), ?_⟩
    refine ⟨_, rfl, rd, wl, ws, a, b, rfl, hrd, ?_⟩
    rw [wdV_some hx]
    refine ⟨_, rfl, _, rfl, rt, _, rfl, hrt, rfl, strV_flat rs, _, rfl, ?_⟩
    rw [show (if true = true then !inV (.str x) (strV rs) else inV (.str x) (strV rs)) = false by rw [if_pos rfl, inV_strV, decide_eq_true hm]; rfl]
    refine iteF ?_
    have hne := hrd.ne
    obtain ⟨⟨dx, h1⟩, h2, h3⟩ := hrd
    refine ⟨_, rfl, rd, _, _, _, _, rfl, h1, TD.cl, TD.nA, rd_at _ _ _, _, _, rfl, rfl, dx, _, h1, (by show 3 < 1000; decide), ?_⟩
    have e : putF "at" (.int (((a : Nat) : Int) + 1)) (rdF wl a b) = rdF wl (a + 1) b := rd_pa wl a b
    refine ⟨_, rfl, k _ KB.set ⟨⟨dx, ?_⟩, ?_, h3⟩⟩
    · rw [upd_same]
      exact congrArg (fun z => some (HO.ins CD dx z)) e
    · rw [upd_ne hne]
      exact h2
theorem ok_fw {f : Addr} {fd : FuncData} (F : Fun K "first_words" "first_words" sFw f fd) (R : RdC K mg) (G : FrmC K w mg) : FnOk P w K mg base CX0 1 f fd ["floors"] spFw := by
  obtain ⟨tL, mL⟩ := R.lt
  obtain ⟨aLk, mLk, hLk⟩ := R.lk
  obtain ⟨tF, mF⟩ := G.mF
  refine F.ok scFw (fun vs H Q E h => ?_) (fun cdv A outer s H vs Q E hr h => ?_)
  · obtain ⟨fl, rfl, _⟩ := h
    rfl
  · obtain ⟨fl, rfl, k⟩ := h
    refine ⟨_, pss_cons (ps_set (i := 1) scFw.nd rfl (Or.inl rfl) (pe_callTy (call_list_txt rfl) (by rfl) R.ml PyProof.Rows.boot_list (pa_cons (pe_glob (v := .str "abcdefghij") rfl mL ⟨_, rfl⟩) pa_nil))) (pss_one (ps_ret (pe_ifExp (pt_cmpR op_eq (pv 0) (pe_glob (v := .int 8) rfl mF ⟨_, rfl⟩) (nomark _)) (pv 1) (pe_lst (StX.pa_star (pv 1) (StX.pa_star (pe_glob (v := .ref aLk) rfl mLk rfl) pa_nil)))))), ?_⟩
    refine ⟨_, rfl, by decide +kernel, fun l nl => ?_⟩
    rw [let_sgn]
    have s1 := Same.new nl (o := .lst (strV letters))
    have e1 : (upd H l (.lst (strV letters))) l = some (.lst (strV letters)) := upd_same
    revert s1 e1
    generalize upd H l (.lst (strV letters)) = H1
    intro s1 e1
    refine ⟨_, rfl, rfl, _, rfl, ?_⟩
    by_cases h8 : fl = 8
    · subst h8
      rw [decide_eq_true (show V.int ((8 : Nat) : Int) = V.int 8 from rfl)]
      exact iteT ⟨_, rfl, k l H1 s1 nl e1⟩
    · rw [decide_eq_false (show ¬ V.int ((fl : Nat) : Int) = V.int 8 from fun z => h8 (by have := V.int.inj z; omega))]
      refine iteF ?_
      refine ⟨_, rfl, l, _, rfl, .inr (SqL.of e1), aLk, _, rfl, .inl (hLk H1), by show 12 ≤ sizeLine; decide, fun l2 nl2 => ?_⟩
      refine k l2 _ (s1.trans (Same.new nl2)) (s1.free nl2) ?_
      rw [upd_same, fwS, if_neg h8, strV_app, List.append_nil]
theorem ok_rdN {f : Addr} {fd : FuncData} (F : Fun K "read_name" "read_name" sRdN f fd) (R : RdC K mg) (DT : Def P w K mg base "take" 2 ["reader", "right"] (spTk2 K CD)) : FnOk P w K mg base CX0 3 f fd ["reader"] (spRdN CD) := by
  obtain ⟨tL, mL⟩ := R.lt
  refine F.ok scRdn (fun vs H Q E h => ?_) (fun cdv A outer s H vs Q E hr h => ?_)
  · obtain ⟨rd, wl, ws, a, b, c, rfl, _⟩ := h
    rfl
  · obtain ⟨rd, wl, ws, a, b, c, rfl, hrd, hc, hx, k⟩ := h
    have hr2 : Room 2 _ := hr
    refine ⟨_, pss_one (ps_ret (pe_m1 PySem.F.slot_str_index PySem.F.type_str_index mt_sindex (pe_glob (v := .str "abcdefghij") rfl mL ⟨_, rfl⟩) (pe_def DT hr2 rfl (pa_cons (pv 0) (pa_cons (pe_callTy (call_list_txt rfl) (by rfl) R.ml PyProof.Rows.boot_list (pa_cons (pe_glob (v := .str "abcdefghij") rfl mL ⟨_, rfl⟩) pa_nil)) pa_nil))))), ?_⟩
    refine ⟨⟨_, rfl⟩, _, rfl, _, rfl, by decide +kernel, fun l nl => ?_⟩
    rw [let_sgn]
    have s1 := Same.new nl (o := .lst (strV letters))
    have e1 : (upd H l (.lst (strV letters))) l = some (.lst (strV letters)) := upd_same
    revert s1 e1
    generalize upd H l (.lst (strV letters)) = H1
    intro s1 e1
    refine ⟨rd, wl, ws, a, b, l, letters, letS c, rfl, hrd.same s1, .inl (SqL.of e1), hx, let_mem c hc, fun H2 k2 h2 => ?_⟩
    obtain ⟨rest, ho⟩ := let_ix c hc
    exact ⟨_, _, c, rest, rfl, rfl, ho, k H2 ((KB.of s1).trans k2) h2⟩
end
end Js

set_option Elab.async false
set_option linter.all false
set_option maxRecDepth 100000
set_option maxHeartbeats 2000000
namespace Js
open PySem L2
/-- what stands in a deed behind its first name -/
inductive Pc where
  | nm (b : Nat)
  | th (t : Tr)
  | rw (r : List Dd)
def Dd.nm1 : Dd → Nat
  | .told a _ => a
  | .take _ a _ => a
  | .two _ a _ _ => a
  | .wh a _ => a
  | .iff a _ _ => a
def Dd.pcs : Dd → List Pc
  | .told _ t => [.th t]
  | .take _ _ b => [.nm b]
  | .two _ _ b c => [.nm b, .nm c]
  | .wh _ r => [.rw r]
  | .iff _ r o => [.rw r, .rw o]
def PcAt (K : PySem.W.Frag) (C : Addr) (H : Hp) (v : V) : Pc → Prop
  | .nm b => b < 10 ∧ v = .int (b : Nat)
  | .th t => t.size ≤ 4000 ∧ ∃ a, v = .ref a ∧ Th C H a t
  | .rw r => ∃ q, v = .ref q ∧ RAt K C H q r
theorem PcAt.kt {K : PySem.W.Frag} {C : Addr} {H H' : Hp} (k : KT H H') {v : V} : ∀ {x : Pc}, PcAt K C H v x → PcAt K C H' v x
  | .nm _, h => h
  | .th _, ⟨z, a, e, h⟩ => ⟨z, a, e, h.kt k⟩
  | .rw _, ⟨q, e, h⟩ => ⟨q, e, h.kt k⟩
theorem pcs_kt {K : PySem.W.Frag} {C : Addr} {H H' : Hp} (k : KT H H') : ∀ {vs : List V} {xs : List Pc}, Paired (PcAt K C H) vs xs → Paired (PcAt K C H') vs xs
  | _, _, .nil => .nil
  | _, _, .cons h t => .cons (h.kt k) (pcs_kt k t)
theorem DAt_split {K : PySem.W.Frag} {C : Addr} {H : Hp} {v : V} : ∀ (d : Dd), DAt K C H v d → ∃ p its, v = .ref p ∧ SqT K H p (.str (kindOf d) :: .int ((d.nm1 : Nat) : Int) :: its) ∧ d.nm1 < 10 ∧ Paired (PcAt K C H) its d.pcs ∧ its ≠ []
  | .told a t, h => by
    obtain ⟨p, x, e, h1, h2, h3, h4⟩ := h
    exact ⟨p, _, e, h1, h2, .cons ⟨h4, x, rfl, h3⟩ .nil, by simp⟩
  | .take s a b, h => by
    obtain ⟨p, e, h1, h2, h3⟩ := h
    exact ⟨p, _, e, h1, h2, .cons ⟨h3, rfl⟩ .nil, by simp⟩
  | .two s a b c, h => by
    obtain ⟨p, e, h1, h2, h3, h4⟩ := h
    exact ⟨p, _, e, h1, h2, .cons ⟨h3, rfl⟩ (.cons ⟨h4, rfl⟩ .nil), by simp⟩
  | .wh a r, h => by
    obtain ⟨p, q, vs, e, h1, h2, h3, h4⟩ := h
    exact ⟨p, _, e, h1, h2, .cons ⟨q, rfl, vs, h3, h4⟩ .nil, by simp⟩
  | .iff a r o, h => by
    obtain ⟨p, q, vs, q2, vs2, e, h1, h2, h3, h4, h5, h6⟩ := h
    exact ⟨p, _, e, h1, h2, .cons ⟨q, rfl, vs, h3, h4⟩ (.cons ⟨q2, rfl, vs2, h5, h6⟩ .nil), by simp⟩
theorem paired1 {α β : Type} {R : α → β → Prop} {xs : List α} {y : β} (h : Paired R xs [y]) : ∃ x, xs = [x] ∧ R x y := by
  cases h with
  | cons h t =>
    cases t
    exact ⟨_, rfl, h⟩
theorem paired2 {α β : Type} {R : α → β → Prop} {xs : List α} {y z : β} (h : Paired R xs [y, z]) : ∃ x x', xs = [x, x'] ∧ R x y ∧ R x' z := by
  cases h with
  | cons h t =>
    obtain ⟨x', rfl, h'⟩ := paired1 t
    exact ⟨_, x', rfl, h, h'⟩
theorem DAt_join {K : PySem.W.Frag} {C : Addr} {H : Hp} {p : Addr} {its : List V} : ∀ (d : Dd), SqT K H p (.str (kindOf d) :: .int ((d.nm1 : Nat) : Int) :: its) → d.nm1 < 10 → Paired (PcAt K C H) its d.pcs → DAt K C H (.ref p) d
  | .told a t, h1, h2, h => by
    obtain ⟨x, rfl, h4, x1, rfl, h3⟩ := paired1 h
    exact ⟨p, x1, rfl, h1, h2, h3, h4⟩
  | .take s a b, h1, h2, h => by
    obtain ⟨x, rfl, h3, rfl⟩ := paired1 h
    exact ⟨p, rfl, h1, h2, h3⟩
  | .two s a b c, h1, h2, h => by
    obtain ⟨x, x', rfl, ⟨h3, rfl⟩, h4, rfl⟩ := paired2 h
    exact ⟨p, rfl, h1, h2, h3, h4⟩
  | .wh a r, h1, h2, h => by
    obtain ⟨x, rfl, q, rfl, vs, h3, h4⟩ := paired1 h
    exact ⟨p, q, vs, rfl, h1, h2, h3, h4⟩
  | .iff a r o, h1, h2, h => by
    obtain ⟨x, x', rfl, ⟨q, rfl, vs, h3, h4⟩, q2, rfl, vs2, h5, h6⟩ := paired2 h
    exact ⟨p, q, vs, q2, vs2, rfl, h1, h2, h3, h4, h5, h6⟩
def Pc.deep : Pc → Nat
  | .rw r => deepR r + 1
  | _ => 0
theorem pcs_deep : ∀ (d : Dd) (x : Pc), x ∈ d.pcs → x.deep ≤ d.deep
  | .told a t, x, h => by simp [Dd.pcs] at h; subst h; exact Nat.zero_le _
  | .take s a b, x, h => by simp [Dd.pcs] at h; subst h; exact Nat.zero_le _
  | .two s a b c, x, h => by
    simp [Dd.pcs] at h
    rcases h with rfl | rfl <;> exact Nat.zero_le _
  | .wh a r, x, h => by
    simp [Dd.pcs] at h
    subst h
    rw [Pc.deep, Dd.deep]
    exact Nat.le_refl _
  | .iff a r o, x, h => by
    simp [Dd.pcs] at h
    rw [Dd.deep]
    rcases h with rfl | rfl
    · rw [Pc.deep]; have := Nat.le_max_left (deepR r) (deepR o); omega
    · rw [Pc.deep]; have := Nat.le_max_right (deepR r) (deepR o); omega
theorem pcs_len (d : Dd) : d.pcs.length ≤ 2 := by cases d <;> simp [Dd.pcs]
end Js

set_option Elab.async false
set_option linter.all false
set_option maxRecDepth 100000
set_option maxHeartbeats 2000000
namespace Js
open PySem L2
open PySem.Spec PyProof.Rows
abbrev sRdT : Stmt := top 65
abbrev sRdD : Stmt := top 62
abbrev sRdL : Stmt := top 63
abbrev sRdR : Stmt := top 61
theorem takes0 {X : Cx} : Takes X (fun _ _ _ _ => False) := fun u s' x => by
  obtain ⟨_, _, _, _, _, _, _, _, _, _, _, _, _, _, _, _, h⟩ := x
  exact h.elim
theorem pss_never {X : Cx} {ss : List Stmt} : PSs X ss (fun _ _ _ => False) := ⟨fun _ _ _ _ _ _ h => h.elim⟩
/-! ### deeds that may be read -/
mutual
def Dd.ok : Dd → Prop
  | .told a t => a < 10 ∧ t.size ≤ 4000
  | .take _ a b => a < 10 ∧ b < 10
  | .two _ a b c => a < 10 ∧ b < 10 ∧ c < 10
  | .wh a r => a < 10 ∧ okR r
  | .iff a r o => a < 10 ∧ okR r ∧ okR o
def okR : List Dd → Prop
  | [] => True
  | d :: r => d.ok ∧ okR r
end
mutual
theorem DAt_ok {K : PySem.W.Frag} {C : Addr} {H : Hp} : ∀ (d : Dd) (v : V), DAt K C H v d → d.ok
  | .told a t, v, h => by
    obtain ⟨p, x, _, _, h2, _, h4⟩ := h
    exact ⟨h2, h4⟩
  | .take s a b, v, h => by
    obtain ⟨p, _, _, h2, h3⟩ := h
    exact ⟨h2, h3⟩
  | .two s a b c, v, h => by
    obtain ⟨p, _, _, h2, h3, h4⟩ := h
    exact ⟨h2, h3, h4⟩
  | .wh a r, v, h => by
    obtain ⟨p, q, vs, _, _, h2, _, h4⟩ := h
    exact ⟨h2, DsAt_ok r vs h4⟩
  | .iff a r o, v, h => by
    obtain ⟨p, q, vs, q2, vs2, _, _, h2, _, h4, _, h6⟩ := h
    exact ⟨h2, DsAt_ok r vs h4, DsAt_ok o vs2 h6⟩
theorem DsAt_ok {K : PySem.W.Frag} {C : Addr} {H : Hp} : ∀ (r : List Dd) (vs : List V), DsAt K C H vs r → okR r
  | [], _, _ => trivial
  | d :: r, vs, h => by
    obtain ⟨v, us, _, h1, h2⟩ := h
    exact ⟨DAt_ok d v h1, DsAt_ok r us h2⟩
end
/-! ### the heap without the reader -/
theorem kb_del {rd : Addr} {H H' : Hp} (k : KB rd H H') : Same (del H rd) (del H' rd) := fun x o h => by
  by_cases e : x = rd
  · rw [e, del, if_pos rfl] at h
    cases h
  · rw [del_ne e] at h ⊢
    exact k x o e h
theorem del_up (H : Hp) (rd : Addr) : Same (del H rd) H := fun x o h => by
  by_cases e : x = rd
  · rw [e, del, if_pos rfl] at h
    cases h
  · rw [del_ne e] at h
    exact h
theorem del_at {H : Hp} {rd x : Addr} {o : HO} (h : H x = some o) (n : x ≠ rd) : del H rd x = some o := (del_ne n).trans h
theorem th_del {C CD rd : Addr} {H : Hp} (hC : C ≠ CD) {dx : Addr} {fs : List (Str × V)} (h : H rd = some (.ins CD dx fs)) : ∀ (t : Tr) (a : Addr), Th C H a t → Th C (del H rd) a t := by
  have ne : ∀ {a dy : Addr} {gs : List (Str × V)}, H a = some (.ins C dy gs) → a ≠ rd := fun e z => by
    rw [z, h] at e
    injection e with e
    injection e with e1
    exact hC e1.symm
  intro t a ht
  induction ht with
  | nil h => exact .nil (del_at h (ne h))
  | pr h _ _ i1 i2 => exact .pr (del_at h (ne h)) i1 i2
theorem del_upd (H : Hp) (rd : Addr) (o : HO) : Same (del H rd) (upd H rd o) := fun x u h => by
  by_cases e : x = rd
  · rw [e, del, if_pos rfl] at h
    cases h
  · rw [del_ne e] at h
    rw [upd_ne e]
    exact h
/-- the reader goes one on -/
theorem rd_on {CD : Addr} {H : Hp} {rd wl dx : Addr} {ws : List Str} {a b : Nat} (hne : wl ≠ rd) (h2 : H wl = some (.lst (strV ws))) (h3 : ws.length ≤ 10000000) : RdAt CD (upd H rd (.ins CD dx (putF "at" (.int (((a : Nat) : Int) + 1)) (rdF wl a b)))) rd wl ws (a + 1) b := by
  refine ⟨⟨dx, ?_⟩, by rw [upd_ne hne]; exact h2, h3⟩
  rw [upd_same, rd_pa]
theorem rd_bg {CD : Addr} {H : Hp} {rd wl dx : Addr} {ws : List Str} {a b : Nat} (hne : wl ≠ rd) (h2 : H wl = some (.lst (strV ws))) (h3 : ws.length ≤ 10000000) : RdAt CD (upd H rd (.ins CD dx (putF "begun" (.int (((b : Nat) : Int) + 1)) (rdF wl a b)))) rd wl ws a (b + 1) := by
  refine ⟨⟨dx, ?_⟩, by rw [upd_ne hne]; exact h2, h3⟩
  rw [upd_same, rd_pb]
theorem rd_ne {CD : Addr} {H : Hp} {rd wl x : Addr} {ws : List Str} {a b : Nat} {xs : List V} (h : RdAt CD H rd wl ws a b) (hx : H x = some (.tup xs)) : x ≠ rd := fun z => by
  obtain ⟨⟨dx, h1⟩, _⟩ := h
  rw [z, h1] at hx
  cases hx
theorem rd_nl {CD : Addr} {H : Hp} {rd wl x : Addr} {ws : List Str} {a b : Nat} {xs : List V} (h : RdAt CD H rd wl ws a b) (hx : H x = some (.lst xs)) : x ≠ rd := fun z => by
  obtain ⟨⟨dx, h1⟩, _⟩ := h
  rw [z, h1] at hx
  cases hx
/-! ### words -/
theorem dr_at {ws : List Str} {a : Nat} {x : Str} {xs : List Str} (h : ws.drop a = x :: xs) : ws[a]? = some x := by
  have : (ws.drop a)[0]? = some x := by rw [h]; rfl
  rwa [List.getElem?_drop, Nat.add_zero] at this
theorem dr_on {ws : List Str} {a : Nat} {xs ys : List Str} (h : ws.drop a = xs ++ ys) : ws.drop (a + xs.length) = ys := by
  rw [← List.drop_drop, h, List.drop_left]
theorem dr_one {ws : List Str} {a : Nat} {x : Str} {xs : List Str} (h : ws.drop a = x :: xs) : ws.drop (a + 1) = xs := dr_on (xs := [x]) h
theorem dr_none {ws : List Str} {a : Nat} (h : ws.drop a = []) : ws[a]? = none := by
  have : (ws.drop a)[0]? = none := by rw [h]; rfl
  rwa [List.getElem?_drop, Nat.add_zero] at this
theorem let_nlk (c : Nat) (h : c < 10) : letS c ∉ looksS := by
  match c, h with
  | 0, _ => decide +kernel
  | 1, _ => decide +kernel
  | 2, _ => decide +kernel
  | 3, _ => decide +kernel
  | 4, _ => decide +kernel
  | 5, _ => decide +kernel
  | 6, _ => decide +kernel
  | 7, _ => decide +kernel
  | 8, _ => decide +kernel
  | 9, _ => decide +kernel
theorem let_inj (a b : Nat) (ha : a < 10) (hb : b < 10) (h : letS a = letS b) : a = b := by
  obtain ⟨r1, h1⟩ := let_ix a ha
  obtain ⟨r2, h2⟩ := let_ix b hb
  rw [h] at h1
  exact (List.cons.inj (h1.symm.trans h2)).1
theorem text_ntk (t : Tr) : t.text ∉ takersS := by
  cases t with
  | nil => decide +kernel
  | pr l r =>
    intro h
    have hl : (Tr.pr l r).text.cps.toList[0]? = some 40 := by rw [Tr.text_list]; rfl
    simp only [takersS, List.mem_cons, List.not_mem_nil, or_false] at h
    rcases h with h | h | h | h <;> (rw [h] at hl; exact absurd hl (by decide +kernel))
theorem take_tk (s : Bool) : takeS s ∈ takersS := by cases s <;> decide +kernel
theorem two_tk (s : Bool) : twoS s ∈ takersS := by cases s <;> decide +kernel
theorem look_lk (d : Dd) (h : d.rows ≠ []) : kindOf d ∈ looksS := by
  cases d with
  | wh a r => exact (by decide +kernel : ("while" : Str) ∈ looksS)
  | iff a r o => exact (by decide +kernel : ("if" : Str) ∈ looksS)
  | _ => exact absurd rfl h
theorem fw_let (fl c : Nat) (h : c < 10) : letS c ∈ fwS fl := by
  unfold fwS
  split
  · exact let_mem c h
  · exact List.mem_append_left _ (let_mem c h)
theorem fw_look {fl : Nat} {x : Str} (h8 : fl ≠ 8) (h : x ∈ looksS) : x ∈ fwS fl := by
  unfold fwS
  rw [if_neg h8]
  exact List.mem_append_right _ h
theorem fw_cl (fl : Nat) : ("]" : Str) ∉ fwS fl := by
  unfold fwS
  split <;> decide +kernel
/-- what stands behind a row -/
def Aft (post : List Str) : Prop := post = [] ∨ ∃ p, post = ("]" : Str) :: p
def spRdT (C CD : Addr) : Sp := fun vs H Q _ => ∃ rd wl ws a b t, vs = [.ref rd] ∧ RdAt CD H rd wl ws a b ∧ ws[a]? = some t.text ∧ t.size ≤ 4000 ∧ ∀ x H', KB rd H H' → RdAt CD H' rd wl ws (a + 1) b → Th C H' x t → Q (.ref x) H'
def spRdD (K : PySem.W.Frag) (C CD : Addr) (n : Nat) : Sp := fun vs H Q _ => ∃ rd wl ws a b fl d post, vs = [.ref rd, .int ((fl : Nat) : Int)] ∧ RdAt CD H rd wl ws a b ∧ Dd.ok d ∧ d.deep < n ∧ fl + d.deep ≤ 8 ∧ b + d.many ≤ 4000 ∧ ws.drop a = d.words ++ post ∧
  ∀ v H', KB rd H H' → RdAt CD H' rd wl ws (a + d.words.length) (b + d.many) → DAt K C (del H' rd) v d → Q v H'
def spRdL (K : PySem.W.Frag) (C CD : Addr) (n : Nat) : Sp := fun vs H Q _ => ∃ rd wl ws a b fl d post, vs = [.ref rd, .str (kindOf d), .int ((fl : Nat) : Int)] ∧ RdAt CD H rd wl ws a b ∧ d.rows ≠ [] ∧ Dd.ok d ∧ d.deep < n ∧ fl + d.deep ≤ 8 ∧ b + manyL d.rows ≤ 4000 ∧ ws.drop a = letS d.nm1 :: (wordsL d.rows ++ post) ∧
  ∀ v H', KB rd H H' → RdAt CD H' rd wl ws (a + 1 + (wordsL d.rows).length) (b + manyL d.rows) → DAt K C (del H' rd) v d → Q v H'
def spRdR (K : PySem.W.Frag) (C CD : Addr) (n : Nat) : Sp := fun vs H Q _ => ∃ rd wl ws a b fl r post, vs = [.ref rd, .int ((fl : Nat) : Int)] ∧ RdAt CD H rd wl ws a b ∧ okR r ∧ deepR r < n ∧ fl + deepR r ≤ 8 ∧ b + manyR r ≤ 4000 ∧ ws.drop a = wordsR r ++ post ∧ Aft post ∧
  ∀ q H', KB rd H H' → RdAt CD H' rd wl ws (a + (wordsR r).length) (b + manyR r) → RAt K C (del H' rd) q r → Q (.ref q) H'
section
variable {P : Program} {w : World} {K : PySem.W.Frag} {mg : Str → Option Value} {base : Heap} {C CP CD fI fP : Addr} {fdI fdP : FuncData}
theorem scTd : FnScope ["reader", "word", "thing"] ["reader"] (defScope sRdT) := ⟨rfl, rfl, rfl, by decide +kernel, rfl, by decide +kernel, by decide +kernel⟩
theorem scDd : FnScope ["reader", "floors", "word", "name", "kind", "others", "sign"] ["reader", "floors"] (defScope sRdD) := ⟨rfl, rfl, rfl, by decide +kernel, rfl, by decide +kernel, by decide +kernel⟩
theorem scLo2 : FnScope ["reader", "kind", "floors", "name", "inner", "sign"] ["reader", "kind", "floors"] (defScope sRdL) := ⟨rfl, rfl, rfl, by decide +kernel, rfl, by decide +kernel, by decide +kernel⟩
theorem scRw : FnScope ["reader", "floors", "deeds"] ["reader", "floors"] (defScope sRdR) := ⟨rfl, rfl, rfl, by decide +kernel, rfl, by decide +kernel, by decide +kernel⟩
theorem ok_rdT {f NT : Addr} {fd : FuncData} (F : Fun K "read_told" "read_told" sRdT f fd) (TD : TxtD K mg CD) (hCD : C ≠ CD) (mNT : mg "NoText" = some (.ref NT)) (DA : Def P w K mg base "ahead" 1 ["reader"] (spAhead CD)) (DRt : Def P w K mg base "read_thing" 4 ["text"] (spRead C)) : FnOk P w K mg base CX0 5 f fd ["reader"] (spRdT C CD) := by
  refine F.ok scTd (fun vs H Q E h => ?_) (fun cdv A outer s H vs Q E hr h => ?_)
  · obtain ⟨rd, wl, ws, a, b, t, rfl, _⟩ := h
    rfl
  · obtain ⟨rd, wl, ws, a, b, t, rfl, hrd, hx, hz, k⟩ := h
    have hr1 : Room 1 _ := hr.mono (by decide)
    have hr4 : Room 4 _ := hr
    refine ⟨_, pss_cons (ps_set (i := 1) scTd.nd rfl (Or.inl rfl) (pe_def DA hr1 rfl (pa_cons (pv 0) pa_nil))) (pss_cons (ps_if (pt_cmp (pc_isN (pv 1))) (pss_one ps_never) pss_nil) (pss_cons (ps_try_only (tb := fun _ => tAsg (tCall (spRead C) [] E0 (tCons (tVar 1) tNil)) (gName 2)) (ts := fun _ _ _ _ _ _ => False) (Wout := fun _ _ _ _ => False) rfl rfl ⟨rfl, by decide, Or.inl mNT⟩ takes0 (fun W pn xe tk _ => (pss_one (ps_set (i := 2) scTd.nd rfl (Or.inl rfl) (by exact (pe_def DRt hr4 rfl (by exact (pa_cons (pv 1) pa_nil))))))) (fun a oe cls d pn hz hf => pss_never)) (pss_cons (ps_fldaug (pv 0) pe_int in_add) (pss_one (ps_ret (pv 2)))))), ?_⟩
    refine ⟨_, rfl, rd, wl, ws, a, b, rfl, hrd, ?_⟩
    rw [wdV_some hx]
    refine ⟨_, rfl, false, congrArg V.bl (decide_eq_false (fun z => nomatch z)), iteF ?_⟩
    refine ⟨_, rfl, t, rfl, hz, fun x H1 s1 hxT => ?_⟩
    have hrd1 := hrd.same s1
    have hne := hrd1.ne
    obtain ⟨⟨dx, h1⟩, h2, h3⟩ := hrd1
    refine ⟨_, rfl, rd, _, _, _, _, rfl, h1, TD.cl, TD.nA, rd_at _ _ _, _, _, rfl, rfl, dx, _, h1, (by show 3 < 1000; decide), ?_⟩
    exact ⟨_, rfl, k x _ ((KB.of s1).trans KB.set) (rd_on hne h2 h3) ((th_del hCD h1 t x hxT).same (del_upd _ _ _))⟩
theorem ok_rdD {f fL : Addr} {fd fdL : FuncData} {n : Nat} (F : Fun K "read_deed" "read_deed" sRdD f fd) (R : RdC K mg) (G : FrmC K w mg) (TD : TxtD K mg CD) (hCD : C ≠ CD) (DA : Def P w K mg base "ahead" 1 ["reader"] (spAhead CD)) (DT : Def P w K mg base "take" 2 ["reader", "right"] (spTk2 K CD)) (DF : Def P w K mg base "first_words" 1 ["floors"] spFw) (DN : Def P w K mg base "read_name" 3 ["reader"] (spRdN CD)) (DTd : Def P w K mg base "read_told" 5 ["reader"] (spRdT C CD))
    (GL : FnOk P w K mg base CX0 (3 * n + 5) fL fdL ["reader", "kind", "floors"] (spRdL K C CD n)) (mgl : mg "read_look" = some (.ref fL)) (kl : PySem.W.keepIn K (.ref fL) = true) (bl : Binds K fdL ["reader", "kind", "floors"] []) : FnOk P w K mg base CX0 (3 * n + 6) f fd ["reader", "floors"] (spRdD K C CD n) := by
  obtain ⟨tL, mL⟩ := R.lt
  obtain ⟨aLk, mLk, hLk⟩ := R.lk
  obtain ⟨aTk, mTk, hTk⟩ := R.tk
  obtain ⟨dF, es, nF, mF, kd, hk⟩ := G.ex
  refine F.ok scDd (fun vs H Q E h => ?_) (fun cdv A outer s H vs Q E hr h => ?_)
  · obtain ⟨rd, wl, ws, a, b, fl, d, post, rfl, _⟩ := h
    rfl
  · obtain ⟨rd, wl, ws, a, b, fl, d, post, rfl, hrd, hok, hdp, hfl, hmn, hws, k⟩ := h
    have hr1 : Room 1 _ := hr.mono (by omega)
    have hr2 : Room 2 _ := hr.mono (by omega)
    have hr3 : Room 3 _ := hr.mono (by omega)
    have hr5 : Room 5 _ := hr.mono (by omega)
    refine ⟨_, pss_cons (ps_set (i := 2) scDd.nd rfl (Or.inl rfl) (pe_def DT hr2 rfl (pa_cons (pv 0) (pa_cons (pe_def DF hr1 rfl (pa_cons (pv 1) pa_nil)) pa_nil)))) (pss_cons (ps_fldaug (pv 0) pe_int in_add) (pss_cons (ps_if (pt_cmpR op_in_seq (pv 2) (pe_glob (v := .ref aLk) rfl mLk rfl) rfl) (pss_one (ps_ret (pe_call GL hr rfl mgl kl bl .nil pass0 (pa_cons (pv 0) (pa_cons (pv 2) (pa_cons (pv 1) pa_nil)))))) pss_nil) (pss_cons (ps_set (i := 3) scDd.nd rfl (Or.inl rfl) (pe_m1 PySem.F.slot_str_index PySem.F.type_str_index mt_sindex (pe_glob (v := .str "abcdefghij") rfl mL ⟨_, rfl⟩) (pv 2))) (pss_cons (ps_expr (pe_def DT hr2 rfl (pa_cons (pv 0) (pa_cons (pe_tup (pa_cons pe_str pa_nil)) pa_nil)))) (pss_cons (ps_if (pt_cmpR op_notIn_seq (pe_def DA hr1 rfl (pa_cons (pv 0) pa_nil)) (pe_glob (v := .ref aTk) rfl mTk rfl) rfl) (pss_one (ps_ret (pe_tup (pa_cons pe_str (pa_cons (pv 3) (pa_cons (pe_def DTd hr5 rfl (pa_cons (pv 0) pa_nil)) pa_nil)))))) pss_nil) (pss_cons (ps_set (i := 4) scDd.nd rfl (Or.inl rfl) (pe_def DT hr2 rfl (pa_cons (pv 0) (pa_cons (pe_glob (v := .ref aTk) rfl mTk rfl) pa_nil)))) (pss_cons (ps_setLc (i := 5) (own := [("sign", 6)]) (g := gName 6) (tt := tYes) rfl scDd.nd rfl rfl (sw_true rfl rfl rfl (by decide +kernel)) (pi_str (pe_slice sl_str (pe_ix (r := rIxD K w) ix_kdict (pe_glob (v := .ref dF) rfl mF rfl) (pv 4) (fun _ _ => rfl)) (po_some pe_int) po_none)) (blkOk_by (N := ["reader", "floors", "word", "name", "kind", "others", "sign"]) (sc := defScope sRdD) (by decide +kernel)) (fun _ _ _ _ _ => (pg_name (i := 6) scDd.nd rfl (Or.inl rfl))) (fun _ _ _ _ _ => pts_nil) (fun _ _ _ _ _ => (pe_def DN hr3 rfl (pa_cons (pv 0) pa_nil)))) (pss_one (ps_ret (pe_tup (pa_cons (pv 4) (pa_cons (pv 3) (StX.pa_star (pv 5) pa_nil))))))))))))), ?_⟩
    have hsl := sizeLine_eq
    -- the first word
    obtain ⟨x, xs, hx, hxf, hlk⟩ : ∃ x xs, d.words = x :: xs ∧ x ∈ fwS fl ∧ (d.rows ≠ [] → x = kindOf d) := by
      cases d with
      | told a t => exact ⟨_, _, rfl, fw_let fl a hok.1, fun h => absurd rfl h⟩
      | take s a b => exact ⟨_, _, rfl, fw_let fl a hok.1, fun h => absurd rfl h⟩
      | two s a b c => exact ⟨_, _, rfl, fw_let fl a hok.1, fun h => absurd rfl h⟩
      | wh a r =>
        rw [Dd.deep] at hfl
        exact ⟨_, _, rfl, fw_look (by omega) (by decide +kernel), fun _ => rfl⟩
      | iff a r o2 =>
        rw [Dd.deep] at hfl
        exact ⟨_, _, rfl, fw_look (by omega) (by decide +kernel), fun _ => rfl⟩
    rw [hx, List.cons_append] at hws
    refine ⟨_, rfl, _, rfl, fl, rfl, fun l H1 s1 _ hl => ?_⟩
    refine ⟨rd, wl, ws, a, b, l, fwS fl, x, rfl, hrd.same s1, .inl (SqL.of hl), dr_at hws, hxf, fun H2 kb2 hrd2 => ?_⟩
    have kb02 := (KB.of s1).trans kb2
    have hw1 := dr_one hws
    have hne2 := hrd2.ne
    obtain ⟨⟨dx2, h21⟩, h22, h23⟩ := id hrd2
    refine ⟨_, rfl, rd, _, _, _, _, rfl, h21, TD.cl, TD.nB, rd_begun _ _ _, _, _, rfl, rfl, dx2, _, h21, (by show 3 < 1000; decide), ?_⟩
    have hrd3 : RdAt CD (upd H2 rd (.ins CD dx2 (putF "begun" (.int (((b : Nat) : Int) + 1)) (rdF wl (a + 1) b)))) rd wl ws (a + 1) (b + 1) := rd_bg hne2 h22 h23
    have kb03 : KB rd H (upd H2 rd (.ins CD dx2 (putF "begun" (.int (((b : Nat) : Int) + 1)) (rdF wl (a + 1) b)))) := kb02.trans KB.set
    revert hrd3 kb03
    generalize upd H2 rd (.ins CD dx2 (putF "begun" (.int (((b : Nat) : Int) + 1)) (rdF wl (a + 1) b))) = H3
    intro hrd3 kb03
    refine ⟨_, rfl, aLk, _, rfl, .inr (hLk H3), rfl, strV_flat _, _, rfl, ?_⟩
    rw [if_neg Bool.false_ne_true, inV_strV]
    by_cases hrw : d.rows = []
    rotate_left
    · -- a look
      have ex := hlk hrw
      subst ex
      rw [decide_eq_true (look_lk d hrw)]
      refine iteT ?_
      have hwd := words_rows d hrw
      have hh : d.names.headD 0 = d.nm1 := by cases d <;> rfl
      have hmr := many_rows d
      rw [hh, hx] at hwd
      have hxs : xs = letS d.nm1 :: wordsL d.rows := (List.cons.inj hwd).2
      rw [hxs, List.cons_append] at hw1
      refine ⟨_, rfl, _, rfl, _, rfl, rd, wl, ws, a + 1, b + 1, fl, d, post, rfl, hrd3, hrw, hok, hdp, hfl, by omega, hw1, fun v H4 kb4 hrd4 hv => ?_⟩
      have e1 : a + 1 + 1 + (wordsL d.rows).length = a + d.words.length := by
        rw [hx, hxs, List.length_cons, List.length_cons]
        omega
      have e2 : b + 1 + manyL d.rows = b + d.many := by omega
      rw [e1, e2] at hrd4
      exact k v H4 (kb03.trans kb4) hrd4 hv
    · -- no look
      have hcase : (∃ c t, d = .told c t) ∨ ∃ (kk : Str) (c : Nat) (ns : List Nat), d.words = letS c :: ("=" : Str) :: kk :: ns.map letS ∧ kk ∈ takersS ∧ c < 10 ∧ (∀ m ∈ ns, m < 10) ∧ kk = kindOf d ∧ (cutS (formOf d) (some 1) none).cps.size = ns.length ∧ ns.length ≤ 2 ∧ (formOf d).length ≤ 3 ∧ d.many = 1 ∧ (∀ H p, SqT K H p (.str kk :: .int ((c : Nat) : Int) :: namesV ns) → DAt K C H (.ref p) d) := by
        cases d with
        | told c t => exact .inl ⟨c, t, rfl⟩
        | take s c e => exact .inr ⟨takeS s, c, [e], rfl, take_tk s, hok.1, (fun m hm => by rw [List.mem_singleton] at hm; rw [hm]; exact hok.2), rfl, (by show (cutS ("nn" : Str) (some 1) none).cps.size = 1; decide +kernel), by show 1 ≤ 2; decide, (by show ("nn" : Str).length ≤ 3; decide +kernel), rfl, fun H p h => ⟨p, rfl, h, hok.1, hok.2⟩⟩
        | two s c e g => exact .inr ⟨twoS s, c, [e, g], rfl, two_tk s, hok.1, (fun m hm => by
            simp only [List.mem_cons, List.not_mem_nil, or_false] at hm
            rcases hm with rfl | rfl
            · exact hok.2.1
            · exact hok.2.2), rfl, (by show (cutS ("nnn" : Str) (some 1) none).cps.size = 2; decide +kernel), by show 2 ≤ 2; decide, (by show ("nnn" : Str).length ≤ 3; decide +kernel), rfl, fun H p h => ⟨p, rfl, h, hok.1, hok.2.1, hok.2.2⟩⟩
        | wh c r => cases hrw
        | iff c r o2 => cases hrw
      obtain ⟨c, ys, hc, hxc, hxs⟩ : ∃ c ys, c < 10 ∧ x = letS c ∧ xs = ("=" : Str) :: ys := by
        rcases hcase with ⟨c, t, rfl⟩ | ⟨kk, c, ns, hw, _, hc, _⟩
        · exact ⟨c, [t.text], hok.1, (List.cons.inj hx).1.symm, (List.cons.inj hx).2.symm⟩
        · rw [hw] at hx
          exact ⟨c, kk :: ns.map letS, hc, (List.cons.inj hx).1.symm, (List.cons.inj hx).2.symm⟩
      rw [hxc, decide_eq_false (let_nlk c hc)]
      refine iteF ?_
      rw [hxs, List.cons_append] at hw1
      obtain ⟨rst, hix⟩ := let_ix c hc
      refine ⟨⟨_, rfl⟩, _, rfl, _, _, c, rst, rfl, rfl, hix, ?_⟩
      refine ⟨_, rfl, by show 1 ≤ sizeLine; decide, fun T nT => ?_⟩
      have sT := Same.new nT (o := .tup [V.str "="])
      have eT : (upd H3 T (.tup [V.str "="])) T = some (.tup [V.str "="]) := upd_same
      revert sT eT
      generalize upd H3 T (.tup [V.str "="]) = H4
      intro sT eT
      refine ⟨rd, wl, ws, a + 1, b + 1, T, [("=" : Str)], ("=" : Str), rfl, hrd3.same sT, .inr (SqT.of eT), dr_at hw1, List.mem_singleton.mpr rfl, fun H5 kb5 hrd5 => ?_⟩
      have kb05 := (kb03.trans (KB.of sT)).trans kb5
      have hw2 := dr_one hw1
      refine ⟨_, rfl, rd, wl, ws, a + 1 + 1, b + 1, rfl, hrd5, ?_⟩
      rcases hcase with ⟨c', t, rfl⟩ | ⟨kk, c', ns, hwd, hkk, _, hns, hkd, hcut, hn2, hfm, hm1, hD⟩
      · -- told
        have hw0 : (Dd.told c' t).words = [letS c', ("=" : Str), t.text] := rfl
        rw [hw0] at hx
        have e1 := (List.cons.inj hx).1
        have e2 := (List.cons.inj hx).2
        rw [hxs] at e2
        have e3 := (List.cons.inj e2).2
        rw [← e3] at hw2
        have hcc : c = c' := by
          have h1 := hok.1
          have : letS c = letS c' := hxc.symm.trans e1.symm
          exact let_inj c c' hc h1 this
        subst hcc
        rw [wdV_some (dr_at hw2)]
        refine ⟨aTk, _, rfl, .inr (hTk H5), rfl, strV_flat _, _, rfl, ?_⟩
        rw [if_pos rfl, inV_strV, decide_eq_false (text_ntk t)]
        refine iteT ?_
        refine ⟨_, rfl, _, rfl, rd, wl, ws, a + 1 + 1, b + 1, t, rfl, hrd5, dr_at hw2, hok.2, fun y H6 kb6 hrd6 hyT => ⟨by show 3 ≤ sizeLine; decide, fun T2 nT2 => ?_⟩⟩
        have s7 := Same.new nT2 (o := .tup [V.str "told", V.int ((c : Nat) : Int), V.ref y])
        have e7 : (upd H6 T2 (.tup [V.str "told", V.int ((c : Nat) : Int), V.ref y])) T2 = some (.tup [V.str "told", V.int ((c : Nat) : Int), V.ref y]) := upd_same
        revert s7 e7
        generalize upd H6 T2 (.tup [V.str "told", V.int ((c : Nat) : Int), V.ref y]) = H7
        intro s7 e7
        have hrd7 := hrd6.same s7
        obtain ⟨⟨dx6, h61⟩, _, _⟩ := hrd6
        refine k (.ref T2) H7 ((kb05.trans kb6).trans (KB.of s7)) ?_ ⟨T2, y, rfl, SqT.of (del_at e7 (rd_ne hrd7 e7)), hok.1, (th_del hCD h61 t y hyT).same (kb_del (KB.of s7)), hok.2⟩
        have e8 : a + (Dd.told c t).words.length = a + 1 + 1 + 1 := rfl
        rw [e8, many_told]
        exact hrd7
      · -- by names
        have e1 : letS c' = x := by rw [hwd] at hx; exact (List.cons.inj hx).1
        have e2 : ("=" : Str) :: kk :: ns.map letS = xs := by rw [hwd] at hx; exact (List.cons.inj hx).2
        rw [hxs] at e2
        have e3 : kk :: ns.map letS = ys := (List.cons.inj e2).2
        rw [← e3, List.cons_append] at hw2
        have hcc : c = c' := let_inj c c' hc (by assumption) (hxc.symm.trans e1.symm)
        subst hcc
        rw [wdV_some (dr_at hw2)]
        refine ⟨aTk, _, rfl, .inr (hTk H5), rfl, strV_flat _, _, rfl, ?_⟩
        rw [if_pos rfl, inV_strV, decide_eq_true hkk]
        refine iteF ?_
        refine ⟨_, rfl, rd, wl, ws, a + 1 + 1, b + 1, aTk, takersS, kk, rfl, hrd5, .inr (hTk H5), dr_at hw2, hkk, fun H6 kb6 hrd6 => ?_⟩
        have kb06 := kb05.trans kb6
        have hw3 := dr_one hw2
        subst hkd
        obtain ⟨tkf, hkf⟩ := hk _ (form_in d)
        refine ⟨_, rfl, dF, _, .str (formOf d), rfl, rfl, ⟨es, nF, _, kd.at_, kd.lit, hkf, ⟨_, rfl⟩⟩, _, rfl, formOf d, rfl, by omega, _, rfl, fun D nD => lc_it walk_str (fun i H' => KB rd H6 H' ∧ H' D = some (.lst (namesV (ns.take i))) ∧ RdAt CD H' rd wl ws (a + 1 + 1 + 1 + i) (b + 1)) ⟨KB.of (Same.new nD), upd_same, hrd6.same (Same.new nD)⟩ (fun _ _ _ _ => trivial) ?_ ?_⟩
        · rintro i y Hc Hc' hi ⟨kbc, hDc, hrdc⟩ ⟨rfl, cc, hcc, rfl⟩
          rw [hcut] at hi
          have hmi : ns[i]? = some ns[i] := List.getElem?_eq_getElem hi
          have hwi : ws[a + 1 + 1 + 1 + i]? = some (letS ns[i]) := by
            have : (ws.drop (a + 1 + 1 + 1))[i]? = some (letS ns[i]) := by
              rw [hw3, List.getElem?_append_left (by rw [List.length_map]; exact hi), List.getElem?_map, hmi]
              rfl
            rwa [List.getElem?_drop] at this
          refine ⟨rfl, lc_yes ?_⟩
          refine ⟨_, rfl, rd, wl, ws, a + 1 + 1 + 1 + i, b + 1, ns[i], rfl, hrdc, hns _ (List.getElem_mem hi), hwi, fun H8 kb8 hrd8 => ?_⟩
          have hDr : D ≠ rd := rd_nl hrdc hDc
          have hD8 := kb8 _ _ hDr hDc
          refine ⟨_, hD8, by rw [namesV, List.length_map, List.length_take]; omega, fun z o' hz hz2 => ?_, ?_, ?_⟩
          · rw [upd_ne (ne_of_none hz2 nD)]
            exact kb8 _ _ hz (kbc _ _ hz hz2)
          · rw [upd_same, List.take_succ_eq_append_getElem hi, namesV, namesV, List.map_append]
            rfl
          · obtain ⟨⟨dx8, h81⟩, h82, h83⟩ := hrd8
            refine ⟨⟨dx8, ?_⟩, ?_, h83⟩
            · rw [upd_ne hDr.symm]
              exact h81
            · have hwD : wl ≠ D := fun z => by
                obtain ⟨_, q2, _⟩ := hrd6
                rw [z, nD] at q2
                cases q2
              rw [upd_ne hwD]
              exact h82
        · rintro H9 ⟨kb9, hD9, hrd9⟩
          rw [hcut, List.take_length] at hD9
          rw [hcut] at hrd9
          refine ⟨_, rfl, _, rfl, _, rfl, D, _, rfl, .inr (SqL.of hD9), by rw [List.append_nil, List.length_cons, List.length_cons, namesV, List.length_map]; omega, fun T2 nT2 => ?_⟩
          rw [List.append_nil]
          have s10 := Same.new nT2 (o := .tup (V.str (kindOf d) :: V.int ((c : Nat) : Int) :: namesV ns))
          have e10 : (upd H9 T2 (.tup (V.str (kindOf d) :: V.int ((c : Nat) : Int) :: namesV ns))) T2 = some (.tup (V.str (kindOf d) :: V.int ((c : Nat) : Int) :: namesV ns)) := upd_same
          revert s10 e10
          generalize upd H9 T2 (.tup (V.str (kindOf d) :: V.int ((c : Nat) : Int) :: namesV ns)) = H10
          intro s10 e10
          have hrd10 := hrd9.same s10
          refine k (.ref T2) H10 ((kb06.trans kb9).trans (KB.of s10)) ?_ (hD _ _ (SqT.of (del_at e10 (rd_ne hrd10 e10))))
          have e11 : a + d.words.length = a + 1 + 1 + 1 + ns.length := by
            rw [hwd, List.length_cons, List.length_cons, List.length_cons, List.length_map]
            omega
          rw [e11, hm1]
          exact hrd10
end
end Js

set_option Elab.async false
set_option linter.all false
set_option maxRecDepth 100000
set_option maxHeartbeats 2000000
namespace Js
open PySem L2
open PySem.Spec PyProof.Rows
abbrev sCounted : Stmt := top 13
abbrev sParts : Stmt := top 15
abbrev sKindT : Stmt := top 41
abbrev sPartT : Stmt := top 42
abbrev sDeedT : Stmt := top 40
abbrev sRowT : Stmt := top 39
abbrev sProgOf : Stmt := top 37
theorem call_lenKD {X : Cx} {d : Addr} {es : Array DictEntry} {n : Nat} (D : KDict X.K X.w d es n) (h7 : es.size = 7) : CallR X (.builtin "len") (fun xs H Q => xs = [.ref d] ∧ Q (.int 7) H) := by
  intro pins s σ H xs us Q I r h
  obtain ⟨rfl, q⟩ := h
  obtain ⟨u, rfl, rx⟩ := vals1 r
  cases rx
  have hraw : s.heap.DictRaw d es n := ⟨_, I.kIn _ _ D.at_, ⟨rfl, rfl, rfl⟩, rfl⟩
  refine Calls.call_function_entry kind_len plain_len entry_len (args_len1 _) (wpAny_bind (m := oneArg "len" _) (wpAny_pure (wpAny_bind (m := callSpecial? (.ref d) (Str.ofString "__len__")) (wpAny_callSpecial?_slot (name := Str.ofString "__len__") hraw.typeIs F.slot_dict_len (call_meetsIn F.slot_dict_len hraw.typeIs F.entry_dict_len (F.args_dict_len_1 _) (meets_dict_len_raw d D.low) ⟨es, n, hraw, ?_⟩)))))
  rw [h7]
  show wpAny _ _ _ _ _ { s with toks := s.toks + 1 }
  refine wpAny_bind (wpAny_holding (wpAny_pure (wpAny_bind (wpAny_letGo ?_))))
  show wpAny _ _ (if ((7 : Nat) : Int) < 0 then _ else (if ((7 : Nat) : Int) ≥ 2 ^ 63 then _ else _)) _ _ _
  rw [if_neg (by omega), if_neg (by omega)]
  exact wpAny_bind (wpAny_mkInt (wpAny_pure ⟨_, rfl, .int 7, H, I.tok _, ⟨_, rfl⟩, q⟩))
/-! ### the parts of a deed -/
inductive Prt where
  | nm (a : Nat)
  | th (t : Tr)
  | rw (r : List Dd)
def Prt.code : Prt → Tr
  | .nm a => num a
  | .th t => t
  | .rw r => codeR r
def Prt.sg : Prt → Nat
  | .nm _ => 110
  | .th _ => 116
  | .rw _ => 114
def Prt.At (K : PySem.W.Frag) (C : Addr) (H : Hp) (x : V) : Prt → Prop
  | .nm a => a < 10 ∧ x = .int ((a : Nat) : Int)
  | .th t => ∃ y, x = .ref y ∧ Th C H y t ∧ t.size ≤ 4000
  | .rw r => ∃ q, x = .ref q ∧ RAt K C H q r
def Prt.ok (n fl : Nat) : Prt → Prop
  | .nm a => a < 10
  | .th t => t.size ≤ 4000
  | .rw r => okR r ∧ deepR r < n ∧ fl + 1 + deepR r ≤ 8
theorem Prt.At.kt {K : PySem.W.Frag} {C : Addr} {H H' : Hp} (s : KT H H') {x : V} : ∀ {p : Prt}, p.At K C H x → p.At K C H' x
  | .nm _, h => h
  | .th _, ⟨y, e, h, z⟩ => ⟨y, e, h.kt s, z⟩
  | .rw _, ⟨q, e, h⟩ => ⟨q, e, h.kt s⟩
theorem ppt_kt {K : PySem.W.Frag} {C : Addr} {H H' : Hp} (s : KT H H') : ∀ {xs : List V} {ps : List Prt}, Paired (fun x p => Prt.At K C H x p) xs ps → Paired (fun x p => Prt.At K C H' x p) xs ps
  | _, _, .nil => .nil
  | _, _, .cons h t => .cons (h.kt s) (ppt_kt s t)
theorem Prt.At.same {K : PySem.W.Frag} {C : Addr} {H H' : Hp} (s : Same H H') {x : V} : ∀ {p : Prt}, p.At K C H x → p.At K C H' x
  | .nm _, h => h
  | .th _, ⟨y, e, h, z⟩ => ⟨y, e, h.same s, z⟩
  | .rw _, ⟨q, e, h⟩ => ⟨q, e, h.same s⟩
def Dd.prs : Dd → List Prt
  | .told a t => [.nm a, .th t]
  | .take _ a b => [.nm a, .nm b]
  | .two _ a b c => [.nm a, .nm b, .nm c]
  | .wh a r => [.nm a, .rw r]
  | .iff a r o => [.nm a, .rw r, .rw o]
theorem prs_code : ∀ d : Dd, d.code = rowT (num d.kix :: d.prs.map Prt.code)
  | .told _ _ => by rw [Dd.code]; rfl
  | .take _ _ _ => by rw [Dd.code]; rfl
  | .two _ _ _ _ => by rw [Dd.code]; rfl
  | .wh _ _ => by rw [Dd.code]; rfl
  | .iff _ _ _ => by rw [Dd.code]; rfl
theorem prs_sg : ∀ d : Dd, (formOf d).cps.toList = d.prs.map Prt.sg
  | .told _ _ => by rw [formOf, cps_nt]; rfl
  | .take _ _ _ => by rw [formOf, cps_nn]; rfl
  | .two _ _ _ _ => by rw [formOf, cps_nnn]; rfl
  | .wh _ _ => by rw [formOf, cps_nr]; rfl
  | .iff _ _ _ => by rw [formOf, cps_nrr]; rfl
theorem prs_len (d : Dd) : d.prs.length ≤ 3 ∧ 2 ≤ d.prs.length := by cases d <;> simp [Dd.prs]
theorem prs_ok {n fl : Nat} : ∀ d : Dd, d.ok → d.deep < n + 1 → fl + d.deep ≤ 8 → ∀ p ∈ d.prs, p.ok n fl
  | .told a t, h, _, _, p, hp => by
    simp only [Dd.prs, List.mem_cons, List.not_mem_nil, or_false] at hp
    rcases hp with rfl | rfl
    · exact h.1
    · exact h.2
  | .take s a b, h, _, _, p, hp => by
    simp only [Dd.prs, List.mem_cons, List.not_mem_nil, or_false] at hp
    rcases hp with rfl | rfl
    · exact h.1
    · exact h.2
  | .two s a b c, h, _, _, p, hp => by
    simp only [Dd.prs, List.mem_cons, List.not_mem_nil, or_false] at hp
    rcases hp with rfl | rfl | rfl
    · exact h.1
    · exact h.2.1
    · exact h.2.2
  | .wh a r, h, h2, h3, p, hp => by
    rw [Dd.deep] at h2 h3
    simp only [Dd.prs, List.mem_cons, List.not_mem_nil, or_false] at hp
    rcases hp with rfl | rfl
    · exact h.1
    · exact ⟨h.2, by omega, by omega⟩
  | .iff a r o, h, h2, h3, p, hp => by
    rw [Dd.deep] at h2 h3
    simp only [Dd.prs, List.mem_cons, List.not_mem_nil, or_false] at hp
    rcases hp with rfl | rfl | rfl
    · exact h.1
    · exact ⟨h.2.1, by omega, by omega⟩
    · exact ⟨h.2.2, by omega, by omega⟩
theorem pd_cons {α β : Type} {R : α → β → Prop} {xs : List α} {b : β} {bs : List β} (h : Paired R xs (b :: bs)) : ∃ x ys, xs = x :: ys ∧ R x b ∧ Paired R ys bs := by
  cases h with
  | cons a t => exact ⟨_, _, rfl, a, t⟩
theorem pd_nil {α β : Type} {R : α → β → Prop} {xs : List α} (h : Paired R xs ([] : List β)) : xs = [] := by
  cases h
  rfl
theorem prs_deed {K : PySem.W.Frag} {C : Addr} {H : Hp} {p : Addr} {its : List V} : ∀ d : Dd, Paired (Prt.At K C H) its d.prs → SqT K H p (.str (kindOf d) :: its) → DAt K C H (.ref p) d
  | .told a t, hp, h => by
    have hp : Paired (Prt.At K C H) its [.nm a, .th t] := hp
    obtain ⟨_, _, rfl, ⟨ha, rfl⟩, hp1⟩ := pd_cons hp
    obtain ⟨_, _, rfl, ⟨y, rfl, hy, hz⟩, hp2⟩ := pd_cons hp1
    cases pd_nil hp2
    exact ⟨p, y, rfl, h, ha, hy, hz⟩
  | .take s a b, hp, h => by
    have hp : Paired (Prt.At K C H) its [.nm a, .nm b] := hp
    obtain ⟨_, _, rfl, ⟨ha, rfl⟩, hp1⟩ := pd_cons hp
    obtain ⟨_, _, rfl, ⟨hb, rfl⟩, hp2⟩ := pd_cons hp1
    cases pd_nil hp2
    exact ⟨p, rfl, h, ha, hb⟩
  | .two s a b c, hp, h => by
    have hp : Paired (Prt.At K C H) its [.nm a, .nm b, .nm c] := hp
    obtain ⟨_, _, rfl, ⟨ha, rfl⟩, hp1⟩ := pd_cons hp
    obtain ⟨_, _, rfl, ⟨hb, rfl⟩, hp2⟩ := pd_cons hp1
    obtain ⟨_, _, rfl, ⟨hc, rfl⟩, hp3⟩ := pd_cons hp2
    cases pd_nil hp3
    exact ⟨p, rfl, h, ha, hb, hc⟩
  | .wh a r, hp, h => by
    have hp : Paired (Prt.At K C H) its [.nm a, .rw r] := hp
    obtain ⟨_, _, rfl, ⟨ha, rfl⟩, hp1⟩ := pd_cons hp
    obtain ⟨_, _, rfl, ⟨q, rfl, vs, h1, h2⟩, hp2⟩ := pd_cons hp1
    cases pd_nil hp2
    exact ⟨p, q, vs, rfl, h, ha, h1, h2⟩
  | .iff a r o, hp, h => by
    have hp : Paired (Prt.At K C H) its [.nm a, .rw r, .rw o] := hp
    obtain ⟨_, _, rfl, ⟨ha, rfl⟩, hp1⟩ := pd_cons hp
    obtain ⟨_, _, rfl, ⟨q, rfl, vs, h1, h2⟩, hp2⟩ := pd_cons hp1
    obtain ⟨_, _, rfl, ⟨q2, rfl, vs2, h3, h4⟩, hp3⟩ := pd_cons hp2
    cases pd_nil hp3
    exact ⟨p, q, vs, q2, vs2, rfl, h, ha, h1, h2, h3, h4⟩
theorem ite_both {b : Bool} {A B : Prop} (hb : B) (ha : b = true → B → A) : if b = true then A else B := by
  cases b with
  | true => exact iteT (ha rfl hb)
  | false => exact iteF hb
theorem prs_deep (d : Dd) (h : 114 ∈ (formOf d).cps.toList) : 1 ≤ d.deep := by
  rw [prs_sg] at h
  cases d with
  | told a t => simp [Dd.prs, Prt.sg] at h
  | take s a b => simp [Dd.prs, Prt.sg] at h
  | two s a b c => simp [Dd.prs, Prt.sg] at h
  | wh a r => rw [Dd.deep]; omega
  | iff a r o => rw [Dd.deep]; omega
theorem okR_mem : ∀ (r : List Dd) (d : Dd), okR r → d ∈ r → d.ok
  | [], _, _, h => by cases h
  | x :: r, d, h, hm => by
    rcases List.mem_cons.mp hm with rfl | hm
    · exact h.1
    · exact okR_mem r d h.2 hm
theorem DsAt_snocT {K : PySem.W.Frag} {C : Addr} {H : Hp} {v : V} {d : Dd} : ∀ (r : List Dd) (vs : List V), DsAt K C H vs r → DAt K C H v d → DsAt K C H (vs ++ [v]) (r ++ [d])
  | [], vs, h, hd => by
    have e : vs = [] := h
    subst e
    exact ⟨v, [], rfl, hd, rfl⟩
  | x :: r, vs, h, hd => by
    obtain ⟨u, us, rfl, h1, h2⟩ := h
    exact ⟨u, us ++ [v], rfl, h1, DsAt_snocT r us h2 hd⟩
def spCounted (C : Addr) : Sp := fun vs H Q _ => ∃ a n, vs = [.ref a] ∧ Th C H a (num n) ∧ Q (.int ((n : Nat) : Int)) H
def spParts (C : Addr) : Sp := fun vs H Q _ => ∃ a ts, vs = [.ref a] ∧ Th C H a (rowT ts) ∧ (rowT ts).size ≤ 4000 ∧ ∀ l us H', Same H H' → H l = none → H' l = some (.lst us) → Paired (ThV C H') us ts → Q (.ref l) H'
def spKindT (C : Addr) : Sp := fun vs H Q _ => ∃ l us ts d, vs = [.ref l] ∧ H l = some (.lst us) ∧ Paired (ThV C H) us (num (Dd.kix d) :: ts) ∧ ∀ H', Same H H' → Q (.str (kindOf d)) H'
def spPartT (K : PySem.W.Frag) (C : Addr) (n : Nat) : Sp := fun vs H Q _ => ∃ y fl p, vs = [.ref y, .str ⟨#[Prt.sg p]⟩, .int ((fl : Nat) : Int)] ∧ Th C H y p.code ∧ p.ok n fl ∧ p.code.size ≤ 4000 ∧ ∀ x H', Same H H' → p.At K C H' x → Q x H'
def spDeedT (K : PySem.W.Frag) (C : Addr) (n : Nat) : Sp := fun vs H Q _ => ∃ y fl d, vs = [.ref y, .int ((fl : Nat) : Int)] ∧ Th C H y (Dd.code d) ∧ d.ok ∧ d.deep < n ∧ fl + d.deep ≤ 8 ∧ d.code.size ≤ 4000 ∧ ∀ p H', Same H H' → DAt K C H' (.ref p) d → Q (.ref p) H'
def spRowT (K : PySem.W.Frag) (C : Addr) (n : Nat) : Sp := fun vs H Q _ => ∃ y fl r, vs = [.ref y, .int ((fl : Nat) : Int)] ∧ Th C H y (codeR r) ∧ okR r ∧ deepR r < n ∧ fl + deepR r ≤ 8 ∧ (codeR r).size ≤ 4000 ∧ ∀ q H', Same H H' → RAt K C H' q r → Q (.ref q) H'
def spProgOf (K : PySem.W.Frag) (C CP : Addr) : Sp := fun vs H Q _ => ∃ y r, vs = [.ref y] ∧ Th C H y (codeR r) ∧ okR r ∧ deepR r ≤ 8 ∧ manyR r ≤ 4000 ∧ (codeR r).size ≤ 4000 ∧ ∀ z H', Same H H' → H z = none → PgAt K C CP H' z r → Q (.ref z) H'
section
variable {P : Program} {w : World} {K : PySem.W.Frag} {mg : Str → Option Value} {base : Heap} {C CP fI fP : Addr} {fdI fdP : FuncData}
theorem scCt : FnScope ["thing", "many", "rest"] ["thing"] (defScope sCounted) := ⟨rfl, rfl, rfl, by decide +kernel, rfl, by decide +kernel, by decide +kernel⟩
theorem scPrt : FnScope ["thing", "found", "rest"] ["thing"] (defScope sParts) := ⟨rfl, rfl, rfl, by decide +kernel, rfl, by decide +kernel, by decide +kernel⟩
theorem scKt : FnScope ["told", "many"] ["told"] (defScope sKindT) := ⟨rfl, rfl, rfl, by decide +kernel, rfl, by decide +kernel, by decide +kernel⟩
theorem scPt : FnScope ["part", "sign", "floors"] ["part", "sign", "floors"] (defScope sPartT) := ⟨rfl, rfl, rfl, by decide +kernel, rfl, by decide +kernel, by decide +kernel⟩
theorem scDt : FnScope ["code", "floors", "told", "kind", "inner", "part", "sign"] ["code", "floors"] (defScope sDeedT) := ⟨rfl, rfl, rfl, by decide +kernel, rfl, by decide +kernel, by decide +kernel⟩
theorem scRt : FnScope ["thing", "floors", "part"] ["thing", "floors"] (defScope sRowT) := ⟨rfl, rfl, rfl, by decide +kernel, rfl, by decide +kernel, by decide +kernel⟩
theorem scPo : FnScope ["thing"] ["thing"] (defScope sProgOf) := ⟨rfl, rfl, rfl, by decide +kernel, rfl, by decide +kernel, by decide +kernel⟩
theorem ok_counted {f : Addr} {fd : FuncData} (F : Fun K "counted" "counted" sCounted f fd) (T : Txt K mg C) : FnOk P w K mg base CX0 1 f fd ["thing"] (spCounted C) := by
  refine F.ok scCt (fun vs H Q E h => ?_) (fun cdv A outer s H vs Q E hr h => ?_)
  · obtain ⟨a, n, rfl, _⟩ := h
    rfl
  · obtain ⟨a, n, rfl, ha, k⟩ := h
    refine ⟨_, pss_cons (ps_set (i := 1) scCt.nd rfl (Or.inl rfl) pe_int) (pss_cons (ps_set (i := 2) scCt.nd rfl (Or.inl rfl) (pv 0)) (pss_cons (ps_while PassesOwn.never (pt_truth (pe_fld (pv 2) rfl) (by intro _; rfl)) (pss_cons (ps_if (pt_truth (pe_fld (pe_fld (pv 2) rfl) rfl) (by intro _; rfl)) (pss_one (ps_ret pe_non)) pss_nil) (pss_cons (ps_aug (i := 1) scCt.nd rfl (Or.inl rfl) pe_int ip_add) (pss_one (ps_set (i := 2) scCt.nd rfl (Or.inl rfl) (pe_fld (pv 2) rfl)))))) (pss_one (ps_ret (pv 1))))), ?_⟩
    refine ⟨_, rfl, fun m σ H' => ∃ (i : Nat) (b : Addr), σ = [some (.ref a), some (.int ((i : Nat) : Int)), some (.ref b)] ∧ H' = H ∧ Th C H b (num m) ∧ i + m = n, ⟨n, 0, a, rfl, rfl, ha, by omega⟩, ?_⟩
    rintro m σ H1 ⟨i, b, rfl, rfl, hb, him⟩
    cases m with
    | zero =>
      obtain ⟨dx, f1, g1, h1⟩ := hb.obj
      refine ⟨_, rfl, _, _, _, _, _, rfl, h1, T.cl, T.nZ, tf_size _ _ _, _, rfl, iteF ?_⟩
      have e : i = n := by omega
      subst e
      exact ⟨_, rfl, k⟩
    | succ m =>
      obtain ⟨dx, b1, c1, h1, hb1, hc1⟩ := hb.pair
      have e : (((Tr.pr .nil (num m)).size : Nat) : Int) ≠ 0 := by
        show ((1 + 0 + (num m).size : Nat) : Int) ≠ 0
        omega
      refine ⟨_, rfl, _, _, _, _, _, rfl, h1, T.cl, T.nZ, tf_size _ _ _, _, rfl, ?_⟩
      rw [show ((((Tr.pr .nil (num m)).size : Nat) : Int) != 0) = true from by simpa using e]
      refine iteT ⟨fun σ' H5 => ∃ m', m' < m + 1 ∧ _, fun σ' H5 z => z, ?_⟩
      obtain ⟨dy, f2, g2, h2⟩ := hb1.obj
      refine ⟨_, rfl, _, _, _, _, _, rfl, h1, T.cl, T.nF, tf_first _ _ _, _, _, _, _, _, rfl, h2, T.cl, T.nZ, tf_size _ _ _, _, rfl, iteF ?_⟩
      refine ⟨_, rfl, _, _, rfl, rfl, ?_⟩
      refine ⟨_, rfl, _, _, _, _, _, rfl, h1, T.cl, T.nS, tf_second _ _ _, ?_⟩
      exact ⟨m, by omega, i + 1, c1, rfl, rfl, hc1, by omega⟩
theorem ok_parts {f : Addr} {fd : FuncData} (F : Fun K "parts" "parts" sParts f fd) (T : Txt K mg C) : FnOk P w K mg base CX0 1 f fd ["thing"] (spParts C) := by
  refine F.ok scPrt (fun vs H Q E h => ?_) (fun cdv A outer s H vs Q E hr h => ?_)
  · obtain ⟨a, ts, rfl, _⟩ := h
    rfl
  · obtain ⟨a, ts, rfl, ha, hz, k⟩ := h
    refine ⟨_, pss_cons (ps_set (i := 1) scPrt.nd rfl (Or.inl rfl) (pe_lst pa_nil)) (pss_cons (ps_set (i := 2) scPrt.nd rfl (Or.inl rfl) (pv 0)) (pss_cons (ps_while PassesOwn.never (pt_truth (pe_fld (pv 2) rfl) (by intro _; rfl)) (pss_cons (ps_expr (pe_bm PySem.F.plainAttrs_list PySem.F.slot_list_append PySem.F.type_list_append mt_append (pv 1) (pa_cons (pe_fld (pv 2) rfl) pa_nil))) (pss_one (ps_set (i := 2) scPrt.nd rfl (Or.inl rfl) (pe_fld (pv 2) rfl))))) (pss_one (ps_ret (pv 1))))), ?_⟩
    have hsl := sizeLine_eq
    have hrl := rowT_len ts
    refine ⟨Nat.zero_le _, fun D nD => ?_⟩
    have sD := Same.new nD (o := .lst [])
    refine ⟨_, rfl, fun m σ H' => ∃ (i : Nat) (b : Addr) (us : List V), σ = [some (.ref a), some (.ref D), some (.ref b)] ∧ Same H H' ∧ H' D = some (.lst us) ∧ Paired (ThV C H') us (ts.take i) ∧ Th C H' b (rowT (ts.drop i)) ∧ i + m = ts.length, ⟨ts.length, 0, a, [], rfl, sD, upd_same, by rw [List.take_zero]; exact .nil, by rw [List.drop_zero]; exact ha.same sD, by omega⟩, ?_⟩
    rintro m σ H1 ⟨i, b, us, rfl, s1, hD, hus, hb, him⟩
    cases m with
    | zero =>
      have e : i = ts.length := by omega
      subst e
      rw [List.drop_length] at hb
      rw [List.take_length] at hus
      obtain ⟨dx, f1, g1, h1⟩ := hb.obj
      refine ⟨_, rfl, _, _, _, _, _, rfl, h1, T.cl, T.nZ, tf_size _ _ _, _, rfl, iteF ?_⟩
      exact ⟨_, rfl, k D us H1 s1 nD hD hus⟩
    | succ m =>
      have hi : i < ts.length := by omega
      have hg : ts[i]? = some ts[i] := List.getElem?_eq_getElem hi
      rw [row_drop ts i _ hg] at hb
      obtain ⟨dx, b1, c1, h1, hb1, hc1⟩ := hb.pair
      have e : (((Tr.pr ts[i] (rowT (ts.drop (i + 1)))).size : Nat) : Int) ≠ 0 := by
        show ((1 + _ + _ : Nat) : Int) ≠ 0
        omega
      refine ⟨_, rfl, _, _, _, _, _, rfl, h1, T.cl, T.nZ, tf_size _ _ _, _, rfl, ?_⟩
      rw [show ((((Tr.pr ts[i] (rowT (ts.drop (i + 1)))).size : Nat) : Int) != 0) = true from by simpa using e]
      refine iteT ⟨fun σ' H5 => ∃ m', m' < m + 1 ∧ _, fun σ' H5 z => z, ?_⟩
      have hul := Paired.length hus
      rw [List.length_take] at hul
      refine ⟨_, rfl, .inl ⟨rfl, _, SqL.of hD⟩, _, rfl, _, _, _, _, _, rfl, h1, T.cl, T.nF, tf_first _ _ _, D, _, _, rfl, rfl, hD, by omega, ?_⟩
      have kt : KT H1 (upd H1 D (.lst (us ++ [V.ref b1]))) := KT.lst hD
      have h1' : upd H1 D (.lst (us ++ [V.ref b1])) b = some _ := kt _ _ h1 (fun _ e => nomatch e)
      refine ⟨_, rfl, _, _, _, _, _, rfl, h1', T.cl, T.nS, tf_second _ _ _, ?_⟩
      refine ⟨m, by omega, i + 1, c1, us ++ [V.ref b1], rfl, s1.set nD, upd_same, ?_, hc1.kt kt, by omega⟩
      rw [List.take_succ_eq_append_getElem hi]
      exact paired_app (ths_kt kt hus) (.cons ⟨b1, rfl, hb1.kt kt⟩ .nil)
theorem ok_kindT {f : Addr} {fd : FuncData} (F : Fun K "kind_told" "kind_told" sKindT f fd) (B : Blt mg) (ml : mg "list" = none) (Fo : FoK K w mg) (DC : Def P w K mg base "counted" 1 ["thing"] (spCounted C)) : FnOk P w K mg base CX0 2 f fd ["told"] (spKindT C) := by
  obtain ⟨dF, es, nF, mF, kdd, hk, h7, hks⟩ := Fo.ex
  have kdF := (⟨kdd, h7, hks⟩ : KDict K w dF es nF ∧ es.size = 7 ∧ ∀ (i : Nat) (h : i < es.size), ∃ z t, formKs[i]? = some z ∧ es[i].key = Value.str z t)
  refine F.ok scKt (fun vs H Q E h => ?_) (fun cdv A outer s H vs Q E hr h => ?_)
  · obtain ⟨l, us, ts, d, rfl, _⟩ := h
    rfl
  · obtain ⟨l, us, ts, d, rfl, hl, hus, k⟩ := h
    refine ⟨_, pss_cons (ps_set (i := 1) scKt.nd rfl (Or.inl rfl) (pe_ifExp (pt_truth (pv 0) (by intro _; rfl)) (pe_def DC hr rfl (pa_cons (pe_ix (r := rIxL K) ix_list (pv 0) pe_int (fun _ _ => rfl)) pa_nil)) pe_non)) (pss_cons (ps_if (PW.pt (pw_or (pt_cmp (pc_isN (pv 1))) (pw_or1 (pt_cmpR op_ge (pv 1) (pe_callB (call_lenKD kdd h7) (by rfl) B.len PySem.boot_len (pa_cons (pe_glob (v := .ref dF) rfl mF rfl) pa_nil)) (nomark _))))) (pss_one (ps_ret pe_non)) pss_nil) (pss_one (ps_ret (pe_ix (r := rIxL K) ix_list (pe_callTy (call_listKD rfl kdF) (by rfl) ml PyProof.Rows.boot_list (pa_cons (pe_glob (v := .ref dF) rfl mF rfl) pa_nil)) (pv 1) (fun _ _ => rfl))))), ?_⟩
    cases hus with
    | cons hx hus =>
      obtain ⟨x, rfl, hx⟩ := hx
      have hki := kix_le d
      refine ⟨_, rfl, _, .inl ⟨_, SqL.of hl, rfl⟩, iteT ?_⟩
      refine ⟨_, rfl, l, _, 0, _, rfl, rfl, SqL.of hl, at0 _ _, x, d.kix, rfl, hx, ?_⟩
      refine ⟨_, rfl, _, rfl, ?_⟩
      rw [show decide (V.int ((d.kix : Nat) : Int) = V.non) = false from decide_eq_false (fun e => nomatch e)]
      refine iteF ?_
      refine ⟨_, rfl, rfl, _, _, rfl, rfl, _, rfl, ?_⟩
      rw [decide_eq_false (show ¬ ((d.kix : Nat) : Int) ≥ 7 by omega)]
      refine iteF ?_
      refine ⟨rfl, fun q nq => ?_⟩
      have sq := Same.new nq (o := .lst (strV formKs))
      exact ⟨_, rfl, q, _, _, _, rfl, rfl, SqL.of upd_same, atI_nat (kix_at d).1, k _ sq⟩
theorem ok_partT {f fR : Addr} {fd fdR : FuncData} {n : Nat} (F : Fun K "part_told" "part_told" sPartT f fd) (DC : Def P w K mg base "counted" 1 ["thing"] (spCounted C)) (GR : FnOk P w K mg base CX0 (3 * n + 3) fR fdR ["thing", "floors"] (spRowT K C n)) (mgr : mg "row_told" = some (.ref fR)) (kr : PySem.W.keepIn K (.ref fR) = true) (br : Binds K fdR ["thing", "floors"] []) : FnOk P w K mg base CX0 (3 * n + 4) f fd ["part", "sign", "floors"] (spPartT K C n) := by
  refine F.ok scPt (fun vs H Q E h => ?_) (fun cdv A outer s H vs Q E hr h => ?_)
  · obtain ⟨y, fl, p, rfl, _⟩ := h
    rfl
  · obtain ⟨y, fl, p, rfl, hy, hok, hz, k⟩ := h
    have hr1 : Room 1 _ := hr.mono (by omega)
    refine ⟨_, pss_cons (ps_if (pt_cmpR op_eq (pv 1) pe_str (nomark _)) (pss_one (ps_ret (pe_def DC hr1 rfl (pa_cons (pv 0) pa_nil)))) pss_nil) (pss_cons (ps_if (pt_cmpR op_eq (pv 1) pe_str (nomark _)) (pss_one (ps_ret (pv 0))) pss_nil) (pss_one (ps_ret (pe_call GR hr rfl mgr kr br .nil pass0 (pa_cons (pv 0) (pa_cons (pe_op op_add (pv 2) pe_int) pa_nil)))))), ?_⟩
    cases p with
    | nm a =>
      refine ⟨_, rfl, rfl, _, rfl, ?_⟩
      rw [show Prt.sg (.nm a) = 110 from rfl, s_n, decide_eq_true rfl]
      exact iteT ⟨_, rfl, y, a, rfl, hy, k _ H (Same.refl H) ⟨hok, rfl⟩⟩
    | th t =>
      refine ⟨_, rfl, rfl, _, rfl, ?_⟩
      rw [show Prt.sg (.th t) = 116 from rfl, s_t, show decide (V.str ("t" : Str) = V.str ("n" : Str)) = false by decide +kernel]
      refine iteF ⟨_, rfl, rfl, _, rfl, ?_⟩
      rw [decide_eq_true rfl]
      exact iteT ⟨_, rfl, k _ H (Same.refl H) ⟨y, rfl, hy, hok⟩⟩
    | rw r =>
      refine ⟨_, rfl, rfl, _, rfl, ?_⟩
      rw [show Prt.sg (.rw r) = 114 from rfl, s_r, show decide (V.str ("r" : Str) = V.str ("n" : Str)) = false by decide +kernel]
      refine iteF ⟨_, rfl, rfl, _, rfl, ?_⟩
      rw [show decide (V.str ("r" : Str) = V.str ("t" : Str)) = false by decide +kernel]
      exact iteF ⟨_, rfl, _, rfl, _, _, rfl, rfl, y, fl + 1, r, rfl, hy, hok.1, hok.2.1, hok.2.2, hz, fun q H1 s1 hq => k _ H1 s1 ⟨q, rfl, hq⟩⟩
theorem ok_deedT {f fP' : Addr} {fd fdP' : FuncData} {n : Nat} (F : Fun K "deed_told" "deed_told" sDeedT f fd) (B : Blt mg) (G : FrmC K w mg) (DP : Def P w K mg base "parts" 1 ["thing"] (spParts C)) (DK : Def P w K mg base "kind_told" 2 ["told"] (spKindT C)) (GP : FnOk P w K mg base CX0 (3 * n + 4) fP' fdP' ["part", "sign", "floors"] (spPartT K C n)) (mgp : mg "part_told" = some (.ref fP')) (kp : PySem.W.keepIn K (.ref fP') = true) (bp : Binds K fdP' ["part", "sign", "floors"] []) : FnOk P w K mg base CX0 (3 * n + 5) f fd ["code", "floors"] (spDeedT K C (n + 1)) := by
  obtain ⟨dF, es, nF, mF, kdd, hk⟩ := G.ex
  obtain ⟨tM, mM3⟩ := G.mF
  refine F.ok scDt (fun vs H Q E h => ?_) (fun cdv A outer s H vs Q E hr h => ?_)
  · obtain ⟨y, fl, d, rfl, _⟩ := h
    rfl
  · obtain ⟨y, fl, d, rfl, hy, hok, hdp, hfl, hz, k⟩ := h
    have hr1 : Room 1 _ := hr.mono (by omega)
    have hr2 : Room 2 _ := hr.mono (by omega)
    have hr0 : Room (3 * n + 4) _ := hr
    refine ⟨_, pss_cons (ps_set (i := 2) scDt.nd rfl (Or.inl rfl) (pe_def DP hr1 rfl (pa_cons (pv 0) pa_nil))) (pss_cons (ps_set (i := 3) scDt.nd rfl (Or.inl rfl) (pe_def DK hr2 rfl (pa_cons (pv 2) pa_nil))) (pss_cons (ps_if (PW.pt (pw_or (pt_cmp (pc_isN (pv 3))) (pw_or1 (pt_cmpR op_ne (pe_callB call_len_seq (by rfl) B.len PySem.boot_len (pa_cons (pv 2) pa_nil)) (pe_op op_add pe_int (pe_callB call_len_str (by rfl) B.len PySem.boot_len (pa_cons (pe_ix (r := rIxD K w) ix_kdict (pe_glob (v := .ref dF) rfl mF rfl) (pv 3) (fun _ _ => rfl)) pa_nil))) (nomark _))))) (pss_one (ps_ret (pe_tup pa_nil))) pss_nil) (pss_cons (ps_if (PW.pt (pw_and (pt_cmpR op_inS pe_str (pe_ix (r := rIxD K w) ix_kdict (pe_glob (v := .ref dF) rfl mF rfl) (pv 3) (fun _ _ => rfl)) rfl) (pw_and1 (pt_cmpR op_eq (pv 1) (pe_glob (v := .int 8) rfl mM3 ⟨_, rfl⟩) (nomark _))))) (pss_one (ps_ret (pe_tup pa_nil))) pss_nil) (pss_cons (ps_setLc (i := 4) (own := [("part", 5), ("sign", 6)]) (g := gTup K 2 (gCons (gName 5) (gCons (gName 6) gNil))) (tt := tYes) rfl scDt.nd rfl rfl (sw_true rfl rfl rfl (by decide +kernel)) (pi_zipLS rfl G.mz (pa_cons (pe_slice sl_list (pv 2) (po_some pe_int) po_none) (pa_cons (pe_ix (r := rIxD K w) ix_kdict (pe_glob (v := .ref dF) rfl mF rfl) (pv 3) (fun _ _ => rfl)) pa_nil))) (blkOk_by (N := ["code", "floors", "told", "kind", "inner", "part", "sign"]) (sc := defScope sDeedT) (by decide +kernel)) (fun _ _ _ _ _ => (by exact (pg_tup rfl (pgs_cons (pg_name (i := 5) scDt.nd rfl (Or.inl rfl)) (pgs_cons (pg_name (i := 6) scDt.nd rfl (Or.inl rfl)) pgs_nil))))) (fun _ _ _ _ _ => pts_nil) (fun _ _ _ _ _ => (pe_call GP hr0 rfl mgp kp bp .nil pass0 (pa_cons (pv 5) (pa_cons (pv 6) (pa_cons (pv 1) pa_nil)))))) (pss_one (ps_ret (pe_tup (pa_cons (pv 3) (StX.pa_star (pv 4) pa_nil))))))))), ?_⟩
    have hsl := sizeLine_eq
    have hpl := prs_len d
    have hfm : (formOf d).cps.size = d.prs.length := by rw [← Array.length_toList, prs_sg, List.length_map]
    have hprs := prs_ok (n := n) (fl := fl) d hok hdp hfl
    obtain ⟨tk, hkf⟩ := hk _ (form_in d)
    rw [prs_code] at hy hz
    refine ⟨_, rfl, y, _, rfl, hy, hz, fun l us H1 s1 nl hl hus => ?_⟩
    refine ⟨_, rfl, l, us, _, d, rfl, hl, hus, fun H2 s2 => ?_⟩
    have hl2 := s2 _ _ hl
    have hus2 := ths_kt (KT.of s2) hus
    have hul := Paired.length hus
    rw [List.length_cons, List.length_map] at hul
    have hfl3 : (formOf d).length = d.prs.length := hfm
    refine ⟨_, rfl, _, rfl, ?_⟩
    rw [show decide (V.str (kindOf d) = V.non) = false from decide_eq_false (fun e => nomatch e)]
    refine iteF ?_
    refine ⟨_, rfl, l, us, rfl, .inl (SqL.of hl2), _, rfl, dF, _, .str (formOf d), rfl, rfl, ⟨es, nF, _, kdd.at_, kdd.lit, hkf, ⟨_, rfl⟩⟩, formOf d, rfl, by omega, _, _, rfl, rfl, rfl, _, rfl, ?_⟩
    rw [show ((us.length : Nat) : Int) = 1 + (((formOf d).length : Nat) : Int) by omega, decide_eq_true rfl]
    refine iteF ?_
    refine ⟨_, rfl, dF, _, .str (formOf d), rfl, rfl, ⟨es, nF, _, kdd.at_, kdd.lit, hkf, ⟨_, rfl⟩⟩, 114, formOf d, congrArg V.str s_r.symm, rfl, _, rfl, ite_both ?_ fun hb hc => ?_⟩
    rotate_left
    · have hdd := prs_deep d (of_decide_eq_true hb)
      refine ⟨_, rfl, rfl, _, rfl, ?_⟩
      rw [decide_eq_false (show ¬ V.int ((fl : Nat) : Int) = V.int 8 from fun e => by injection e with e; omega)]
      exact iteF hc
    cases hus2 with
    | cons hx hts =>
      rename_i x0 xs0
      have htl := Paired.length hts
      rw [List.length_map] at htl
      refine ⟨_, rfl, _, rfl, l, _, rfl, SqL.of hl2, fun q nq => ?_⟩
      rw [cut1]
      have sq := Same.new nq (o := .lst xs0)
      have eq : (upd H2 q (.lst xs0)) q = some (.lst xs0) := upd_same
      revert sq eq
      generalize upd H2 q (.lst xs0) = H3
      intro sq eq
      refine ⟨_, rfl, dF, _, .str (formOf d), rfl, rfl, ⟨es, nF, _, kdd.at_, kdd.lit, hkf, ⟨_, rfl⟩⟩, q, _, xs0, rfl, SqL.of eq, fun D nD => lc_it (n := xs0.length) (walk_zipLS (K := K) (a := q) (t := formOf d) (xs := xs0) (by rw [hfm, ← htl, Nat.min_self])) (fun i H' => Same H3 H' ∧ ∃ its, H' D = some (.lst its) ∧ Paired (Prt.At K C H') its (d.prs.take i)) ⟨Same.new nD, [], upd_same, by rw [List.take_zero]; exact .nil⟩ (fun i H' _ z => SqL.of (z.1 _ _ eq)) ?_ ?_⟩
      · rintro i v H4 H5 hi ⟨s4, its, hD4, hits⟩ ⟨T, x, c, rfl, nT, rfl, hxi, hci⟩
        have sT := Same.new nT (o := .tup [x, .str ⟨#[c]⟩])
        have eT : (upd H4 T (.tup [x, .str ⟨#[c]⟩])) T = some (.tup [x, .str ⟨#[c]⟩]) := upd_same
        revert sT eT
        generalize upd H4 T (.tup [x, .str ⟨#[c]⟩]) = H6
        intro sT eT
        have hil : i < d.prs.length := by omega
        have hpi : d.prs[i]? = some d.prs[i] := List.getElem?_eq_getElem hil
        have hcs : c = (d.prs[i]).sg := by
          have e1 : (formOf d).cps.toList[i]? = some c := by simpa using hci
          rw [prs_sg, List.getElem?_map, hpi] at e1
          exact (Option.some.inj e1).symm
        subst hcs
        obtain ⟨ty, e2, y2, rfl, hy2⟩ := paired_get hts hxi
        rw [List.getElem?_map, hpi] at e2
        cases Option.some.inj e2
        have hpz := rowT_size_mem (num d.kix :: d.prs.map Prt.code) (d.prs[i]).code (List.mem_cons_of_mem _ (List.mem_map.mpr ⟨_, List.getElem_mem hil, rfl⟩))
        have s26 := (sq.trans s4).trans sT
        refine ⟨T, _, rfl, SqT.of eT, rfl, _, _, rfl, _, _, rfl, rfl, rfl, lc_yes ?_⟩
        refine ⟨_, rfl, _, rfl, _, rfl, y2, fl, d.prs[i], rfl, hy2.same s26, hprs _ (List.getElem_mem hil), by omega, fun x' H7 s7 hx' => ?_⟩
        have hD7 := s7 _ _ (sT _ _ hD4)
        have hil2 := Paired.length hits
        rw [List.length_take] at hil2
        have kt : KT H7 (upd H7 D (.lst (its ++ [x']))) := KT.lst hD7
        refine ⟨its, hD7, by omega, ((s4.trans sT).trans s7).set nD, its ++ [x'], upd_same, ?_⟩
        rw [List.take_succ_eq_append_getElem hil]
        exact paired_app (ppt_kt kt (ppt_kt (KT.of (sT.trans s7)) hits)) (.cons (hx'.kt kt) .nil)
      · rintro H4 ⟨s4, its, hD4, hits⟩
        rw [htl, List.take_length] at hits
        have hil2 := Paired.length hits
        refine ⟨_, rfl, _, rfl, D, _, rfl, .inr (SqL.of hD4), by rw [List.append_nil, List.length_cons]; omega, fun T2 nT2 => ?_⟩
        rw [List.append_nil]
        have s10 := Same.new nT2 (o := .tup (V.str (kindOf d) :: its))
        exact k T2 _ ((((s1.trans s2).trans sq).trans s4).trans s10) (prs_deed d (ppt_kt (KT.of s10) hits) (SqT.of upd_same))
theorem ok_rowT {f fD : Addr} {fd fdD : FuncData} {n : Nat} (F : Fun K "row_told" "row_told" sRowT f fd) (mt : mg "tuple" = none) (DP : Def P w K mg base "parts" 1 ["thing"] (spParts C)) (GD : FnOk P w K mg base CX0 (3 * n + 5) fD fdD ["code", "floors"] (spDeedT K C (n + 1))) (mgd : mg "deed_told" = some (.ref fD)) (kd : PySem.W.keepIn K (.ref fD) = true) (bd : Binds K fdD ["code", "floors"] []) : FnOk P w K mg base CX0 (3 * (n + 1) + 3) f fd ["thing", "floors"] (spRowT K C (n + 1)) := by
  refine F.ok scRt (fun vs H Q E h => ?_) (fun cdv A outer s H vs Q E hr h => ?_)
  · obtain ⟨y, fl, r, rfl, _⟩ := h
    rfl
  · obtain ⟨y, fl, r, rfl, hy, hok, hdp, hfl, hz, k⟩ := h
    have hr1 : Room 1 _ := hr.mono (by omega)
    refine ⟨_, pss_one (ps_ret (pe_callTy call_tuple_of (by rfl) mt PyProof.Rows.boot_tuple (pa_cons (pe_lc (own := [("part", 2)]) (g := gName 2) (tt := tYes) rfl scRt.nd (pi_list (pe_def DP hr1 rfl (pa_cons (pv 0) pa_nil))) (blkOk_by (N := ["thing", "floors", "part"]) (sc := defScope sRowT) (by decide +kernel)) (fun _ _ _ _ _ => (pg_name (i := 2) scRt.nd rfl (Or.inl rfl))) (fun _ _ _ _ _ => pts_nil) (fun _ _ _ _ _ => (pe_call GD hr rfl mgd kd bd .nil pass0 (pa_cons (pv 2) (pa_cons (pv 1) pa_nil))))) pa_nil))), ?_⟩
    have hsl := sizeLine_eq
    rw [codeR_row] at hy hz
    have hrl := rowT_len (r.map Dd.code)
    rw [List.length_map] at hrl
    refine ⟨_, rfl, y, _, rfl, hy, hz, fun l us H1 s1 nl hl hus => ⟨l, rfl, ⟨_, SqL.of hl⟩, fun D nD => lc_list (K := K) (a := l) (xs := us) (fun i H' => Same H1 H' ∧ ∃ vs, H' D = some (.lst vs) ∧ DsAt K C H' vs (r.take i)) ⟨Same.new nD, [], upd_same, by rw [List.take_zero]; rfl⟩ (fun i H' _ z => SqL.of (z.1 _ _ hl)) ?_ ?_⟩⟩
    · rintro i v H2 hv ⟨s2, vs, hD2, hvs⟩
      obtain ⟨ty, e2, y2, rfl, hy2⟩ := paired_get hus hv
      rw [List.getElem?_map] at e2
      obtain ⟨d, hd, rfl⟩ := Option.map_eq_some_iff.mp e2
      have hdm := List.mem_of_getElem? hd
      have hir := (List.getElem?_eq_some_iff.mp hd).1
      have hdd := deepR_mem r d hdm
      have hdz := rowT_size_mem (r.map Dd.code) d.code (List.mem_map.mpr ⟨d, hdm, rfl⟩)
      have hvl := DsAt.length _ vs hvs
      rw [List.length_take] at hvl
      refine ⟨rfl, lc_yes ?_⟩
      refine ⟨_, rfl, _, rfl, y2, fl, d, rfl, hy2.same s2, okR_mem r d hok hdm, by omega, by omega, by omega, fun p H3 s3 hp => ?_⟩
      have hD3 := s3 _ _ hD2
      have kt : KT H3 (upd H3 D (.lst (vs ++ [V.ref p]))) := KT.lst hD3
      refine ⟨vs, hD3, by omega, (s2.trans s3).set nD, vs ++ [V.ref p], upd_same, ?_⟩
      rw [List.take_succ_eq_append_getElem hir, (List.getElem?_eq_some_iff.mp hd).2]
      exact DsAt_snocT _ _ (DsAt_kt kt _ _ (DsAt_kt (KT.of s3) _ _ hvs)) (DAt_kt kt d _ hp)
    · rintro H2 ⟨s2, vs, hD2, hvs⟩
      have hul := Paired.length hus
      rw [List.length_map] at hul
      rw [hul, List.take_length] at hvs
      refine ⟨D, _, rfl, .inl ⟨SqL.of hD2, fun q nq => ?_⟩⟩
      have sq := Same.new nq (o := .tup vs)
      exact k q _ ((s1.trans s2).trans sq) ⟨vs, SqT.of upd_same, DsAt_kt (KT.of sq) _ _ hvs⟩
theorem ok_rowT0 {f : Addr} {fd : FuncData} (F : Fun K "row_told" "row_told" sRowT f fd) : FnOk P w K mg base CX0 (3 * 0 + 3) f fd ["thing", "floors"] (spRowT K C 0) := by
  refine F.ok scRt (fun vs H Q E h => ?_) (fun cdv A outer s H vs Q E hr h => ?_)
  · obtain ⟨y, fl, r, rfl, _⟩ := h
    rfl
  · obtain ⟨y, fl, r, _, _, _, h, _⟩ := h
    exact absurd h (Nat.not_lt_zero _)
theorem ok_tolds {fR fD fQ : Addr} {fdR fdD fdQ : FuncData} (FR : Fun K "row_told" "row_told" sRowT fR fdR) (FD : Fun K "deed_told" "deed_told" sDeedT fD fdD) (FP : Fun K "part_told" "part_told" sPartT fQ fdQ) (B : Blt mg) (G : FrmC K w mg) (DC : Def P w K mg base "counted" 1 ["thing"] (spCounted C)) (DP : Def P w K mg base "parts" 1 ["thing"] (spParts C)) (DK : Def P w K mg base "kind_told" 2 ["told"] (spKindT C))
    (mgr : mg "row_told" = some (.ref fR)) (br : Binds K fdR ["thing", "floors"] []) (mgd : mg "deed_told" = some (.ref fD)) (bd : Binds K fdD ["code", "floors"] []) (mgp : mg "part_told" = some (.ref fQ)) (bp : Binds K fdQ ["part", "sign", "floors"] []) : ∀ n, FnOk P w K mg base CX0 (3 * n + 3) fR fdR ["thing", "floors"] (spRowT K C n)
  | 0 => ok_rowT0 FR
  | n + 1 => ok_rowT FR G.mt DP (ok_deedT FD B G DP DK (ok_partT FP DC (ok_tolds FR FD FP B G DC DP DK mgr br mgd bd mgp bp n) mgr FR.kp br) mgp FP.kp bp) mgd FD.kp bd
theorem ok_progOf {f : Addr} {fd : FuncData} (F : Fun K "program_of" "program_of" sProgOf f fd) (T : Txt K mg C) (MP : MakerP P w K mg base C CP fP fdP) (DRt : Def P w K mg base "row_told" 30 ["thing", "floors"] (spRowT K C 9)) : FnOk P w K mg base CX0 34 f fd ["thing"] (spProgOf K C CP) := by
  refine F.ok scPo (fun vs H Q E h => ?_) (fun cdv A outer s H vs Q E hr' h => ?_)
  · obtain ⟨y, r, rfl, _⟩ := h
    rfl
  · obtain ⟨y, r, rfl, hy, hok, hdp, hmn, hz, k⟩ := h
    have hr : Room 30 _ := hr'.mono (by decide)
    have hr15 : Room 15 _ := hr'.mono (by decide)
    refine ⟨_, pss_cons (ps_if (pt_not (pt_val (pe_callB (r := rIsi K) call_isi (by rfl) T.isi PyProof.Rows.boot_isinstance (pa_cons (pv 0) (pa_cons (pe_glob (v := .ref C) rfl T.mgC rfl) pa_nil))))) (pss_one ps_never) pss_nil) (pss_one (ps_ret (pe_P MP hr15 rfl (pa_cons (pe_def DRt hr rfl (pa_cons (pv 0) (pa_cons pe_int pa_nil))) pa_nil)))), ?_⟩
    obtain ⟨dx, f1, g1, h1⟩ := hy.obj
    refine ⟨_, rfl, _, _, _, _, true, rfl, ClsV.own C, .base (.ins h1 T.cl T.ca T.cn T.ct T.cm), kit_self _ _, _, rfl, iteF ?_⟩
    refine ⟨_, rfl, y, 0, r, rfl, hy, hok, by omega, by omega, hz, fun q H1 s1 hq => ?_⟩
    exact ⟨q, r, rfl, hq, hdp, hmn, fun z H2 s2 nz hz2 => k z H2 (s1.trans s2) (s1.free nz) hz2⟩
end
end Js

set_option Elab.async false
set_option linter.all false
set_option maxRecDepth 100000
set_option maxHeartbeats 2000000
/-! rows of deeds as a thing tells them, good or not -/
namespace Js
open PySem L2
open PySem.Spec PyProof.Rows
/-- what stands for a deed: none at all, or one whose names are none or any numbers -/
inductive Rw where
  | bad
  | told (a : Option Nat) (t : Tr)
  | take (s : Bool) (a b : Option Nat)
  | two (s : Bool) (a b c : Option Nat)
  | wh (a : Option Nat) (r : List Rw)
  | iff (a : Option Nat) (r o : List Rw)
def cntW : Tr → Option Nat
  | .nil => some 0
  | .pr .nil t => (cntW t).map (· + 1)
  | .pr (.pr _ _) _ => none
theorem cntW_num : ∀ (t : Tr) (n : Nat), cntW t = some n → t = num n
  | .nil, n, h => by cases Option.some.inj h; rfl
  | .pr .nil t, n, h => by
    rw [cntW] at h
    cases e : cntW t with
    | none => rw [e] at h; cases h
    | some m =>
      rw [e] at h
      cases Option.some.inj h
      rw [cntW_num t m e]
      rfl
  | .pr (.pr _ _) _, n, h => by rw [cntW] at h; cases h
def prtW : Tr → List Tr
  | .nil => []
  | .pr a b => a :: prtW b
theorem prtW_row : ∀ t : Tr, rowT (prtW t) = t
  | .nil => rfl
  | .pr a b => by rw [prtW, rowT, prtW_row b]
theorem prtW_size : ∀ (t : Tr), ∀ x ∈ prtW t, x.size < t.size
  | .nil, x, h => nomatch h
  | .pr a b, x, h => by
    rw [prtW] at h
    rw [Tr.size]
    rcases List.mem_cons.mp h with e | h
    · rw [e]; omega
    · have := prtW_size b x h
      omega
/-- the deed that a thing tells, n whiles and ifs may stand in it -/
def deedW : Nat → Tr → Rw
  | 0, t => match prtW t with
    | [] => .bad
    | k :: ps => match cntW k, ps with
      | some 0, [a, x] => .told (cntW a) x
      | some 1, [a, b] => .take false (cntW a) (cntW b)
      | some 2, [a, b] => .take true (cntW a) (cntW b)
      | some 3, [a, b, c] => .two false (cntW a) (cntW b) (cntW c)
      | some 4, [a, b, c] => .two true (cntW a) (cntW b) (cntW c)
      | _, _ => .bad
  | n + 1, t => match prtW t with
    | [] => .bad
    | k :: ps => match cntW k, ps with
      | some 0, [a, x] => .told (cntW a) x
      | some 1, [a, b] => .take false (cntW a) (cntW b)
      | some 2, [a, b] => .take true (cntW a) (cntW b)
      | some 3, [a, b, c] => .two false (cntW a) (cntW b) (cntW c)
      | some 4, [a, b, c] => .two true (cntW a) (cntW b) (cntW c)
      | some 5, [a, r] => .wh (cntW a) ((prtW r).map (deedW n))
      | some 6, [a, r, o] => .iff (cntW a) ((prtW r).map (deedW n)) ((prtW o).map (deedW n))
      | _, _ => .bad
def rowW (n : Nat) (t : Tr) : List Rw := (prtW t).map (deedW n)
/-- a name that a program may have -/
def nmW : Option Nat → Option Nat
  | some a => if a < 10 then some a else none
  | none => none
theorem nmW_some {o : Option Nat} {a : Nat} (h : nmW o = some a) : o = some a ∧ a < 10 := by
  cases o with
  | none => cases h
  | some b =>
    rw [nmW] at h
    by_cases q : b < 10
    · rw [if_pos q] at h
      cases Option.some.inj h
      exact ⟨rfl, q⟩
    · rw [if_neg q] at h
      cases h
mutual
/-- the deed that stands here, where it is one -/
def Rw.dd : Rw → Option Dd
  | .bad => none
  | .told a t => match nmW a with
    | some n => some (.told n t)
    | none => none
  | .take s a b => match nmW a, nmW b with
    | some n, some m => some (.take s n m)
    | _, _ => none
  | .two s a b c => match nmW a, nmW b, nmW c with
    | some n, some m, some k => some (.two s n m k)
    | _, _, _ => none
  | .wh a r => match nmW a, rowD r with
    | some n, some q => some (.wh n q)
    | _, _ => none
  | .iff a r o => match nmW a, rowD r, rowD o with
    | some n, some q, some p => some (.iff n q p)
    | _, _, _ => none
def rowD : List Rw → Option (List Dd)
  | [] => some []
  | x :: l => match x.dd, rowD l with
    | some d, some r => some (d :: r)
    | _, _ => none
end
theorem rowD_cons {x : Rw} {l : List Rw} {r : List Dd} (h : rowD (x :: l) = some r) : ∃ d q, x.dd = some d ∧ rowD l = some q ∧ r = d :: q := by
  rw [rowD] at h
  cases e1 : x.dd with
  | none => rw [e1] at h; cases h
  | some d =>
    cases e2 : rowD l with
    | none => rw [e1, e2] at h; cases h
    | some q => rw [e1, e2] at h; exact ⟨d, q, rfl, rfl, (Option.some.inj h).symm⟩
/-- a row whose deeds tell themselves tells itself -/
theorem row_inv {n : Nat} (hd : ∀ (t : Tr) (d : Dd), t.size ≤ 4000 → (deedW n t).dd = some d → t = d.code ∧ d.ok ∧ d.deep ≤ n) : ∀ (ts : List Tr) (r : List Dd), (∀ t ∈ ts, t.size ≤ 4000) → rowD (ts.map (deedW n)) = some r → rowT ts = codeR r ∧ okR r ∧ deepR r ≤ n
  | [], r, _, h => by
    cases Option.some.inj h
    exact ⟨rfl, trivial, Nat.zero_le _⟩
  | t :: ts, r, hs, h => by
    rw [List.map_cons] at h
    obtain ⟨d, q, h1, h2, rfl⟩ := rowD_cons h
    obtain ⟨e1, o1, p1⟩ := hd t d (hs t (List.mem_cons_self ..)) h1
    obtain ⟨e2, o2, p2⟩ := row_inv hd ts q (fun x hx => hs x (List.mem_cons_of_mem _ hx)) h2
    refine ⟨?_, ⟨o1, o2⟩, ?_⟩
    · rw [rowT, codeR, ← e1, e2]
    · rw [deepR]
      exact Nat.max_le.mpr ⟨p1, p2⟩
theorem nmW_num {a : Tr} {n : Nat} (h : nmW (cntW a) = some n) : a = num n ∧ n < 10 := by
  obtain ⟨h1, h2⟩ := nmW_some h
  exact ⟨cntW_num a n h1, h2⟩
theorem inv_told {a x : Tr} {d : Dd} (hx : x.size ≤ 4000) (h : (Rw.told (cntW a) x).dd = some d) : rowT [num 0, a, x] = d.code ∧ d.ok ∧ d.deep = 0 := by
  rw [Rw.dd] at h
  cases e : nmW (cntW a) with
  | none => rw [e] at h; cases h
  | some n =>
    rw [e] at h
    cases Option.some.inj h
    obtain ⟨rfl, hn⟩ := nmW_num e
    exact ⟨by rw [Dd.code], ⟨hn, hx⟩, by rw [Dd.deep]⟩
theorem inv_take {s : Bool} {a b : Tr} {d : Dd} (h : (Rw.take s (cntW a) (cntW b)).dd = some d) : rowT [num (if s then 2 else 1), a, b] = d.code ∧ d.ok ∧ d.deep = 0 := by
  rw [Rw.dd] at h
  cases e : nmW (cntW a) with
  | none => rw [e] at h; cases h
  | some n =>
    cases e2 : nmW (cntW b) with
    | none => rw [e, e2] at h; cases h
    | some m =>
      rw [e, e2] at h
      cases Option.some.inj h
      obtain ⟨rfl, hn⟩ := nmW_num e
      obtain ⟨rfl, hm⟩ := nmW_num e2
      exact ⟨by rw [Dd.code], ⟨hn, hm⟩, by rw [Dd.deep]⟩
theorem inv_two {s : Bool} {a b c : Tr} {d : Dd} (h : (Rw.two s (cntW a) (cntW b) (cntW c)).dd = some d) : rowT [num (if s then 4 else 3), a, b, c] = d.code ∧ d.ok ∧ d.deep = 0 := by
  rw [Rw.dd] at h
  cases e : nmW (cntW a) with
  | none => rw [e] at h; cases h
  | some n =>
    cases e2 : nmW (cntW b) with
    | none => rw [e, e2] at h; cases h
    | some m =>
      cases e3 : nmW (cntW c) with
      | none => rw [e, e2, e3] at h; cases h
      | some k =>
        rw [e, e2, e3] at h
        cases Option.some.inj h
        obtain ⟨rfl, hn⟩ := nmW_num e
        obtain ⟨rfl, hm⟩ := nmW_num e2
        obtain ⟨rfl, hk⟩ := nmW_num e3
        exact ⟨by rw [Dd.code], ⟨hn, hm, hk⟩, by rw [Dd.deep]⟩
theorem prt_le {t x : Tr} (hs : t.size ≤ 4000) (h : x ∈ prtW t) : x.size ≤ 4000 := by
  have := prtW_size t x h
  omega
theorem inv_wh {n : Nat} (hd : ∀ (t : Tr) (d : Dd), t.size ≤ 4000 → (deedW n t).dd = some d → t = d.code ∧ d.ok ∧ d.deep ≤ n) {a r : Tr} {d : Dd} (hr : r.size ≤ 4000) (h : (Rw.wh (cntW a) ((prtW r).map (deedW n))).dd = some d) : rowT [num 5, a, r] = d.code ∧ d.ok ∧ d.deep ≤ n + 1 := by
  rw [Rw.dd] at h
  cases e : nmW (cntW a) with
  | none => rw [e] at h; cases h
  | some m =>
    cases e2 : rowD ((prtW r).map (deedW n)) with
    | none => rw [e, e2] at h; cases h
    | some q =>
      rw [e, e2] at h
      cases Option.some.inj h
      obtain ⟨rfl, hn⟩ := nmW_num e
      obtain ⟨h1, h2, h3⟩ := row_inv hd (prtW r) q (fun x hx => prt_le hr hx) e2
      rw [prtW_row] at h1
      subst h1
      exact ⟨by rw [Dd.code], ⟨hn, h2⟩, by rw [Dd.deep]; omega⟩
theorem inv_iff {n : Nat} (hd : ∀ (t : Tr) (d : Dd), t.size ≤ 4000 → (deedW n t).dd = some d → t = d.code ∧ d.ok ∧ d.deep ≤ n) {a r o : Tr} {d : Dd} (hr : r.size ≤ 4000) (ho : o.size ≤ 4000) (h : (Rw.iff (cntW a) ((prtW r).map (deedW n)) ((prtW o).map (deedW n))).dd = some d) : rowT [num 6, a, r, o] = d.code ∧ d.ok ∧ d.deep ≤ n + 1 := by
  rw [Rw.dd] at h
  cases e : nmW (cntW a) with
  | none => rw [e] at h; cases h
  | some m =>
    cases e2 : rowD ((prtW r).map (deedW n)) with
    | none => rw [e, e2] at h; cases h
    | some q =>
      cases e3 : rowD ((prtW o).map (deedW n)) with
      | none => rw [e, e2, e3] at h; cases h
      | some p =>
        rw [e, e2, e3] at h
        cases Option.some.inj h
        obtain ⟨rfl, hn⟩ := nmW_num e
        obtain ⟨h1, h2, h3⟩ := row_inv hd (prtW r) q (fun x hx => prt_le hr hx) e2
        obtain ⟨g1, g2, g3⟩ := row_inv hd (prtW o) p (fun x hx => prt_le ho hx) e3
        rw [prtW_row] at h1 g1
        subst h1
        subst g1
        exact ⟨by rw [Dd.code], ⟨hn, h2, g2⟩, by rw [Dd.deep]; omega⟩
theorem deedW_inv : ∀ (n : Nat) (t : Tr) (d : Dd), t.size ≤ 4000 → (deedW n t).dd = some d → t = d.code ∧ d.ok ∧ d.deep ≤ n
  | 0, t, d, hs, h => by
    have hr := prtW_row t
    have hz := fun x hx => prt_le (x := x) hs hx
    rw [deedW] at h
    split at h
    · rw [Rw.dd] at h; cases h
    · rename_i k ps hL
      rw [hL] at hr hz
      split at h
      · rename_i e
        rw [cntW_num _ _ e] at hr
        obtain ⟨h1, h2, h3⟩ := inv_told (hz _ (by simp)) h
        exact ⟨hr.symm.trans h1, h2, by omega⟩
      · rename_i e
        rw [cntW_num _ _ e] at hr
        obtain ⟨h1, h2, h3⟩ := inv_take h
        exact ⟨hr.symm.trans h1, h2, by omega⟩
      · rename_i e
        rw [cntW_num _ _ e] at hr
        obtain ⟨h1, h2, h3⟩ := inv_take h
        exact ⟨hr.symm.trans h1, h2, by omega⟩
      · rename_i e
        rw [cntW_num _ _ e] at hr
        obtain ⟨h1, h2, h3⟩ := inv_two h
        exact ⟨hr.symm.trans h1, h2, by omega⟩
      · rename_i e
        rw [cntW_num _ _ e] at hr
        obtain ⟨h1, h2, h3⟩ := inv_two h
        exact ⟨hr.symm.trans h1, h2, by omega⟩
      · rw [Rw.dd] at h; cases h
  | n + 1, t, d, hs, h => by
    have hr := prtW_row t
    have hz := fun x hx => prt_le (x := x) hs hx
    have ih := deedW_inv n
    rw [deedW] at h
    split at h
    · rw [Rw.dd] at h; cases h
    · rename_i k ps hL
      rw [hL] at hr hz
      split at h
      · rename_i e
        rw [cntW_num _ _ e] at hr
        obtain ⟨h1, h2, h3⟩ := inv_told (hz _ (by simp)) h
        exact ⟨hr.symm.trans h1, h2, by omega⟩
      · rename_i e
        rw [cntW_num _ _ e] at hr
        obtain ⟨h1, h2, h3⟩ := inv_take h
        exact ⟨hr.symm.trans h1, h2, by omega⟩
      · rename_i e
        rw [cntW_num _ _ e] at hr
        obtain ⟨h1, h2, h3⟩ := inv_take h
        exact ⟨hr.symm.trans h1, h2, by omega⟩
      · rename_i e
        rw [cntW_num _ _ e] at hr
        obtain ⟨h1, h2, h3⟩ := inv_two h
        exact ⟨hr.symm.trans h1, h2, by omega⟩
      · rename_i e
        rw [cntW_num _ _ e] at hr
        obtain ⟨h1, h2, h3⟩ := inv_two h
        exact ⟨hr.symm.trans h1, h2, by omega⟩
      · rename_i e
        rw [cntW_num _ _ e] at hr
        obtain ⟨h1, h2, h3⟩ := inv_wh ih (hz _ (by simp)) h
        exact ⟨hr.symm.trans h1, h2, h3⟩
      · rename_i e
        rw [cntW_num _ _ e] at hr
        obtain ⟨h1, h2, h3⟩ := inv_iff ih (hz _ (by simp)) (hz _ (by simp)) h
        exact ⟨hr.symm.trans h1, h2, h3⟩
      · rw [Rw.dd] at h; cases h
/-- a thing whose row is good is a code -/
theorem rowW_inv {n : Nat} {t : Tr} {r : List Dd} (hs : t.size ≤ 4000) (h : rowD (rowW n t) = some r) : t = codeR r ∧ okR r ∧ deepR r ≤ n := by
  obtain ⟨h1, h2, h3⟩ := row_inv (deedW_inv n) (prtW t) r (fun x hx => prt_le hs hx) h
  rw [prtW_row] at h1
  exact ⟨h1, h2, h3⟩
end Js

set_option Elab.async false
set_option linter.all false
set_option maxRecDepth 100000
set_option maxHeartbeats 2000000
/-! what things tell, codes or not -/
namespace Js
open PySem L2
open PySem.Spec PyProof.Rows
def nmV : Option Nat → V
  | some n => .int ((n : Nat) : Int)
  | none => .non
mutual
/-- what stands for a deed -/
def RwAt (K : PySem.W.Frag) (C : Addr) (H : Hp) : V → Rw → Prop
  | v, .bad => ∃ p, v = .ref p ∧ SqT K H p []
  | v, .told a t => ∃ p x, v = .ref p ∧ SqT K H p [.str "told", nmV a, .ref x] ∧ Th C H x t ∧ t.size ≤ 4000
  | v, .take s a b => ∃ p, v = .ref p ∧ SqT K H p [.str (takeS s), nmV a, nmV b]
  | v, .two s a b c => ∃ p, v = .ref p ∧ SqT K H p [.str (twoS s), nmV a, nmV b, nmV c]
  | v, .wh a r => ∃ p q vs, v = .ref p ∧ SqT K H p [.str "while", nmV a, .ref q] ∧ SqT K H q vs ∧ RwsAt K C H vs r
  | v, .iff a r o => ∃ p q vs q2 vs2, v = .ref p ∧ SqT K H p [.str "if", nmV a, .ref q, .ref q2] ∧ SqT K H q vs ∧ RwsAt K C H vs r ∧ SqT K H q2 vs2 ∧ RwsAt K C H vs2 o
def RwsAt (K : PySem.W.Frag) (C : Addr) (H : Hp) : List V → List Rw → Prop
  | vs, [] => vs = []
  | vs, d :: r => ∃ v us, vs = v :: us ∧ RwAt K C H v d ∧ RwsAt K C H us r
end
mutual
theorem RwAt_kt {K : PySem.W.Frag} {C : Addr} {H H' : Hp} (k : KT H H') : ∀ (d : Rw) (v : V), RwAt K C H v d → RwAt K C H' v d
  | .bad, v, h => by
    rw [RwAt] at h ⊢
    obtain ⟨p, e, h1⟩ := h
    exact ⟨p, e, sqt_kt k h1⟩
  | .told a t, v, h => by
    rw [RwAt] at h ⊢
    obtain ⟨p, x, e, h1, h2, h3⟩ := h
    exact ⟨p, x, e, sqt_kt k h1, h2.kt k, h3⟩
  | .take s a b, v, h => by
    rw [RwAt] at h ⊢
    obtain ⟨p, e, h1⟩ := h
    exact ⟨p, e, sqt_kt k h1⟩
  | .two s a b c, v, h => by
    rw [RwAt] at h ⊢
    obtain ⟨p, e, h1⟩ := h
    exact ⟨p, e, sqt_kt k h1⟩
  | .wh a r, v, h => by
    rw [RwAt] at h ⊢
    obtain ⟨p, q, vs, e, h1, h2, h3⟩ := h
    exact ⟨p, q, vs, e, sqt_kt k h1, sqt_kt k h2, RwsAt_kt k r vs h3⟩
  | .iff a r o, v, h => by
    rw [RwAt] at h ⊢
    obtain ⟨p, q, vs, q2, vs2, e, h1, h2, h3, h4, h5⟩ := h
    exact ⟨p, q, vs, q2, vs2, e, sqt_kt k h1, sqt_kt k h2, RwsAt_kt k r vs h3, sqt_kt k h4, RwsAt_kt k o vs2 h5⟩
theorem RwsAt_kt {K : PySem.W.Frag} {C : Addr} {H H' : Hp} (k : KT H H') : ∀ (r : List Rw) (vs : List V), RwsAt K C H vs r → RwsAt K C H' vs r
  | [], vs, h => by rw [RwsAt] at h ⊢; exact h
  | d :: r, vs, h => by
    rw [RwsAt] at h ⊢
    obtain ⟨v, us, e, h1, h2⟩ := h
    exact ⟨v, us, e, RwAt_kt k d v h1, RwsAt_kt k r us h2⟩
end
theorem RwsAt_snoc {K : PySem.W.Frag} {C : Addr} {H : Hp} {v : V} {d : Rw} (hd : RwAt K C H v d) : ∀ (r : List Rw) (vs : List V), RwsAt K C H vs r → RwsAt K C H (vs ++ [v]) (r ++ [d])
  | [], vs, h => by
    rw [RwsAt] at h
    subst h
    exact ⟨v, [], rfl, hd, rfl⟩
  | x :: r, vs, h => by
    rw [RwsAt] at h
    obtain ⟨u, us, rfl, h1, h2⟩ := h
    exact ⟨u, us ++ [v], rfl, h1, RwsAt_snoc hd r us h2⟩
theorem RwsAt_len {K : PySem.W.Frag} {C : Addr} {H : Hp} : ∀ (r : List Rw) (vs : List V), RwsAt K C H vs r → vs.length = r.length
  | [], vs, h => by rw [RwsAt] at h; subst h; rfl
  | x :: r, vs, h => by
    rw [RwsAt] at h
    obtain ⟨u, us, rfl, h1, h2⟩ := h
    rw [List.length_cons, List.length_cons, RwsAt_len r us h2]
mutual
/-- a good one stands as its deed does -/
theorem RwAt_dd {K : PySem.W.Frag} {C : Addr} {H : Hp} : ∀ (x : Rw) (v : V) (d : Dd), RwAt K C H v x → x.dd = some d → DAt K C H v d
  | .bad, v, d, h, e => by rw [Rw.dd] at e; cases e
  | .told a t, v, d, h, e => by
    rw [RwAt] at h
    obtain ⟨p, x, rfl, h1, h2, h3⟩ := h
    rw [Rw.dd] at e
    cases e1 : nmW a with
    | none => rw [e1] at e; cases e
    | some n =>
      rw [e1] at e
      cases Option.some.inj e
      obtain ⟨rfl, hn⟩ := nmW_some e1
      exact ⟨p, x, rfl, h1, hn, h2, h3⟩
  | .take s a b, v, d, h, e => by
    rw [RwAt] at h
    obtain ⟨p, rfl, h1⟩ := h
    rw [Rw.dd] at e
    cases e1 : nmW a with
    | none => rw [e1] at e; cases e
    | some n =>
      cases e2 : nmW b with
      | none => rw [e1, e2] at e; cases e
      | some m =>
        rw [e1, e2] at e
        cases Option.some.inj e
        obtain ⟨rfl, hn⟩ := nmW_some e1
        obtain ⟨rfl, hm⟩ := nmW_some e2
        exact ⟨p, rfl, h1, hn, hm⟩
  | .two s a b c, v, d, h, e => by
    rw [RwAt] at h
    obtain ⟨p, rfl, h1⟩ := h
    rw [Rw.dd] at e
    cases e1 : nmW a with
    | none => rw [e1] at e; cases e
    | some n =>
      cases e2 : nmW b with
      | none => rw [e1, e2] at e; cases e
      | some m =>
        cases e3 : nmW c with
        | none => rw [e1, e2, e3] at e; cases e
        | some k =>
          rw [e1, e2, e3] at e
          cases Option.some.inj e
          obtain ⟨rfl, hn⟩ := nmW_some e1
          obtain ⟨rfl, hm⟩ := nmW_some e2
          obtain ⟨rfl, hk⟩ := nmW_some e3
          exact ⟨p, rfl, h1, hn, hm, hk⟩
  | .wh a r, v, d, h, e => by
    rw [RwAt] at h
    obtain ⟨p, q, vs, rfl, h1, h2, h3⟩ := h
    rw [Rw.dd] at e
    cases e1 : nmW a with
    | none => rw [e1] at e; cases e
    | some n =>
      cases e2 : rowD r with
      | none => rw [e1, e2] at e; cases e
      | some q2 =>
        rw [e1, e2] at e
        cases Option.some.inj e
        obtain ⟨rfl, hn⟩ := nmW_some e1
        exact ⟨p, q, vs, rfl, h1, hn, h2, RwsAt_dd r vs q2 h3 e2⟩
  | .iff a r o, v, d, h, e => by
    rw [RwAt] at h
    obtain ⟨p, q, vs, q2, vs2, rfl, h1, h2, h3, h4, h5⟩ := h
    rw [Rw.dd] at e
    cases e1 : nmW a with
    | none => rw [e1] at e; cases e
    | some n =>
      cases e2 : rowD r with
      | none => rw [e1, e2] at e; cases e
      | some r2 =>
        cases e3 : rowD o with
        | none => rw [e1, e2, e3] at e; cases e
        | some o2 =>
          rw [e1, e2, e3] at e
          cases Option.some.inj e
          obtain ⟨rfl, hn⟩ := nmW_some e1
          exact ⟨p, q, vs, q2, vs2, rfl, h1, hn, h2, RwsAt_dd r vs r2 h3 e2, h4, RwsAt_dd o vs2 o2 h5 e3⟩
theorem RwsAt_dd {K : PySem.W.Frag} {C : Addr} {H : Hp} : ∀ (r : List Rw) (vs : List V) (q : List Dd), RwsAt K C H vs r → rowD r = some q → DsAt K C H vs q
  | [], vs, q, h, e => by
    rw [RwsAt] at h
    cases Option.some.inj e
    exact h
  | x :: r, vs, q, h, e => by
    rw [RwsAt] at h
    obtain ⟨v, us, rfl, h1, h2⟩ := h
    obtain ⟨d, q2, e1, e2, rfl⟩ := rowD_cons e
    exact ⟨v, us, rfl, RwAt_dd x v d h1 e1, RwsAt_dd r us q2 h2 e2⟩
end
def spCountW (C : Addr) : Sp := fun vs H Q _ => ∃ a t, vs = [.ref a] ∧ Th C H a t ∧ Q (nmV (cntW t)) H
section
variable {P : Program} {w : World} {K : PySem.W.Frag} {mg : Str → Option Value} {base : Heap} {C CP fI fP : Addr} {fdI fdP : FuncData}
theorem ok_countW {f : Addr} {fd : FuncData} (F : Fun K "counted" "counted" sCounted f fd) (T : Txt K mg C) : FnOk P w K mg base CX0 1 f fd ["thing"] (spCountW C) := by
  refine F.ok scCt (fun vs H Q E h => ?_) (fun cdv A outer s H vs Q E hr h => ?_)
  · obtain ⟨a, n, rfl, _⟩ := h
    rfl
  · obtain ⟨a, t, rfl, ha, k⟩ := h
    refine ⟨_, pss_cons (ps_set (i := 1) scCt.nd rfl (Or.inl rfl) pe_int) (pss_cons (ps_set (i := 2) scCt.nd rfl (Or.inl rfl) (pv 0)) (pss_cons (ps_while PassesOwn.never (pt_truth (pe_fld (pv 2) rfl) (by intro _; rfl)) (pss_cons (ps_if (pt_truth (pe_fld (pe_fld (pv 2) rfl) rfl) (by intro _; rfl)) (pss_one (ps_ret pe_non)) pss_nil) (pss_cons (ps_aug (i := 1) scCt.nd rfl (Or.inl rfl) pe_int ip_add) (pss_one (ps_set (i := 2) scCt.nd rfl (Or.inl rfl) (pe_fld (pv 2) rfl)))))) (pss_one (ps_ret (pv 1))))), ?_⟩
    refine ⟨_, rfl, fun m σ H' => ∃ (i : Nat) (b : Addr) (u : Tr), σ = [some (.ref a), some (.int ((i : Nat) : Int)), some (.ref b)] ∧ H' = H ∧ Th C H b u ∧ u.size = m ∧ cntW t = (cntW u).map (· + i), ⟨t.size, 0, a, t, rfl, rfl, ha, rfl, by cases cntW t <;> rfl⟩, ?_⟩
    rintro m σ H1 ⟨i, b, u, rfl, rfl, hb, hm, hc⟩
    match u, hm, hc, hb with
    | .nil, hm, hc, hb =>
      obtain ⟨dx, f1, g1, h1⟩ := hb.obj
      refine ⟨_, rfl, _, _, _, _, _, rfl, h1, T.cl, T.nZ, tf_size _ _ _, _, rfl, iteF ?_⟩
      rw [hc, show (cntW .nil).map (· + i) = some i by rw [cntW]; exact congrArg some (Nat.zero_add i)] at k
      exact ⟨_, rfl, k⟩
    | .pr x v, hm, hc, hb =>
      obtain ⟨dx, b1, c1, h1, hb1, hc1⟩ := hb.pair
      have e : (((Tr.pr x v).size : Nat) : Int) ≠ 0 := by
        show ((1 + x.size + v.size : Nat) : Int) ≠ 0
        omega
      have hvm : v.size < m := by
        rw [← hm]
        show v.size < 1 + x.size + v.size
        omega
      refine ⟨_, rfl, _, _, _, _, _, rfl, h1, T.cl, T.nZ, tf_size _ _ _, _, rfl, ?_⟩
      rw [show ((((Tr.pr x v).size : Nat) : Int) != 0) = true from by simpa using e]
      refine iteT ⟨fun σ' H5 => ∃ m', m' < m ∧ _, fun σ' H5 z => z, ?_⟩
      obtain ⟨dy, f2, g2, h2⟩ := hb1.obj
      match x, hc, h1, h2, hb1 with
      | .nil, hc, h1, h2, hb1 =>
        refine ⟨_, rfl, _, _, _, _, _, rfl, h1, T.cl, T.nF, tf_first _ _ _, _, _, _, _, _, rfl, h2, T.cl, T.nZ, tf_size _ _ _, _, rfl, iteF ?_⟩
        refine ⟨_, rfl, _, _, rfl, rfl, ?_⟩
        refine ⟨_, rfl, _, _, _, _, _, rfl, h1, T.cl, T.nS, tf_second _ _ _, ?_⟩
        refine ⟨v.size, hvm, i + 1, c1, v, rfl, rfl, hc1, rfl, ?_⟩
        rw [hc, cntW]
        cases cntW v with
        | none => rfl
        | some q => exact congrArg some (by show q + 1 + i = q + (i + 1); omega)
      | .pr y z, hc, h1, h2, hb1 =>
        refine ⟨_, rfl, _, _, _, _, _, rfl, h1, T.cl, T.nF, tf_first _ _ _, _, _, _, _, _, rfl, h2, T.cl, T.nZ, tf_size _ _ _, _, rfl, ?_⟩
        rw [show ((((Tr.pr y z).size : Nat) : Int) != 0) = true from by
          have : (((Tr.pr y z).size : Nat) : Int) ≠ 0 := by
            show ((1 + y.size + z.size : Nat) : Int) ≠ 0
            omega
          simpa using this]
        rw [hc, show cntW (.pr (.pr y z) v) = none from by rw [cntW]] at k
        exact iteT k
end
end Js

set_option Elab.async false
set_option linter.all false
set_option maxRecDepth 100000
set_option maxHeartbeats 2000000
/-! what things tell, codes or not: kinds, parts, rows -/
namespace Js
open PySem L2
open PySem.Spec PyProof.Rows
/-- the kind that the first of what is told tells -/
def kindW : List Tr → Option Str
  | [] => none
  | k :: _ => match cntW k with
    | some m => formKs[m]?
    | none => none
def strO : Option Str → V
  | some x => .str x
  | none => .non
/-- what a part tells, by its sign -/
def PwAt (K : PySem.W.Frag) (C : Addr) (H : Hp) (x : V) (c m : Nat) (t : Tr) : Prop := (c = 110 ∧ x = nmV (cntW t)) ∨ (c = 116 ∧ ∃ y, x = .ref y ∧ Th C H y t ∧ t.size ≤ 4000) ∨ (c = 114 ∧ ∃ m' q vs, m = m' + 1 ∧ x = .ref q ∧ SqT K H q vs ∧ RwsAt K C H vs (rowW m' t))
theorem PwAt.kt {K : PySem.W.Frag} {C : Addr} {H H' : Hp} (k : KT H H') {x : V} {c m : Nat} {t : Tr} (h : PwAt K C H x c m t) : PwAt K C H' x c m t := by
  rcases h with h | ⟨e, y, e2, h1, h2⟩ | ⟨e, m', q, vs, e2, e3, h1, h2⟩
  · exact .inl h
  · exact .inr (.inl ⟨e, y, e2, h1.kt k, h2⟩)
  · exact .inr (.inr ⟨e, m', q, vs, e2, e3, sqt_kt k h1, RwsAt_kt k _ _ h2⟩)
def spKindW (C : Addr) : Sp := fun vs H Q _ => ∃ l us ts, vs = [.ref l] ∧ H l = some (.lst us) ∧ Paired (ThV C H) us ts ∧ ∀ H', Same H H' → Q (strO (kindW ts)) H'
def spPartW (K : PySem.W.Frag) (C : Addr) (m : Nat) : Sp := fun vs H Q _ => ∃ (y : Addr) (c fl : Nat) (t : Tr), vs = [.ref y, .str ⟨#[c]⟩, .int ((fl : Nat) : Int)] ∧ Th C H y t ∧ t.size ≤ 4000 ∧ (c = 110 ∨ c = 116 ∨ (c = 114 ∧ 1 ≤ m ∧ fl + m = 8)) ∧ ∀ x H', Same H H' → PwAt K C H' x c m t → Q x H'
def spRwT (K : PySem.W.Frag) (C : Addr) (m : Nat) : Sp := fun vs H Q _ => ∃ (m' : Nat) (y : Addr) (fl : Nat) (t : Tr), m = m' + 1 ∧ vs = [.ref y, .int ((fl : Nat) : Int)] ∧ Th C H y t ∧ t.size ≤ 4000 ∧ fl + m' = 8 ∧ ∀ q ws H', Same H H' → SqT K H' q ws → RwsAt K C H' ws (rowW m' t) → Q (.ref q) H'
def spDdT (K : PySem.W.Frag) (C : Addr) (m : Nat) : Sp := fun vs H Q _ => ∃ (m' : Nat) (y : Addr) (fl : Nat) (t : Tr), m = m' + 1 ∧ vs = [.ref y, .int ((fl : Nat) : Int)] ∧ Th C H y t ∧ t.size ≤ 4000 ∧ fl + m' = 8 ∧ ∀ p H', Same H H' → RwAt K C H' (.ref p) (deedW m' t) → Q (.ref p) H'
section
variable {P : Program} {w : World} {K : PySem.W.Frag} {mg : Str → Option Value} {base : Heap} {C CP fI fP : Addr} {fdI fdP : FuncData}
theorem ok_kindW {f : Addr} {fd : FuncData} (F : Fun K "kind_told" "kind_told" sKindT f fd) (B : Blt mg) (ml : mg "list" = none) (Fo : FoK K w mg) (DC : Def P w K mg base "counted" 1 ["thing"] (spCountW C)) : FnOk P w K mg base CX0 2 f fd ["told"] (spKindW C) := by
  obtain ⟨dF, es, nF, mF, kdd, hk, h7, hks⟩ := Fo.ex
  have kdF := (⟨kdd, h7, hks⟩ : KDict K w dF es nF ∧ es.size = 7 ∧ ∀ (i : Nat) (h : i < es.size), ∃ z t, formKs[i]? = some z ∧ es[i].key = Value.str z t)
  refine F.ok scKt (fun vs H Q E h => ?_) (fun cdv A outer s H vs Q E hr h => ?_)
  · obtain ⟨l, us, ts, rfl, _⟩ := h
    rfl
  · obtain ⟨l, us, ts, rfl, hl, hus, k⟩ := h
    refine ⟨_, pss_cons (ps_set (i := 1) scKt.nd rfl (Or.inl rfl) (pe_ifExp (pt_truth (pv 0) (by intro _; rfl)) (pe_def DC hr rfl (pa_cons (pe_ix (r := rIxL K) ix_list (pv 0) pe_int (fun _ _ => rfl)) pa_nil)) pe_non)) (pss_cons (ps_if (PW.pt (pw_or (pt_cmp (pc_isN (pv 1))) (pw_or1 (pt_cmpR op_ge (pv 1) (pe_callB (call_lenKD kdd h7) (by rfl) B.len PySem.boot_len (pa_cons (pe_glob (v := .ref dF) rfl mF rfl) pa_nil)) (nomark _))))) (pss_one (ps_ret pe_non)) pss_nil) (pss_one (ps_ret (pe_ix (r := rIxL K) ix_list (pe_callTy (call_listKD rfl kdF) (by rfl) ml PyProof.Rows.boot_list (pa_cons (pe_glob (v := .ref dF) rfl mF rfl) pa_nil)) (pv 1) (fun _ _ => rfl))))), ?_⟩
    cases hus with
    | nil =>
      refine ⟨_, rfl, _, .inl ⟨_, SqL.of hl, rfl⟩, iteF ?_⟩
      refine ⟨_, rfl, _, rfl, iteT (iteT ?_)⟩
      exact k _ (Same.refl _)
    | cons hx hus =>
      rename_i x0 t0 us0 ts0
      obtain ⟨x, rfl, hx⟩ := hx
      refine ⟨_, rfl, _, .inl ⟨_, SqL.of hl, rfl⟩, iteT ?_⟩
      refine ⟨_, rfl, l, _, 0, _, rfl, rfl, SqL.of hl, at0 _ _, x, t0, rfl, hx, ?_⟩
      have hkw : kindW (t0 :: ts0) = match cntW t0 with | some m => formKs[m]? | none => none := rfl
      rw [hkw] at k
      cases hc : cntW t0 with
      | none =>
        rw [hc] at k
        refine ⟨_, rfl, _, rfl, iteT (iteT ?_)⟩
        exact k _ (Same.refl _)
      | some m =>
        rw [hc] at k
        dsimp only at k
        refine ⟨_, rfl, _, rfl, ?_⟩
        rw [show decide (nmV (some m) = V.non) = false from decide_eq_false (fun e => nomatch e)]
        refine iteF ?_
        refine ⟨_, rfl, rfl, _, _, rfl, rfl, _, rfl, ?_⟩
        by_cases h : 7 ≤ m
        · rw [decide_eq_true (show ((m : Nat) : Int) ≥ 7 by omega)]
          rw [show formKs[m]? = none from List.getElem?_eq_none_iff.mpr h] at k
          exact iteT (k _ (Same.refl _))
        · rw [decide_eq_false (show ¬ ((m : Nat) : Int) ≥ 7 by omega)]
          have hm : m < formKs.length := by show m < 7; omega
          rw [List.getElem?_eq_getElem hm] at k
          refine iteF ?_
          refine ⟨rfl, fun q nq => ?_⟩
          have sq := Same.new nq (o := .lst (strV formKs))
          exact ⟨_, rfl, q, _, _, _, rfl, rfl, SqL.of upd_same, atI_nat (by rw [strV, List.getElem?_map, List.getElem?_eq_getElem hm]; rfl), k _ sq⟩
theorem ok_partW {f fR : Addr} {fd fdR : FuncData} {n : Nat} (F : Fun K "part_told" "part_told" sPartT f fd) (DC : Def P w K mg base "counted" 1 ["thing"] (spCountW C)) (GR : FnOk P w K mg base CX0 (3 * n + 3) fR fdR ["thing", "floors"] (spRwT K C n)) (mgr : mg "row_told" = some (.ref fR)) (kr : PySem.W.keepIn K (.ref fR) = true) (br : Binds K fdR ["thing", "floors"] []) : FnOk P w K mg base CX0 (3 * n + 4) f fd ["part", "sign", "floors"] (spPartW K C n) := by
  refine F.ok scPt (fun vs H Q E h => ?_) (fun cdv A outer s H vs Q E hr h => ?_)
  · obtain ⟨y, c, fl, t, rfl, _⟩ := h
    rfl
  · obtain ⟨y, c, fl, t, rfl, hy, hz, hc, k⟩ := h
    have hr1 : Room 1 _ := hr.mono (by omega)
    refine ⟨_, pss_cons (ps_if (pt_cmpR op_eq (pv 1) pe_str (nomark _)) (pss_one (ps_ret (pe_def DC hr1 rfl (pa_cons (pv 0) pa_nil)))) pss_nil) (pss_cons (ps_if (pt_cmpR op_eq (pv 1) pe_str (nomark _)) (pss_one (ps_ret (pv 0))) pss_nil) (pss_one (ps_ret (pe_call GR hr rfl mgr kr br .nil pass0 (pa_cons (pv 0) (pa_cons (pe_op op_add (pv 2) pe_int) pa_nil)))))), ?_⟩
    rcases hc with rfl | rfl | ⟨rfl, h1, h8⟩
    · refine ⟨_, rfl, rfl, _, rfl, ?_⟩
      rw [s_n, decide_eq_true rfl]
      exact iteT ⟨_, rfl, y, t, rfl, hy, k _ H (Same.refl H) (.inl ⟨rfl, rfl⟩)⟩
    · refine ⟨_, rfl, rfl, _, rfl, ?_⟩
      rw [s_t, show decide (V.str ("t" : Str) = V.str ("n" : Str)) = false by decide +kernel]
      refine iteF ⟨_, rfl, rfl, _, rfl, ?_⟩
      rw [decide_eq_true rfl]
      exact iteT ⟨_, rfl, k _ H (Same.refl H) (.inr (.inl ⟨rfl, y, rfl, hy, hz⟩))⟩
    · refine ⟨_, rfl, rfl, _, rfl, ?_⟩
      rw [s_r, show decide (V.str ("r" : Str) = V.str ("n" : Str)) = false by decide +kernel]
      refine iteF ⟨_, rfl, rfl, _, rfl, ?_⟩
      rw [show decide (V.str ("r" : Str) = V.str ("t" : Str)) = false by decide +kernel]
      exact iteF ⟨_, rfl, _, rfl, _, _, rfl, rfl, n - 1, y, fl + 1, t, by omega, rfl, hy, hz, by omega, fun q ws H1 s1 hq hws => k _ H1 s1 (.inr (.inr ⟨rfl, n - 1, q, ws, by omega, rfl, hq, hws⟩))⟩
theorem ok_rwT {f fD : Addr} {fd fdD : FuncData} {n : Nat} (F : Fun K "row_told" "row_told" sRowT f fd) (mt : mg "tuple" = none) (DP : Def P w K mg base "parts" 1 ["thing"] (spParts C)) (GD : FnOk P w K mg base CX0 (3 * n + 5) fD fdD ["code", "floors"] (spDdT K C (n + 1))) (mgd : mg "deed_told" = some (.ref fD)) (kd : PySem.W.keepIn K (.ref fD) = true) (bd : Binds K fdD ["code", "floors"] []) : FnOk P w K mg base CX0 (3 * (n + 1) + 3) f fd ["thing", "floors"] (spRwT K C (n + 1)) := by
  refine F.ok scRt (fun vs H Q E h => ?_) (fun cdv A outer s H vs Q E hr h => ?_)
  · obtain ⟨m', y, fl, t, _, rfl, _⟩ := h
    rfl
  · obtain ⟨m', y, fl, t, em, rfl, hy, hz, hfl, k⟩ := h
    obtain rfl : n = m' := by omega
    have hr1 : Room 1 _ := hr.mono (by omega)
    refine ⟨_, pss_one (ps_ret (pe_callTy call_tuple_of (by rfl) mt PyProof.Rows.boot_tuple (pa_cons (pe_lc (own := [("part", 2)]) (g := gName 2) (tt := tYes) rfl scRt.nd (pi_list (pe_def DP hr1 rfl (pa_cons (pv 0) pa_nil))) (blkOk_by (N := ["thing", "floors", "part"]) (sc := defScope sRowT) (by decide +kernel)) (fun _ _ _ _ _ => (pg_name (i := 2) scRt.nd rfl (Or.inl rfl))) (fun _ _ _ _ _ => pts_nil) (fun _ _ _ _ _ => (pe_call GD hr rfl mgd kd bd .nil pass0 (pa_cons (pv 2) (pa_cons (pv 1) pa_nil))))) pa_nil))), ?_⟩
    have hsl := sizeLine_eq
    have hrow := prtW_row t
    have hrl := rowT_len (prtW t)
    rw [hrow] at hrl
    refine ⟨_, rfl, y, prtW t, rfl, by rw [hrow]; exact hy, by rw [hrow]; exact hz, fun l us H1 s1 nl hl hus => ⟨l, rfl, ⟨_, SqL.of hl⟩, fun D nD => lc_list (K := K) (a := l) (xs := us) (fun i H' => Same H1 H' ∧ ∃ vs, H' D = some (.lst vs) ∧ RwsAt K C H' vs ((rowW n t).take i)) ⟨Same.new nD, [], upd_same, by rw [List.take_zero]; rfl⟩ (fun i H' _ z => SqL.of (z.1 _ _ hl)) ?_ ?_⟩⟩
    · rintro i v H2 hv ⟨s2, vs, hD2, hvs⟩
      obtain ⟨ty, e2, y2, rfl, hy2⟩ := paired_get hus hv
      have hir := (List.getElem?_eq_some_iff.mp e2).1
      have hwl : (rowW n t).length = (prtW t).length := List.length_map ..
      have hvl := RwsAt_len _ vs hvs
      rw [List.length_take] at hvl
      have htz := prt_le hz (List.mem_of_getElem? e2)
      refine ⟨rfl, lc_yes ?_⟩
      refine ⟨_, rfl, _, rfl, n, y2, fl, ty, rfl, rfl, hy2.same s2, htz, hfl, fun p H3 s3 hp => ?_⟩
      have hD3 := s3 _ _ hD2
      have kt : KT H3 (upd H3 D (.lst (vs ++ [V.ref p]))) := KT.lst hD3
      refine ⟨vs, hD3, by omega, (s2.trans s3).set nD, vs ++ [V.ref p], upd_same, ?_⟩
      rw [take_snoc (show (rowW n t)[i]? = some (deedW n ty) by rw [rowW, List.getElem?_map, e2]; rfl)]
      exact RwsAt_snoc (RwAt_kt kt _ _ hp) _ _ (RwsAt_kt kt _ _ (RwsAt_kt (KT.of s3) _ _ hvs))
    · rintro H2 ⟨s2, vs, hD2, hvs⟩
      have hul := Paired.length hus
      have hwl : (rowW n t).length = (prtW t).length := List.length_map ..
      rw [hul, ← hwl, List.take_length] at hvs
      refine ⟨D, _, rfl, .inl ⟨SqL.of hD2, fun q nq => ?_⟩⟩
      have sq := Same.new nq (o := .tup vs)
      exact k q vs _ ((s1.trans s2).trans sq) (SqT.of upd_same) (RwsAt_kt (KT.of sq) _ _ hvs)
theorem ok_rwT0 {f : Addr} {fd : FuncData} (F : Fun K "row_told" "row_told" sRowT f fd) : FnOk P w K mg base CX0 (3 * 0 + 3) f fd ["thing", "floors"] (spRwT K C 0) := by
  refine F.ok scRt (fun vs H Q E h => ?_) (fun cdv A outer s H vs Q E hr h => ?_)
  · obtain ⟨m', y, fl, t, _, rfl, _⟩ := h
    rfl
  · obtain ⟨m', y, fl, t, h, _⟩ := h
    exact absurd h (by omega)
end
end Js

set_option Elab.async false
set_option linter.all false
set_option maxRecDepth 100000
set_option maxHeartbeats 2000000
/-! what things tell, codes or not: deeds -/
namespace Js
open PySem L2
open PySem.Spec PyProof.Rows
/-- the signs of a kind's form -/
def fW : Nat → List Nat
  | 0 => [110, 116]
  | 1 => [110, 110]
  | 2 => [110, 110]
  | 3 => [110, 110, 110]
  | 4 => [110, 110, 110]
  | 5 => [110, 114]
  | _ => [110, 114, 114]
theorem fW_form : ∀ i, i < 7 → ∃ x fo : Str, formKs[i]? = some x ∧ (x, fo) ∈ forms ∧ fo.cps.toList = fW i
  | 0, _ => ⟨_, "nt", rfl, by simp [forms], by rw [cps_nt]; rfl⟩
  | 1, _ => ⟨_, "nn", rfl, by simp [forms], by rw [cps_nn]; rfl⟩
  | 2, _ => ⟨_, "nn", rfl, by simp [forms], by rw [cps_nn]; rfl⟩
  | 3, _ => ⟨_, "nnn", rfl, by simp [forms], by rw [cps_nnn]; rfl⟩
  | 4, _ => ⟨_, "nnn", rfl, by simp [forms], by rw [cps_nnn]; rfl⟩
  | 5, _ => ⟨_, "nr", rfl, by simp [forms], by rw [cps_nr]; rfl⟩
  | 6, _ => ⟨_, "nrr", rfl, by simp [forms], by rw [cps_nrr]; rfl⟩
  | i + 7, h => absurd h (by omega)
theorem fW_len (i : Nat) : 2 ≤ (fW i).length ∧ (fW i).length ≤ 3 := by
  match i with
  | 0 => exact ⟨by decide, by decide⟩
  | 1 => exact ⟨by decide, by decide⟩
  | 2 => exact ⟨by decide, by decide⟩
  | 3 => exact ⟨by decide, by decide⟩
  | 4 => exact ⟨by decide, by decide⟩
  | 5 => exact ⟨by decide, by decide⟩
  | i + 6 => exact ⟨by show 2 ≤ 3; decide, by show 3 ≤ 3; decide⟩
theorem deedW_nil {m : Nat} {t : Tr} (h : prtW t = []) : deedW m t = .bad := by
  cases m <;> rw [deedW, h]
theorem deedW_kind {m : Nat} {t k : Tr} {ps : List Tr} (h : prtW t = k :: ps) (hk : kindW (k :: ps) = none) : deedW m t = .bad := by
  rw [kindW] at hk
  cases hc : cntW k with
  | none => cases m <;> (rw [deedW, h]; simp only [hc])
  | some i =>
    rw [hc] at hk
    have h7 : 7 ≤ i := List.getElem?_eq_none_iff.mp hk
    obtain ⟨j, rfl⟩ : ∃ j, i = j + 7 := ⟨i - 7, by omega⟩
    cases m <;> (rw [deedW, h]; simp only [hc])
theorem deedW_len {m i : Nat} {t k : Tr} {ps : List Tr} (h : prtW t = k :: ps) (hc : cntW k = some i) (h7 : i < 7) (hl : ps.length ≠ (fW i).length) : deedW m t = .bad := by
  match i, h7, hl with
  | 0, _, hl => cases m <;> (rw [deedW, h]; simp only [hc]; split <;> first | rfl | (exfalso; simp_all [fW]))
  | 1, _, hl => cases m <;> (rw [deedW, h]; simp only [hc]; split <;> first | rfl | (exfalso; simp_all [fW]))
  | 2, _, hl => cases m <;> (rw [deedW, h]; simp only [hc]; split <;> first | rfl | (exfalso; simp_all [fW]))
  | 3, _, hl => cases m <;> (rw [deedW, h]; simp only [hc]; split <;> first | rfl | (exfalso; simp_all [fW]))
  | 4, _, hl => cases m <;> (rw [deedW, h]; simp only [hc]; split <;> first | rfl | (exfalso; simp_all [fW]))
  | 5, _, hl => cases m <;> (rw [deedW, h]; simp only [hc]; try (split <;> first | rfl | (exfalso; simp_all [fW])))
  | 6, _, hl => cases m <;> (rw [deedW, h]; simp only [hc]; try (split <;> first | rfl | (exfalso; simp_all [fW])))
  | i + 7, h, _ => exact absurd h (by omega)
theorem deedW_low {i : Nat} {t k : Tr} {ps : List Tr} (h : prtW t = k :: ps) (hc : cntW k = some i) (h7 : i < 7) (hl : 114 ∈ fW i) : deedW 0 t = .bad := by
  match i, h7, hl with
  | 0, _, hl => simp [fW] at hl
  | 1, _, hl => simp [fW] at hl
  | 2, _, hl => simp [fW] at hl
  | 3, _, hl => simp [fW] at hl
  | 4, _, hl => simp [fW] at hl
  | 5, _, hl => rw [deedW, h]; try simp only [hc]
  | 6, _, hl => rw [deedW, h]; try simp only [hc]
  | i + 7, h, _ => exact absurd h (by omega)
/-- parts in their order -/
def PwIx (K : PySem.W.Frag) (C : Addr) (H : Hp) (m : Nat) (its : List V) (cs : List Nat) (ps : List Tr) : Prop := ∀ (j : Nat) (v : V), its[j]? = some v → ∃ (c : Nat) (u : Tr), cs[j]? = some c ∧ ps[j]? = some u ∧ PwAt K C H v c m u
theorem PwIx.kt {K : PySem.W.Frag} {C : Addr} {H H' : Hp} (k : KT H H') {m : Nat} {its : List V} {cs : List Nat} {ps : List Tr} (h : PwIx K C H m its cs ps) : PwIx K C H' m its cs ps := by
  intro j v hv
  obtain ⟨c, u, h1, h2, h3⟩ := h j v hv
  exact ⟨c, u, h1, h2, h3.kt k⟩
theorem PwIx.snoc {K : PySem.W.Frag} {C : Addr} {H : Hp} {m : Nat} {its : List V} {cs : List Nat} {ps : List Tr} (h : PwIx K C H m its cs ps) {x : V} {c : Nat} {u : Tr} (hc : cs[its.length]? = some c) (hu : ps[its.length]? = some u) (hx : PwAt K C H x c m u) : PwIx K C H m (its ++ [x]) cs ps := by
  intro j v hv
  by_cases q : j < its.length
  · rw [List.getElem?_append_left q] at hv
    exact h j v hv
  · rw [List.getElem?_append_right (by omega)] at hv
    have e : j - its.length = 0 := by
      have := (List.getElem?_eq_some_iff.mp hv).1
      rw [List.length_singleton] at this
      omega
    rw [e] at hv
    cases Option.some.inj hv
    have : j = its.length := by omega
    subst this
    exact ⟨c, u, hc, hu, hx⟩
section
variable {K : PySem.W.Frag} {C : Addr} {H : Hp}
theorem PwAt.n {v : V} {m : Nat} {u : Tr} (h : PwAt K C H v 110 m u) : v = nmV (cntW u) := by
  rcases h with ⟨_, e⟩ | ⟨e, _⟩ | ⟨e, _⟩
  · exact e
  · cases e
  · cases e
theorem PwAt.t {v : V} {m : Nat} {u : Tr} (h : PwAt K C H v 116 m u) : ∃ y, v = .ref y ∧ Th C H y u ∧ u.size ≤ 4000 := by
  rcases h with ⟨e, _⟩ | ⟨_, e⟩ | ⟨e, _⟩
  · cases e
  · exact e
  · cases e
theorem PwAt.r {v : V} {m : Nat} {u : Tr} (h : PwAt K C H v 114 m u) : ∃ m' q vs, m = m' + 1 ∧ v = .ref q ∧ SqT K H q vs ∧ RwsAt K C H vs (rowW m' u) := by
  rcases h with ⟨e, _⟩ | ⟨e, _⟩ | ⟨_, e⟩
  · cases e
  · cases e
  · exact e
theorem PwIx.at {m : Nat} {its : List V} {cs : List Nat} {ps : List Tr} (h : PwIx K C H m its cs ps) {j : Nat} {v : V} {c : Nat} {u : Tr} (hv : its[j]? = some v) (hc : cs[j]? = some c) (hu : ps[j]? = some u) : PwAt K C H v c m u := by
  obtain ⟨c', u', h1, h2, h3⟩ := h j v hv
  rw [hc] at h1
  rw [hu] at h2
  cases Option.some.inj h1
  cases Option.some.inj h2
  exact h3
theorem two_of {α : Type} : ∀ {l : List α}, l.length = 2 → ∃ a b, l = [a, b]
  | [a, b], _ => ⟨a, b, rfl⟩
theorem three_of {α : Type} : ∀ {l : List α}, l.length = 3 → ∃ a b c, l = [a, b, c]
  | [a, b, c], _ => ⟨a, b, c, rfl⟩
/-- a deed from its parts -/
theorem deed_join {m i p : Nat} {t k : Tr} {ps : List Tr} {its : List V} {x : Str} (hL : prtW t = k :: ps) (hc : cntW k = some i) (h7 : i < 7) (hx : formKs[i]? = some x) (hl : ps.length = (fW i).length) (hil : its.length = (fW i).length) (hm : 114 ∈ fW i → 1 ≤ m) (hp : SqT K H p (.str x :: its)) (h : PwIx K C H m its (fW i) ps) : RwAt K C H (.ref p) (deedW m t) := by
  match i, h7 with
  | 0, _ =>
    obtain ⟨a, b, rfl⟩ := two_of hl
    obtain ⟨v, u, rfl⟩ := two_of hil
    cases Option.some.inj hx
    have h0 := (h.at (j := 0) rfl rfl rfl : PwAt K C H v 110 m a).n
    obtain ⟨y, e, h1, h2⟩ := (h.at (j := 1) rfl rfl rfl : PwAt K C H u 116 m b).t
    subst h0 e
    have e2 : deedW m t = .told (cntW a) b := by cases m <;> (rw [deedW, hL]; simp only [hc])
    rw [e2, RwAt]
    exact ⟨p, y, rfl, hp, h1, h2⟩
  | 1, _ =>
    obtain ⟨a, b, rfl⟩ := two_of hl
    obtain ⟨v, u, rfl⟩ := two_of hil
    cases Option.some.inj hx
    have h0 := (h.at (j := 0) rfl rfl rfl : PwAt K C H v 110 m a).n
    have h1 := (h.at (j := 1) rfl rfl rfl : PwAt K C H u 110 m b).n
    subst h0 h1
    have e2 : deedW m t = .take false (cntW a) (cntW b) := by cases m <;> (rw [deedW, hL]; simp only [hc])
    rw [e2, RwAt]
    exact ⟨p, rfl, hp⟩
  | 2, _ =>
    obtain ⟨a, b, rfl⟩ := two_of hl
    obtain ⟨v, u, rfl⟩ := two_of hil
    cases Option.some.inj hx
    have h0 := (h.at (j := 0) rfl rfl rfl : PwAt K C H v 110 m a).n
    have h1 := (h.at (j := 1) rfl rfl rfl : PwAt K C H u 110 m b).n
    subst h0 h1
    have e2 : deedW m t = .take true (cntW a) (cntW b) := by cases m <;> (rw [deedW, hL]; simp only [hc])
    rw [e2, RwAt]
    exact ⟨p, rfl, hp⟩
  | 3, _ =>
    obtain ⟨a, b, c, rfl⟩ := three_of hl
    obtain ⟨v, u, z, rfl⟩ := three_of hil
    cases Option.some.inj hx
    have h0 := (h.at (j := 0) rfl rfl rfl : PwAt K C H v 110 m a).n
    have h1 := (h.at (j := 1) rfl rfl rfl : PwAt K C H u 110 m b).n
    have h2 := (h.at (j := 2) rfl rfl rfl : PwAt K C H z 110 m c).n
    subst h0 h1 h2
    have e2 : deedW m t = .two false (cntW a) (cntW b) (cntW c) := by cases m <;> (rw [deedW, hL]; simp only [hc])
    rw [e2, RwAt]
    exact ⟨p, rfl, hp⟩
  | 4, _ =>
    obtain ⟨a, b, c, rfl⟩ := three_of hl
    obtain ⟨v, u, z, rfl⟩ := three_of hil
    cases Option.some.inj hx
    have h0 := (h.at (j := 0) rfl rfl rfl : PwAt K C H v 110 m a).n
    have h1 := (h.at (j := 1) rfl rfl rfl : PwAt K C H u 110 m b).n
    have h2 := (h.at (j := 2) rfl rfl rfl : PwAt K C H z 110 m c).n
    subst h0 h1 h2
    have e2 : deedW m t = .two true (cntW a) (cntW b) (cntW c) := by cases m <;> (rw [deedW, hL]; simp only [hc])
    rw [e2, RwAt]
    exact ⟨p, rfl, hp⟩
  | 5, _ =>
    obtain ⟨a, b, rfl⟩ := two_of hl
    obtain ⟨v, u, rfl⟩ := two_of hil
    cases Option.some.inj hx
    have h0 := (h.at (j := 0) rfl rfl rfl : PwAt K C H v 110 m a).n
    obtain ⟨m', q, ws, rfl, e, h1, h2⟩ := (h.at (j := 1) rfl rfl rfl : PwAt K C H u 114 m b).r
    subst h0 e
    have e2 : deedW (m' + 1) t = .wh (cntW a) (rowW m' b) := by rw [deedW, hL]; simp only [hc]; rfl
    rw [e2, RwAt]
    exact ⟨p, q, ws, rfl, hp, h1, h2⟩
  | 6, _ =>
    obtain ⟨a, b, c, rfl⟩ := three_of hl
    obtain ⟨v, u, z, rfl⟩ := three_of hil
    cases Option.some.inj hx
    have h0 := (h.at (j := 0) rfl rfl rfl : PwAt K C H v 110 m a).n
    obtain ⟨m', q, ws, rfl, e, h1, h2⟩ := (h.at (j := 1) rfl rfl rfl : PwAt K C H u 114 m b).r
    obtain ⟨m2, q2, ws2, em, e3, h3, h4⟩ := (h.at (j := 2) rfl rfl rfl : PwAt K C H z 114 (m' + 1) c).r
    obtain rfl : m' = m2 := by omega
    subst h0 e e3
    have e2 : deedW (m' + 1) t = .iff (cntW a) (rowW m' b) (rowW m' c) := by rw [deedW, hL]; simp only [hc]; rfl
    rw [e2, RwAt]
    exact ⟨p, q, ws, q2, ws2, rfl, hp, h1, h2, h3, h4⟩
  | i + 7, h => exact absurd h (by omega)
end
section
variable {P : Program} {w : World} {K : PySem.W.Frag} {mg : Str → Option Value} {base : Heap} {C CP fI fP : Addr} {fdI fdP : FuncData}
theorem ok_ddT {f fP' : Addr} {fd fdP' : FuncData} {n : Nat} (F : Fun K "deed_told" "deed_told" sDeedT f fd) (B : Blt mg) (G : FrmC K w mg) (DP : Def P w K mg base "parts" 1 ["thing"] (spParts C)) (DK : Def P w K mg base "kind_told" 2 ["told"] (spKindW C)) (GP : FnOk P w K mg base CX0 (3 * n + 4) fP' fdP' ["part", "sign", "floors"] (spPartW K C n)) (mgp : mg "part_told" = some (.ref fP')) (kp : PySem.W.keepIn K (.ref fP') = true) (bp : Binds K fdP' ["part", "sign", "floors"] []) : FnOk P w K mg base CX0 (3 * n + 5) f fd ["code", "floors"] (spDdT K C (n + 1)) := by
  obtain ⟨dF, es, nF, mF, kdd, hk⟩ := G.ex
  obtain ⟨tM, mM3⟩ := G.mF
  refine F.ok scDt (fun vs H Q E h => ?_) (fun cdv A outer s H vs Q E hr h => ?_)
  · obtain ⟨m', y, fl, t, _, rfl, _⟩ := h
    rfl
  · obtain ⟨m', y, fl, t, em, rfl, hy, hz, hfl, k⟩ := h
    obtain rfl : n = m' := by omega
    have hr1 : Room 1 _ := hr.mono (by omega)
    have hr2 : Room 2 _ := hr.mono (by omega)
    have hr0 : Room (3 * n + 4) _ := hr
    refine ⟨_, pss_cons (ps_set (i := 2) scDt.nd rfl (Or.inl rfl) (pe_def DP hr1 rfl (pa_cons (pv 0) pa_nil))) (pss_cons (ps_set (i := 3) scDt.nd rfl (Or.inl rfl) (pe_def DK hr2 rfl (pa_cons (pv 2) pa_nil))) (pss_cons (ps_if (PW.pt (pw_or (pt_cmp (pc_isN (pv 3))) (pw_or1 (pt_cmpR op_ne (pe_callB call_len_seq (by rfl) B.len PySem.boot_len (pa_cons (pv 2) pa_nil)) (pe_op op_add pe_int (pe_callB call_len_str (by rfl) B.len PySem.boot_len (pa_cons (pe_ix (r := rIxD K w) ix_kdict (pe_glob (v := .ref dF) rfl mF rfl) (pv 3) (fun _ _ => rfl)) pa_nil))) (nomark _))))) (pss_one (ps_ret (pe_tup pa_nil))) pss_nil) (pss_cons (ps_if (PW.pt (pw_and (pt_cmpR op_inS pe_str (pe_ix (r := rIxD K w) ix_kdict (pe_glob (v := .ref dF) rfl mF rfl) (pv 3) (fun _ _ => rfl)) rfl) (pw_and1 (pt_cmpR op_eq (pv 1) (pe_glob (v := .int 8) rfl mM3 ⟨_, rfl⟩) (nomark _))))) (pss_one (ps_ret (pe_tup pa_nil))) pss_nil) (pss_cons (ps_setLc (i := 4) (own := [("part", 5), ("sign", 6)]) (g := gTup K 2 (gCons (gName 5) (gCons (gName 6) gNil))) (tt := tYes) rfl scDt.nd rfl rfl (sw_true rfl rfl rfl (by decide +kernel)) (pi_zipLS rfl G.mz (pa_cons (pe_slice sl_list (pv 2) (po_some pe_int) po_none) (pa_cons (pe_ix (r := rIxD K w) ix_kdict (pe_glob (v := .ref dF) rfl mF rfl) (pv 3) (fun _ _ => rfl)) pa_nil))) (blkOk_by (N := ["code", "floors", "told", "kind", "inner", "part", "sign"]) (sc := defScope sDeedT) (by decide +kernel)) (fun _ _ _ _ _ => (by exact (pg_tup rfl (pgs_cons (pg_name (i := 5) scDt.nd rfl (Or.inl rfl)) (pgs_cons (pg_name (i := 6) scDt.nd rfl (Or.inl rfl)) pgs_nil))))) (fun _ _ _ _ _ => pts_nil) (fun _ _ _ _ _ => (pe_call GP hr0 rfl mgp kp bp .nil pass0 (pa_cons (pv 5) (pa_cons (pv 6) (pa_cons (pv 1) pa_nil)))))) (pss_one (ps_ret (pe_tup (pa_cons (pv 3) (StX.pa_star (pv 4) pa_nil))))))))), ?_⟩
    have hsl := sizeLine_eq
    have hrow := prtW_row t
    have hpz : ∀ x ∈ prtW t, x.size ≤ 4000 := fun x hx => prt_le hz hx
    have bad : ∀ {G : Hp}, Same H G → deedW n t = .bad → ∀ T, G T = none → Q (.ref T) (upd G T (.tup [])) := fun {G} s e T nT => k T _ (s.trans (Same.new nT)) (by rw [e, RwAt]; exact ⟨T, rfl, SqT.of upd_same⟩)
    refine ⟨_, rfl, y, prtW t, rfl, by rw [hrow]; exact hy, by rw [hrow]; exact hz, fun l us H1 s1 nl hl hus => ?_⟩
    refine ⟨_, rfl, l, us, _, rfl, hl, hus, fun H2 s2 => ?_⟩
    have hl2 := s2 _ _ hl
    have hus2 := ths_kt (KT.of s2) hus
    have s02 := s1.trans s2
    have hul := Paired.length hus
    generalize hL : prtW t = L at hus2 hul hpz
    cases hkw : kindW L with
    | none =>
      refine ⟨_, rfl, _, rfl, iteT (iteT ?_)⟩
      have e : deedW n t = .bad := by
        cases L with
        | nil => exact deedW_nil hL
        | cons x ps => exact deedW_kind hL hkw
      exact ⟨Nat.zero_le _, fun T nT => bad s02 e T nT⟩
    | some x =>
      obtain ⟨kk, ps, rfl⟩ : ∃ kk ps, L = kk :: ps := by
        cases L with
        | nil => rw [kindW] at hkw; cases hkw
        | cons a b => exact ⟨a, b, rfl⟩
      obtain ⟨i, hc, hx⟩ : ∃ i, cntW kk = some i ∧ formKs[i]? = some x := by
        rw [kindW] at hkw
        cases hc : cntW kk with
        | none => rw [hc] at hkw; cases hkw
        | some i => rw [hc] at hkw; exact ⟨i, rfl, hkw⟩
      have h7 : i < 7 := (List.getElem?_eq_some_iff.mp hx).1
      obtain ⟨x', fo, hx', hfo, hcps⟩ := fW_form i h7
      rw [hx] at hx'
      cases Option.some.inj hx'
      obtain ⟨tk, hkf⟩ := hk _ hfo
      have hfol : fo.length = (fW i).length := by
        have e := congrArg List.length hcps
        rw [Array.length_toList] at e
        exact e
      have hf3 := fW_len i
      rw [List.length_cons] at hul
      refine ⟨_, rfl, _, rfl, ?_⟩
      rw [show decide (strO (some x) = V.non) = false from decide_eq_false (fun e => nomatch e)]
      refine iteF ?_
      refine ⟨_, rfl, l, us, rfl, .inl (SqL.of hl2), _, rfl, dF, _, .str fo, rfl, rfl, ⟨es, nF, _, kdd.at_, kdd.lit, hkf, ⟨_, rfl⟩⟩, fo, rfl, by omega, _, _, rfl, rfl, rfl, _, rfl, ?_⟩
      by_cases hlen : ps.length = (fW i).length
      rotate_left
      · rw [show (!decide (V.int ((us.length : Nat) : Int) = V.int (1 + ((fo.length : Nat) : Int)))) = true by
          rw [decide_eq_false (fun e => hlen (by injection e with e; omega))]; rfl]
        exact iteT ⟨Nat.zero_le _, fun T nT => bad s02 (deedW_len hL hc h7 hlen) T nT⟩
      rw [show ((us.length : Nat) : Int) = 1 + ((fo.length : Nat) : Int) by omega, decide_eq_true rfl]
      refine iteF ?_
      refine ⟨_, rfl, dF, _, .str fo, rfl, rfl, ⟨es, nF, _, kdd.at_, kdd.lit, hkf, ⟨_, rfl⟩⟩, 114, fo, congrArg V.str s_r.symm, rfl, _, rfl, ?_⟩
      by_cases hlow : 114 ∈ fW i ∧ n = 0
      · obtain ⟨h114, rfl⟩ := hlow
        rw [show decide (114 ∈ fo.cps.toList) = true from decide_eq_true (by rw [hcps]; exact h114)]
        refine iteT ?_
        refine ⟨_, rfl, rfl, _, rfl, ?_⟩
        rw [decide_eq_true (show V.int ((fl : Nat) : Int) = V.int 8 by rw [show fl = 8 by omega]; rfl)]
        exact iteT ⟨Nat.zero_le _, fun T nT => bad s02 (deedW_low hL hc h7 h114) T nT⟩
      have hm1 : 114 ∈ fW i → 1 ≤ n := fun h => by
        by_cases q : n = 0
        · exact absurd ⟨h, q⟩ hlow
        · omega
      refine ite_both ?_ fun hb hc' => ?_
      rotate_left
      · have h1 := hm1 (by rw [← hcps]; exact of_decide_eq_true hb)
        refine ⟨_, rfl, rfl, _, rfl, ?_⟩
        rw [decide_eq_false (show ¬ V.int ((fl : Nat) : Int) = V.int 8 from fun e => by injection e with e; omega)]
        exact iteF hc'
      cases hus2 with
      | cons hx2 hts =>
        rename_i x0 xs0
        have htl := Paired.length hts
        refine ⟨_, rfl, _, rfl, l, _, rfl, SqL.of hl2, fun q nq => ?_⟩
        rw [cut1]
        have sq := Same.new nq (o := .lst xs0)
        have eq : (upd H2 q (.lst xs0)) q = some (.lst xs0) := upd_same
        revert sq eq
        generalize upd H2 q (.lst xs0) = H3
        intro sq eq
        have hfsz : fo.cps.size = (fW i).length := hfol
        refine ⟨_, rfl, dF, _, .str fo, rfl, rfl, ⟨es, nF, _, kdd.at_, kdd.lit, hkf, ⟨_, rfl⟩⟩, q, _, xs0, rfl, SqL.of eq, fun D nD => lc_it (n := xs0.length) (walk_zipLS (K := K) (a := q) (t := fo) (xs := xs0) (by rw [hfsz, htl, hlen, Nat.min_self])) (fun i' H' => Same H3 H' ∧ ∃ its, H' D = some (.lst its) ∧ its.length = i' ∧ PwIx K C H' n its (fW i) ps) ⟨Same.new nD, [], upd_same, rfl, fun j v e => by cases e⟩ (fun i' H' _ z => SqL.of (z.1 _ _ eq)) ?_ ?_⟩
        · rintro i' v H4 H5 hi ⟨s4, its, hD4, hil, hits⟩ ⟨T, x', c, rfl, nT, rfl, hxi, hci⟩
          have sT := Same.new nT (o := .tup [x', .str ⟨#[c]⟩])
          have eT : (upd H4 T (.tup [x', .str ⟨#[c]⟩])) T = some (.tup [x', .str ⟨#[c]⟩]) := upd_same
          revert sT eT
          generalize upd H4 T (.tup [x', .str ⟨#[c]⟩]) = H6
          intro sT eT
          have hcs : (fW i)[i']? = some c := by
            have e1 : fo.cps.toList[i']? = some c := by simpa using hci
            rw [hcps] at e1
            exact e1
          obtain ⟨ty, e2, y2, rfl, hy2⟩ := paired_get hts hxi
          have htz : ty.size ≤ 4000 := hpz ty (List.mem_cons_of_mem _ (List.mem_of_getElem? e2))
          have hcv : c = 110 ∨ c = 116 ∨ (c = 114 ∧ 1 ≤ n ∧ fl + n = 8) := by
            have hmem := List.mem_of_getElem? hcs
            have hall : c = 110 ∨ c = 116 ∨ c = 114 := by
              match i, h7, hmem with
              | 0, _, hmem => simp [fW] at hmem; omega
              | 1, _, hmem => simp [fW] at hmem; omega
              | 2, _, hmem => simp [fW] at hmem; omega
              | 3, _, hmem => simp [fW] at hmem; omega
              | 4, _, hmem => simp [fW] at hmem; omega
              | 5, _, hmem => simp [fW] at hmem; omega
              | 6, _, hmem => simp [fW] at hmem; omega
              | j + 7, h, _ => exact absurd h (by omega)
            rcases hall with e | e | e
            · exact .inl e
            · exact .inr (.inl e)
            · exact .inr (.inr ⟨e, hm1 (by rw [← e]; exact hmem), hfl⟩)
          have s26 := (sq.trans s4).trans sT
          refine ⟨T, _, rfl, SqT.of eT, rfl, _, _, rfl, _, _, rfl, rfl, rfl, lc_yes ?_⟩
          refine ⟨_, rfl, _, rfl, _, rfl, y2, c, fl, ty, rfl, hy2.same s26, htz, hcv, fun x2 H7 s7 hx7 => ?_⟩
          have hD7 := s7 _ _ (sT _ _ hD4)
          have hii := (List.getElem?_eq_some_iff.mp hcs).1
          have kt : KT H7 (upd H7 D (.lst (its ++ [x2]))) := KT.lst hD7
          subst hil
          refine ⟨its, hD7, by omega, ((s4.trans sT).trans s7).set nD, its ++ [x2], upd_same, by rw [List.length_append, List.length_singleton], ?_⟩
          exact ((hits.kt (KT.of (sT.trans s7))).kt kt).snoc hcs e2 (hx7.kt kt)
        · rintro H4 ⟨s4, its, hD4, hil, hits⟩
          refine ⟨_, rfl, _, rfl, D, _, rfl, .inr (SqL.of hD4), by rw [List.append_nil, List.length_cons]; omega, fun T2 nT2 => ?_⟩
          rw [List.append_nil]
          have s10 := Same.new nT2 (o := .tup (V.str x :: its))
          exact k T2 _ (((s02.trans sq).trans s4).trans s10) (deed_join hL hc h7 hx hlen (by omega) hm1 (SqT.of upd_same) (hits.kt (KT.of s10)))
theorem ok_toldsW {fR fD fQ : Addr} {fdR fdD fdQ : FuncData} (FR : Fun K "row_told" "row_told" sRowT fR fdR) (FD : Fun K "deed_told" "deed_told" sDeedT fD fdD) (FP : Fun K "part_told" "part_told" sPartT fQ fdQ) (B : Blt mg) (G : FrmC K w mg) (DC : Def P w K mg base "counted" 1 ["thing"] (spCountW C)) (DP : Def P w K mg base "parts" 1 ["thing"] (spParts C)) (DK : Def P w K mg base "kind_told" 2 ["told"] (spKindW C))
    (mgr : mg "row_told" = some (.ref fR)) (br : Binds K fdR ["thing", "floors"] []) (mgd : mg "deed_told" = some (.ref fD)) (bd : Binds K fdD ["code", "floors"] []) (mgp : mg "part_told" = some (.ref fQ)) (bp : Binds K fdQ ["part", "sign", "floors"] []) : ∀ n, FnOk P w K mg base CX0 (3 * n + 3) fR fdR ["thing", "floors"] (spRwT K C n)
  | 0 => ok_rwT0 FR
  | n + 1 => ok_rwT FR G.mt DP (ok_ddT FD B G DP DK (ok_partW FP DC (ok_toldsW FR FD FP B G DC DP DK mgr br mgd bd mgp bp n) mgr FR.kp br) mgp FP.kp bp) mgd FD.kp bd
end
end Js

set_option Elab.async false
set_option linter.all false
set_option maxRecDepth 100000
set_option maxHeartbeats 2000000
/-! whether what stands has the form of a deed -/
namespace Js
open PySem L2
open PySem.Spec PyProof.Rows
def kxW : Rw → Nat
  | .bad => 0
  | .told _ _ => 0
  | .take s _ _ => if s then 2 else 1
  | .two s _ _ _ => if s then 4 else 3
  | .wh _ _ => 5
  | .iff _ _ _ => 6
def bsW : Rw → List Bool
  | .bad => []
  | .told a _ => [(nmW a).isSome, true]
  | .take _ a b => [(nmW a).isSome, (nmW b).isSome]
  | .two _ a b c => [(nmW a).isSome, (nmW b).isSome, (nmW c).isSome]
  | .wh a _ => [(nmW a).isSome, true]
  | .iff a _ _ => [(nmW a).isSome, true, true]
/-- whether it has the form of a deed -/
def formB : Rw → Bool
  | .bad => false
  | x => (bsW x).all id
def FitsW (K : PySem.W.Frag) (C : Addr) (H : Hp) (x : V) (c : Nat) (b : Bool) : Prop := (c = 110 ∧ ∃ o, x = nmV o ∧ b = (nmW o).isSome) ∨ (c = 116 ∧ b = true ∧ ∃ a t, x = .ref a ∧ Th C H a t) ∨ (c = 114 ∧ b = true ∧ ∃ q vs, x = .ref q ∧ SqT K H q vs)
theorem FitsW.same {K : PySem.W.Frag} {C : Addr} {H H' : Hp} (s : Same H H') {x : V} {c : Nat} {b : Bool} (h : FitsW K C H x c b) : FitsW K C H' x c b := by
  rcases h with h | ⟨e, eb, a, t, e2, h⟩ | ⟨e, eb, q, vs, e2, h⟩
  · exact .inl h
  · exact .inr (.inl ⟨e, eb, a, t, e2, h.same s⟩)
  · exact .inr (.inr ⟨e, eb, q, vs, e2, sqt_kt (KT.of s) h⟩)
theorem shapeW {K : PySem.W.Frag} {C : Addr} {H : Hp} {v : V} : ∀ (x : Rw), RwAt K C H v x → x ≠ .bad → ∃ (p : Addr) (k : Str) (its : List V), v = .ref p ∧ SqT K H p (.str k :: its) ∧ kxW x < 7 ∧ formKs[kxW x]? = some k ∧ its.length = (fW (kxW x)).length ∧ (bsW x).length = its.length ∧ formB x = (bsW x).all id ∧
    ∀ (i : Nat) (y : V) (c : Nat), its[i]? = some y → (fW (kxW x))[i]? = some c → ∃ b, (bsW x)[i]? = some b ∧ FitsW K C H y c b
  | .bad, _, h => absurd rfl h
  | .told a t, h, _ => by
    rw [RwAt] at h
    obtain ⟨p, x, e, h1, h2, h3⟩ := h
    refine ⟨p, _, _, e, h1, by simp [kxW], rfl, rfl, rfl, rfl, fun i y c g1 g2 => ?_⟩
    match i, g1, g2 with
    | 0, g1, g2 => cases Option.some.inj g1; cases Option.some.inj g2; exact ⟨_, rfl, .inl ⟨rfl, a, rfl, rfl⟩⟩
    | 1, g1, g2 => cases Option.some.inj g1; cases Option.some.inj g2; exact ⟨_, rfl, .inr (.inl ⟨rfl, rfl, x, t, rfl, h2⟩)⟩
    | i + 2, g1, g2 => simp at g1
  | .take s a b, h, _ => by
    rw [RwAt] at h
    obtain ⟨p, e, h1⟩ := h
    refine ⟨p, takeS s, _, e, h1, by cases s <;> simp [kxW], by cases s <;> rfl, by cases s <;> rfl, rfl, rfl, fun i y c g1 g2 => ?_⟩
    have g2 : ([110, 110] : List Nat)[i]? = some c := by cases s <;> exact g2
    match i, g1, g2 with
    | 0, g1, g2 => cases Option.some.inj g1; cases Option.some.inj g2; exact ⟨_, rfl, .inl ⟨rfl, a, rfl, rfl⟩⟩
    | 1, g1, g2 => cases Option.some.inj g1; cases Option.some.inj g2; exact ⟨_, rfl, .inl ⟨rfl, b, rfl, rfl⟩⟩
    | i + 2, g1, g2 => simp at g1
  | .two s a b d, h, _ => by
    rw [RwAt] at h
    obtain ⟨p, e, h1⟩ := h
    refine ⟨p, twoS s, _, e, h1, by cases s <;> simp [kxW], by cases s <;> rfl, by cases s <;> rfl, rfl, rfl, fun i y c g1 g2 => ?_⟩
    have g2 : ([110, 110, 110] : List Nat)[i]? = some c := by cases s <;> exact g2
    match i, g1, g2 with
    | 0, g1, g2 => cases Option.some.inj g1; cases Option.some.inj g2; exact ⟨_, rfl, .inl ⟨rfl, a, rfl, rfl⟩⟩
    | 1, g1, g2 => cases Option.some.inj g1; cases Option.some.inj g2; exact ⟨_, rfl, .inl ⟨rfl, b, rfl, rfl⟩⟩
    | 2, g1, g2 => cases Option.some.inj g1; cases Option.some.inj g2; exact ⟨_, rfl, .inl ⟨rfl, d, rfl, rfl⟩⟩
    | i + 3, g1, g2 => simp at g1
  | .wh a r, h, _ => by
    rw [RwAt] at h
    obtain ⟨p, q, ws, e, h1, h2, h3⟩ := h
    refine ⟨p, _, _, e, h1, by simp [kxW], rfl, rfl, rfl, rfl, fun i y c g1 g2 => ?_⟩
    match i, g1, g2 with
    | 0, g1, g2 => cases Option.some.inj g1; cases Option.some.inj g2; exact ⟨_, rfl, .inl ⟨rfl, a, rfl, rfl⟩⟩
    | 1, g1, g2 => cases Option.some.inj g1; cases Option.some.inj g2; exact ⟨_, rfl, .inr (.inr ⟨rfl, rfl, q, ws, rfl, h2⟩)⟩
    | i + 2, g1, g2 => simp at g1
  | .iff a r o, h, _ => by
    rw [RwAt] at h
    obtain ⟨p, q, ws, q2, ws2, e, h1, h2, h3, h4, h5⟩ := h
    refine ⟨p, _, _, e, h1, by simp [kxW], rfl, rfl, rfl, rfl, fun i y c g1 g2 => ?_⟩
    match i, g1, g2 with
    | 0, g1, g2 => cases Option.some.inj g1; cases Option.some.inj g2; exact ⟨_, rfl, .inl ⟨rfl, a, rfl, rfl⟩⟩
    | 1, g1, g2 => cases Option.some.inj g1; cases Option.some.inj g2; exact ⟨_, rfl, .inr (.inr ⟨rfl, rfl, q, ws, rfl, h2⟩)⟩
    | 2, g1, g2 => cases Option.some.inj g1; cases Option.some.inj g2; exact ⟨_, rfl, .inr (.inr ⟨rfl, rfl, q2, ws2, rfl, h4⟩)⟩
    | i + 3, g1, g2 => simp at g1
def spIsNameW : Sp := fun vs H Q _ => ∃ o, vs = [nmV o] ∧ Q (.bl (nmW o).isSome) H
def spFitsW (K : PySem.W.Frag) (C : Addr) : Sp := fun vs H Q _ => ∃ x c b, vs = [x, .str ⟨#[c]⟩] ∧ FitsW K C H x c b ∧ Q (.bl b) H
def spHasFormW (K : PySem.W.Frag) (C : Addr) : Sp := fun vs H Q _ => ∃ v x, vs = [v] ∧ RwAt K C H v x ∧ ∀ H', Same H H' → Q (.bl (formB x)) H'
section
variable {P : Program} {w : World} {K : PySem.W.Frag} {mg : Str → Option Value} {base : Heap} {C : Addr}
theorem ok_isNameW {f : Addr} {fd : FuncData} (F : Fun K "is_name" "is_name" sIsName f fd) (B : Blt mg) (T : Txt K mg C) (G : FrmC K w mg) (hni : PySem.W.kitOne K (.type "NoneType") (.type "int") = some false) : FnOk P w K mg base CX0 1 f fd ["part"] spIsNameW := by
  obtain ⟨tm, mM⟩ := G.mM
  refine F.ok scIN (fun vs H Q E h => ?_) (fun cdv A outer s H vs Q E hr h => ?_)
  · obtain ⟨o, rfl, _⟩ := h
    rfl
  · obtain ⟨o, rfl, k⟩ := h
    refine ⟨_, pss_one (ps_ret (pe_and (pe_callB (r := rIsi K) call_isi (by rfl) T.isi PyProof.Rows.boot_isinstance (pa_cons (pv 0) (pa_cons (pe_bltn (v := .ty "int") rfl B.int PyProof.Rows.boot_int rfl) pa_nil))) (pe_and (pe_not (pe_callB (r := rIsi K) call_isi (by rfl) T.isi PyProof.Rows.boot_isinstance (pa_cons (pv 0) (pa_cons (pe_bltn (v := .ty "bool") rfl G.mb PyProof.Rows.boot_bool rfl) pa_nil)))) (pe_one (pe_chain op_le op_lt pe_int (pv 0) (pe_glob (v := .int 10) rfl mM ⟨_, rfl⟩)))))), ?_⟩
    cases o with
    | none =>
      refine ⟨_, rfl, _, _, _, _, false, rfl, .ty "int", .base .non, hni, _, rfl, iteF ?_⟩
      exact k
    | some a =>
      refine ⟨_, rfl, _, _, _, _, true, rfl, .ty "int", .base (.int _), G.ii, _, rfl, iteT ?_⟩
      refine ⟨_, rfl, _, _, _, _, false, rfl, .ty "bool", .base (.int _), G.ib, _, rfl, _, rfl, iteT ?_⟩
      refine ⟨_, rfl, _, _, rfl, rfl, _, rfl, ?_⟩
      rw [decide_eq_true (show (0 : Int) ≤ ((a : Nat) : Int) by omega)]
      refine iteT ?_
      refine ⟨_, _, rfl, rfl, ?_⟩
      show Q (.bl (decide (((a : Nat) : Int) < 10))) H
      by_cases h : a < 10
      · rw [decide_eq_true (show ((a : Nat) : Int) < 10 by omega)]
        rw [nmW, if_pos h] at k
        exact k
      · rw [decide_eq_false (show ¬ ((a : Nat) : Int) < 10 by omega)]
        rw [nmW, if_neg h] at k
        exact k
theorem ok_fitsW {f : Addr} {fd : FuncData} (F : Fun K "fits" "fits" sFits f fd) (B : Blt mg) (T : Txt K mg C) (G : FrmC K w mg) (DI : Def P w K mg base "is_name" 1 ["part"] spIsNameW) : FnOk P w K mg base CX0 2 f fd ["part", "sign"] (spFitsW K C) := by
  refine F.ok scFt (fun vs H Q E h => ?_) (fun cdv A outer s H vs Q E hr h => ?_)
  · obtain ⟨x, c, b, rfl, _⟩ := h
    rfl
  · obtain ⟨x, c, b, rfl, hf, k⟩ := h
    refine ⟨_, pss_cons (ps_if (pt_cmpR op_eq (pv 1) pe_str (nomark _)) (pss_one (ps_ret (pe_def DI hr rfl (pa_cons (pv 0) pa_nil)))) pss_nil) (pss_cons (ps_if (pt_cmpR op_eq (pv 1) pe_str (nomark _)) (pss_one (ps_ret (pe_callB (r := rIsi K) call_isi (by rfl) T.isi PyProof.Rows.boot_isinstance (pa_cons (pv 0) (pa_cons (pe_glob (v := .ref C) rfl T.mgC rfl) pa_nil))))) pss_nil) (pss_one (ps_ret (pe_callB (r := rIsi K) call_isi (by rfl) T.isi PyProof.Rows.boot_isinstance (pa_cons (pv 0) (pa_cons (pe_bltn (v := .ty "tuple") rfl G.mt PyProof.Rows.boot_tuple rfl) pa_nil)))))), ?_⟩
    refine ⟨_, rfl, rfl, _, rfl, ?_⟩
    rw [c_n, sg_eq]
    rcases hf with ⟨rfl, o, rfl, rfl⟩ | ⟨rfl, rfl, a, t, rfl, ha⟩ | ⟨rfl, rfl, q, vs, rfl, hq⟩
    · rw [decide_eq_true rfl]
      refine iteT ?_
      exact ⟨_, rfl, o, rfl, k⟩
    · rw [decide_eq_false (by decide)]
      refine iteF ?_
      refine ⟨_, rfl, rfl, _, rfl, ?_⟩
      rw [c_t, sg_eq, decide_eq_true rfl]
      refine iteT ?_
      obtain ⟨dx, f1, g1, h1⟩ := ha.obj
      exact ⟨_, rfl, _, _, _, _, true, rfl, ClsV.own C, .base (.ins h1 T.cl T.ca T.cn T.ct T.cm), kit_self _ _, k⟩
    · rw [decide_eq_false (by decide)]
      refine iteF ?_
      refine ⟨_, rfl, rfl, _, rfl, ?_⟩
      rw [c_t, sg_eq, decide_eq_false (by decide)]
      refine iteF ?_
      exact ⟨_, rfl, _, _, _, _, true, rfl, .ty "tuple", sqt_ty hq, G.tt, k⟩
theorem ok_hasFormW {f : Addr} {fd : FuncData} (F : Fun K "has_form" "has_form" sHasForm f fd) (B : Blt mg) (T : Txt K mg C) (G : FrmC K w mg) (DF : Def P w K mg base "fits" 2 ["part", "sign"] (spFitsW K C)) : FnOk P w K mg base CX0 3 f fd ["deed"] (spHasFormW K C) := by
  obtain ⟨dF, es, n, mF, kd, hk⟩ := G.ex
  refine F.ok scHF (fun vs H Q E h => ?_) (fun cdv A outer s H vs Q E hr h => ?_)
  · obtain ⟨v, x, rfl, _⟩ := h
    rfl
  · obtain ⟨v, x, rfl, hd, k⟩ := h
    refine ⟨_, pss_cons (ps_if (PW.pt (pw_or (pt_not (pt_val (pe_callB (r := rIsi K) call_isi (by rfl) T.isi PyProof.Rows.boot_isinstance (pa_cons (pv 0) (pa_cons (pe_bltn (v := .ty "tuple") rfl G.mt PyProof.Rows.boot_tuple rfl) pa_nil))))) (pw_or1 (pt_cmpR op_eq (pe_callB call_len_seq (by rfl) B.len PySem.boot_len (pa_cons (pv 0) pa_nil)) pe_int (nomark _))))) (pss_one (ps_ret pe_bl)) pss_nil) (pss_cons (ps_set (i := 1) scHF.nd rfl (Or.inl rfl) (pe_ix (r := rIxT K) ix_tup (pv 0) pe_int (fun _ _ => rfl))) (pss_cons (ps_if (PW.pt (pw_or (pt_not (pt_val (pe_callB (r := rIsi K) call_isi (by rfl) T.isi PyProof.Rows.boot_isinstance (pa_cons (pv 1) (pa_cons (pe_bltn (v := .ty "str") rfl B.str PyProof.Rows.boot_str rfl) pa_nil))))) (pw_or1 (pt_cmpR (op_notIn_kd kd) (pv 1) (pe_glob (v := .ref dF) rfl mF rfl) rfl)))) (pss_one (ps_ret pe_bl)) pss_nil) (pss_cons (ps_set (i := 2) scHF.nd rfl (Or.inl rfl) (pe_ix (r := rIxD K w) ix_kdict (pe_glob (v := .ref dF) rfl mF rfl) (pv 1) (fun _ _ => rfl))) (pss_one (ps_ret (pe_and (pe_cmpR op_eq (pe_callB call_len_seq (by rfl) B.len PySem.boot_len (pa_cons (pv 0) pa_nil)) (pe_op op_add pe_int (pe_callB call_len_str (by rfl) B.len PySem.boot_len (pa_cons (pv 2) pa_nil))) (nomark _)) (pe_one (pe_callB (cr_all rfl) (by rfl) B.all (by decide +kernel) (pa_cons (pe_lc (own := [("part", 3), ("sign", 4)]) (g := gTup K 2 (gCons (gName 3) (gCons (gName 4) gNil))) (tt := tYes) rfl scHF.nd (pi_zipTS rfl G.mz (pa_cons (pe_slice sl_tup (pv 0) (po_some pe_int) po_none) (pa_cons (pv 2) pa_nil))) (blkOk_by (N := ["deed", "kind", "form", "part", "sign"]) (sc := defScope sHasForm) (by decide +kernel)) (fun _ _ _ _ _ => by exact (pg_tup rfl (pgs_cons (pg_name (i := 3) scHF.nd rfl (Or.inl rfl)) (pgs_cons (pg_name (i := 4) scHF.nd rfl (Or.inl rfl)) pgs_nil)))) (fun _ _ _ _ _ => pts_nil) (fun _ _ _ _ _ => (pe_def DF hr rfl (pa_cons (pv 3) (pa_cons (pv 4) pa_nil))))) pa_nil))))))))), ?_⟩
    have hsl := line4
    by_cases hbad : x = .bad
    · subst hbad
      rw [RwAt] at hd
      obtain ⟨p, rfl, hp⟩ := hd
      refine ⟨_, rfl, _, _, _, _, true, rfl, .ty "tuple", sqt_ty hp, G.tt, _, rfl, iteF ?_⟩
      refine ⟨_, rfl, p, _, rfl, .inr hp, rfl, _, rfl, ?_⟩
      exact iteT (k H (Same.refl H))
    obtain ⟨p, kk, its, rfl, hp, h7, hkk, hl, hbl, hfb, hall⟩ := shapeW x hd hbad
    obtain ⟨kk', fo, hk', hfo, hcps⟩ := fW_form _ h7
    rw [hkk] at hk'
    cases Option.some.inj hk'
    obtain ⟨tk, hk⟩ := hk _ hfo
    have hf3 := fW_len (kxW x)
    have hfsz : fo.cps.size = (fW (kxW x)).length := by
      have e := congrArg List.length hcps
      rw [Array.length_toList] at e
      exact e
    refine ⟨_, rfl, _, _, _, _, true, rfl, .ty "tuple", sqt_ty hp, G.tt, _, rfl, iteF ?_⟩
    refine ⟨_, rfl, p, _, rfl, .inr hp, rfl, _, rfl, ?_⟩
    have e0 : decide (V.int ((((V.str kk) :: its).length : Nat) : Int) = V.int 0) = false := by
      rw [List.length_cons]
      simp only [decide_eq_false_iff_not, V.int.injEq]
      omega
    rw [e0]
    refine iteF ?_
    refine ⟨_, rfl, p, _, 0, _, rfl, rfl, hp, at0 _ _, ?_⟩
    refine ⟨_, rfl, _, _, _, _, true, rfl, .ty "str", .base (.str _), G.ss, _, rfl, iteF ?_⟩
    refine ⟨_, rfl, _, _, rfl, rfl, hk, _, rfl, iteF ?_⟩
    refine ⟨_, rfl, dF, _, .str fo, rfl, rfl, ⟨es, n, _, kd.at_, kd.lit, hk, ⟨_, rfl⟩⟩, ?_⟩
    refine ⟨_, rfl, p, _, rfl, .inr hp, ?_⟩
    have fl : fo.length = its.length := hfsz.trans hl.symm
    refine ⟨_, rfl, fo, rfl, by omega, _, _, rfl, rfl, rfl, _, rfl, ?_⟩
    have e1 : decide (V.int ((((V.str kk) :: its).length : Nat) : Int) = V.int (1 + ((fo.length : Nat) : Int))) = true := by
      rw [List.length_cons, fl]
      simp only [decide_eq_true_eq, V.int.injEq]
      omega
    rw [e1]
    refine iteT ?_
    refine ⟨_, rfl, _, rfl, p, _, rfl, hp, ?_, fun q nq => ?_⟩
    · rintro ⟨h0, _⟩
      have e : HT.sIx (its.length + 1) 0 (some 1) = 1 := by
        show min 1 (its.length + 1) = 1
        omega
      rw [List.length_cons, e] at h0
      cases h0
    rw [cut1]
    have sq := Same.new nq (o := .tup its)
    refine ⟨_, rfl, q, _, its, rfl, SqT.of upd_same, fun D nD => lc_it (n := its.length) (walk_zipTS (K := K) (a := q) (t := fo) (xs := its) (by rw [hfsz, ← hl, Nat.min_self])) (fun i H' => Same (upd H q (.tup its)) H' ∧ SqT K H' q its ∧ H' D = some (.lst (((bsW x).take i).map .bl))) ⟨Same.new nD, SqT.of (Same.new nD _ _ upd_same), by rw [upd_same, List.take_zero]; rfl⟩ (fun i H' _ z => z.2.1) ?_ ?_⟩
    · rintro i y H1 H2 hi ⟨s1, hq1, hD1⟩ ⟨T, z, c, rfl, nT, rfl, hz, hc⟩
      have sT := Same.new nT (o := .tup [z, .str ⟨#[c]⟩])
      have hcs : (fW (kxW x))[i]? = some c := by
        have e1 : fo.cps.toList[i]? = some c := by simpa using hc
        rw [hcps] at e1
        exact e1
      obtain ⟨b, hb, hfit⟩ := hall i z c hz hcs
      have hib := (List.getElem?_eq_some_iff.mp hb).1
      refine ⟨T, _, rfl, SqT.of upd_same, rfl, _, _, rfl, _, _, rfl, rfl, rfl, lc_yes ?_⟩
      refine ⟨_, rfl, _, rfl, z, c, b, rfl, hfit.same ((sq.trans s1).trans sT), ?_⟩
      refine ⟨_, sT _ _ hD1, by rw [List.length_map, List.length_take]; omega, (s1.trans sT).set nD, ?_, ?_⟩
      · have nDq : q ≠ D := fun z => by
          rw [← z, upd_same] at nD
          cases nD
        exact sqt_kt (KT.lst (sT _ _ hD1)) (sqt_kt (KT.of sT) hq1)
      · rw [upd_same, take_snoc hb, List.map_append]
        rfl
    · rintro H1 ⟨s1, hq1, hD1⟩
      rw [show (bsW x).take its.length = bsW x by rw [← hbl, List.take_length]] at hD1
      refine ⟨D, bsW x, rfl, SqL.of hD1, ?_⟩
      rw [hfb] at k
      exact k H1 (sq.trans s1)
end
end Js

set_option Elab.async false
set_option linter.all false
set_option maxRecDepth 100000
set_option maxHeartbeats 2000000
/-! the rows of what has the form of a deed -/
namespace Js
open PySem L2
open PySem.Spec PyProof.Rows
def Rw.rows : Rw → List (List Rw)
  | .wh _ r => [r]
  | .iff _ r o => [r, o]
  | _ => []
def RowsW (K : PySem.W.Frag) (C : Addr) (H : Hp) (ws : List V) (rs : List (List Rw)) : Prop := Paired (fun v r => ∃ q us, v = .ref q ∧ SqT K H q us ∧ RwsAt K C H us r) ws rs
theorem RowsW.kt {K : PySem.W.Frag} {C : Addr} {H H' : Hp} (k : KT H H') : ∀ {ws : List V} {rs : List (List Rw)}, RowsW K C H ws rs → RowsW K C H' ws rs
  | _, _, .nil => .nil
  | _, _, .cons ⟨q, us, e, h1, h2⟩ t => .cons ⟨q, us, e, sqt_kt k h1, RwsAt_kt k _ _ h2⟩ (RowsW.kt k t)
theorem rows_lookW {K : PySem.W.Frag} {C : Addr} {H : Hp} {v : V} : ∀ (x : Rw), RwAt K C H v x → x ≠ .bad → ∃ (p : Addr) (k : Str) (y : V) (its : List V), v = .ref p ∧ SqT K H p (.str k :: y :: its) ∧ kxW x < 7 ∧ formKs[kxW x]? = some k ∧ ((114 ∈ fW (kxW x) ∧ RowsW K C H its x.rows) ∨ (¬ 114 ∈ fW (kxW x) ∧ x.rows = []))
  | .bad, _, h => absurd rfl h
  | .told a t, h, _ => by
    rw [RwAt] at h
    obtain ⟨p, x, e, h1, _⟩ := h
    exact ⟨p, _, _, _, e, h1, by simp [kxW], rfl, .inr ⟨by simp [kxW, fW], rfl⟩⟩
  | .take s a b, h, _ => by
    rw [RwAt] at h
    obtain ⟨p, e, h1⟩ := h
    exact ⟨p, takeS s, _, _, e, h1, by cases s <;> simp [kxW], by cases s <;> rfl, .inr ⟨by cases s <;> simp [kxW, fW], rfl⟩⟩
  | .two s a b c, h, _ => by
    rw [RwAt] at h
    obtain ⟨p, e, h1⟩ := h
    exact ⟨p, twoS s, _, _, e, h1, by cases s <;> simp [kxW], by cases s <;> rfl, .inr ⟨by cases s <;> simp [kxW, fW], rfl⟩⟩
  | .wh a r, h, _ => by
    rw [RwAt] at h
    obtain ⟨p, q, vs, e, h1, h2, h3⟩ := h
    exact ⟨p, _, _, _, e, h1, by simp [kxW], rfl, .inl ⟨by simp [kxW, fW], .cons ⟨q, vs, rfl, h2, h3⟩ .nil⟩⟩
  | .iff a r o, h, _ => by
    rw [RwAt] at h
    obtain ⟨p, q, vs, q2, vs2, e, h1, h2, h3, h4, h5⟩ := h
    exact ⟨p, _, _, _, e, h1, by simp [kxW], rfl, .inl ⟨by simp [kxW, fW], .cons ⟨q, vs, rfl, h2, h3⟩ (.cons ⟨q2, vs2, rfl, h4, h5⟩ .nil)⟩⟩
def spRowsInW (K : PySem.W.Frag) (C : Addr) : Sp := fun vs H Q _ => ∃ v x, vs = [v] ∧ RwAt K C H v x ∧ x ≠ .bad ∧ ∀ p ws H', Same H H' → SqT K H' p ws → RowsW K C H' ws x.rows → Q (.ref p) H'
section
variable {P : Program} {w : World} {K : PySem.W.Frag} {mg : Str → Option Value} {base : Heap} {C : Addr}
theorem ok_rowsInW {f : Addr} {fd : FuncData} (F : Fun K "rows_in" "rows_in" sRowsIn f fd) (G : FrmC K w mg) : FnOk P w K mg base CX0 1 f fd ["deed"] (spRowsInW K C) := by
  obtain ⟨dF, es, n, mF, kd, hk⟩ := G.ex
  refine F.ok scRI (fun vs H Q E h => ?_) (fun cdv A outer s H vs Q E hr h => ?_)
  · obtain ⟨v, x, rfl, _⟩ := h
    rfl
  · obtain ⟨v, x, rfl, hd, hb, k⟩ := h
    refine ⟨_, pss_one (ps_ret (pe_ifExp (pt_cmpR op_in_sign pe_str (pe_ix (r := rIxD K w) ix_kdict (pe_glob (v := .ref dF) rfl mF rfl) (pe_ix (r := rIxT K) ix_tup (pv 0) pe_int (fun _ _ => rfl)) (fun _ _ => rfl)) rfl) (pe_slice sl_tup (pv 0) (po_some pe_int) po_none) (pe_tup pa_nil))), ?_⟩
    obtain ⟨p, kk, y, its, rfl, hp, h7, hkk, hrs⟩ := rows_lookW x hd hb
    obtain ⟨kk', fo, hk', hfo, hcps⟩ := fW_form _ h7
    rw [hkk] at hk'
    cases Option.some.inj hk'
    obtain ⟨tk, hk⟩ := hk _ hfo
    have hsl := line4
    refine ⟨_, rfl, p, _, 0, _, rfl, rfl, hp, at0 _ _, dF, _, .str fo, rfl, rfl, ⟨es, n, _, kd.at_, kd.lit, hk, ⟨_, rfl⟩⟩, 114, fo, congrArg V.str c_r, rfl, _, rfl, ?_⟩
    rcases hrs with ⟨e, hrs⟩ | ⟨e, hrs⟩
    · rw [decide_eq_true (show 114 ∈ fo.cps.toList by rw [hcps]; exact e)]
      refine iteT ?_
      refine ⟨_, rfl, _, rfl, p, _, rfl, hp, ?_, fun q nq => ?_⟩
      · rintro ⟨h0, _⟩
        have e : HT.sIx (its.length + 1 + 1) 0 (some 2) = 2 := by
          show min 2 (its.length + 1 + 1) = 2
          omega
        rw [List.length_cons, List.length_cons, e] at h0
        cases h0
      rw [cut2]
      exact k q its _ (Same.new nq) (SqT.of upd_same) (hrs.kt (KT.of (Same.new nq)))
    · rw [decide_eq_false (show ¬ 114 ∈ fo.cps.toList by rw [hcps]; exact e)]
      refine iteF ?_
      refine ⟨Nat.zero_le _, fun q nq => ?_⟩
      exact k q [] _ (Same.new nq) (SqT.of upd_same) (by rw [hrs]; exact .nil)
end
end Js

set_option Elab.async false
set_option linter.all false
set_option maxRecDepth 100000
set_option maxHeartbeats 2000000
/-! what looking through a row of what is told asks -/
namespace Js
open PySem L2
open PySem.Spec PyProof.Rows
mutual
def Rw.dp : Rw → Nat
  | .wh _ r => dpW r + 1
  | .iff _ r o => max (dpW r) (dpW o) + 1
  | _ => 0
def dpW : List Rw → Nat
  | [] => 0
  | x :: l => max x.dp (dpW l)
end
theorem dpW_mem : ∀ {l : List Rw} {x : Rw}, x ∈ l → x.dp ≤ dpW l
  | y :: l, x, h => by
    rw [dpW]
    rcases List.mem_cons.mp h with e | h
    · rw [e]; omega
    · have := dpW_mem h
      omega
theorem rows_dp {x : Rw} {r : List Rw} (h : r ∈ x.rows) : dpW r < x.dp := by
  cases x with
  | wh a q =>
    rw [Rw.rows] at h
    rw [List.mem_singleton.mp h, Rw.dp]
    omega
  | iff a q o =>
    rw [Rw.rows] at h
    rw [Rw.dp]
    simp only [List.mem_cons, List.not_mem_nil, or_false] at h
    rcases h with rfl | rfl <;> omega
  | _ => simp [Rw.rows] at h
/-- deeds, one for each -/
theorem rowD_pair : ∀ {l : List Rw} {r : List Dd}, rowD l = some r → Paired (fun x d => Rw.dd x = some d) l r
  | [], r, h => by cases Option.some.inj h; exact .nil
  | x :: l, r, h => by
    obtain ⟨d, q, h1, h2, rfl⟩ := rowD_cons h
    exact .cons h1 (rowD_pair h2)
theorem pair_rowD : ∀ {l : List Rw} {r : List Dd}, Paired (fun x d => Rw.dd x = some d) l r → rowD l = some r
  | _, _, .nil => by rw [rowD]
  | _, _, .cons h t => by rw [rowD, h, pair_rowD t]
theorem pair_take {α β : Type} {R : α → β → Prop} : ∀ {l : List α} {r : List β} (i : Nat), Paired R l r → Paired R (l.take i) (r.take i)
  | _, _, _, .nil => by rw [List.take_nil, List.take_nil]; exact .nil
  | _, _, 0, .cons _ _ => by rw [List.take_zero, List.take_zero]; exact .nil
  | _, _, i + 1, .cons h t => by rw [List.take_succ_cons, List.take_succ_cons]; exact .cons h (pair_take i t)
theorem rowD_take {l : List Rw} {r : List Dd} (h : rowD l = some r) (i : Nat) : rowD (l.take i) = some (r.take i) := pair_rowD (pair_take i (rowD_pair h))
theorem rowD_at {l : List Rw} {r : List Dd} (h : rowD l = some r) {i : Nat} {x : Rw} (hx : l[i]? = some x) : ∃ d, r[i]? = some d ∧ x.dd = some d := paired_get (rowD_pair h) hx
theorem rowD_snoc {l : List Rw} {r : List Dd} {x : Rw} {d : Dd} (h : rowD l = some r) (hx : x.dd = some d) : rowD (l ++ [x]) = some (r ++ [d]) := pair_rowD (paired_app (rowD_pair h) (.cons hx .nil))
/-- a deed has the form of one -/
theorem formB_of {x : Rw} {d : Dd} (h : x.dd = some d) : formB x = true := by
  cases x with
  | bad => rw [Rw.dd] at h; cases h
  | told a t =>
    rw [Rw.dd] at h
    cases e : nmW a with
    | none => rw [e] at h; cases h
    | some n => simp [formB, bsW, e]
  | take s a b =>
    rw [Rw.dd] at h
    cases e : nmW a with
    | none => rw [e] at h; cases h
    | some n =>
      cases e2 : nmW b with
      | none => rw [e, e2] at h; cases h
      | some m => simp [formB, bsW, e, e2]
  | two s a b c =>
    rw [Rw.dd] at h
    cases e : nmW a with
    | none => rw [e] at h; cases h
    | some n =>
      cases e2 : nmW b with
      | none => rw [e, e2] at h; cases h
      | some m =>
        cases e3 : nmW c with
        | none => rw [e, e2, e3] at h; cases h
        | some k => simp [formB, bsW, e, e2, e3]
  | wh a r =>
    rw [Rw.dd] at h
    cases e : nmW a with
    | none => rw [e] at h; cases h
    | some n => simp [formB, bsW, e]
  | iff a r o =>
    rw [Rw.dd] at h
    cases e : nmW a with
    | none => rw [e] at h; cases h
    | some n => simp [formB, bsW, e]
/-- the rows of a deed are those that stand -/
theorem dd_rows {x : Rw} {d : Dd} (h : x.dd = some d) : Paired (fun l r => rowD l = some r) x.rows d.rows := by
  cases x with
  | bad => rw [Rw.dd] at h; cases h
  | told a t =>
    rw [Rw.dd] at h
    cases e : nmW a with
    | none => rw [e] at h; cases h
    | some n => rw [e] at h; cases Option.some.inj h; exact .nil
  | take s a b =>
    rw [Rw.dd] at h
    cases e : nmW a with
    | none => rw [e] at h; cases h
    | some n =>
      cases e2 : nmW b with
      | none => rw [e, e2] at h; cases h
      | some m => rw [e, e2] at h; cases Option.some.inj h; exact .nil
  | two s a b c =>
    rw [Rw.dd] at h
    cases e : nmW a with
    | none => rw [e] at h; cases h
    | some n =>
      cases e2 : nmW b with
      | none => rw [e, e2] at h; cases h
      | some m =>
        cases e3 : nmW c with
        | none => rw [e, e2, e3] at h; cases h
        | some k => rw [e, e2, e3] at h; cases Option.some.inj h; exact .nil
  | wh a r =>
    rw [Rw.dd] at h
    cases e : nmW a with
    | none => rw [e] at h; cases h
    | some n =>
      cases e2 : rowD r with
      | none => rw [e, e2] at h; cases h
      | some q => rw [e, e2] at h; cases Option.some.inj h; exact .cons e2 .nil
  | iff a r o =>
    rw [Rw.dd] at h
    cases e : nmW a with
    | none => rw [e] at h; cases h
    | some n =>
      cases e2 : rowD r with
      | none => rw [e, e2] at h; cases h
      | some q =>
        cases e3 : rowD o with
        | none => rw [e, e2, e3] at h; cases h
        | some p => rw [e, e2, e3] at h; cases Option.some.inj h; exact .cons e2 (.cons e3 .nil)
theorem paired_1 {α β : Type} {R : α → β → Prop} {a : α} {l : List β} (h : Paired R [a] l) : ∃ b, l = [b] ∧ R a b := by
  cases h with
  | cons h t => cases t; exact ⟨_, rfl, h⟩
theorem paired_2 {α β : Type} {R : α → β → Prop} {a c : α} {l : List β} (h : Paired R [a, c] l) : ∃ b d, l = [b, d] ∧ R a b ∧ R c d := by
  cases h with
  | cons h t =>
    obtain ⟨d, rfl, h2⟩ := paired_1 t
    exact ⟨_, d, rfl, h, h2⟩
/-- what has the form and whose rows are good is a deed -/
theorem dd_of {x : Rw} {rs : List (List Dd)} (hf : formB x = true) (h : Paired (fun l r => rowD l = some r) x.rows rs) : ∃ d, x.dd = some d ∧ d.rows = rs := by
  cases x with
  | bad => cases hf
  | told a t =>
    cases h
    cases e : nmW a with
    | none => simp [formB, bsW, e] at hf
    | some n => exact ⟨.told n t, by rw [Rw.dd, e], rfl⟩
  | take s a b =>
    cases h
    cases e : nmW a with
    | none => simp [formB, bsW, e] at hf
    | some n =>
      cases e2 : nmW b with
      | none => simp [formB, bsW, e2] at hf
      | some m => exact ⟨.take s n m, by rw [Rw.dd, e, e2], rfl⟩
  | two s a b c =>
    cases h
    cases e : nmW a with
    | none => simp [formB, bsW, e] at hf
    | some n =>
      cases e2 : nmW b with
      | none => simp [formB, bsW, e2] at hf
      | some m =>
        cases e3 : nmW c with
        | none => simp [formB, bsW, e3] at hf
        | some k => exact ⟨.two s n m k, by rw [Rw.dd, e, e2, e3], rfl⟩
  | wh a r =>
    obtain ⟨q, rfl, h1⟩ := paired_1 h
    cases e : nmW a with
    | none => simp [formB, bsW, e] at hf
    | some n => exact ⟨.wh n q, by rw [Rw.dd, e, h1], rfl⟩
  | iff a r o =>
    obtain ⟨q, p, rfl, h1, h2⟩ := paired_2 h
    cases e : nmW a with
    | none => simp [formB, bsW, e] at hf
    | some n => exact ⟨.iff n q p, by rw [Rw.dd, e, h1, h2], rfl⟩
/-- a good row that fits: in f floors, behind l deeds -/
def okRow (rws : List Rw) (f l : Nat) (r : List Dd) : Prop := rowD rws = some r ∧ f + deepR r ≤ 8 ∧ l + manyR r ≤ 4000
end Js

set_option Elab.async false
set_option linter.all false
set_option maxRecDepth 100000
set_option maxHeartbeats 2000000
namespace Js
open PySem L2
theorem nat_log (n : Nat) (h : n ≤ 1000000) : ((n : Nat) : Int).natAbs.log2 < 1920 := by
  rw [Int.natAbs_natCast]
  by_cases h0 : n = 0
  · subst h0; decide
  · exact Nat.lt_of_lt_of_le ((Nat.log2_lt h0).mpr (show n < 2 ^ 20 by omega)) (by decide)
/-! ### isinstance of a caught one -/
section
variable {X : Cx} {a D : Addr} {oe : Obj} {pn : List (Addr × Obj)} {d : Option Addr} {cls : Value}
def rIsX (K : PySem.W.Frag) (D a : Addr) (cls : Value) (d : Option Addr) : List V → Hp → VK → Prop := fun xs H Q => ∃ (c : V) (cv : Value) (b : Bool) (dd : Addr) (fs : List (Str × V)), xs = [.ref a, c] ∧ ClsV c cv ∧ cls = .ref D ∧ d = some dd ∧ H dd = some (.xd fs) ∧ PySem.W.kitOne K (.ref D) cv = some b ∧ Q (.bl b) H
theorem inst_x {s : Shared} {H : Hp} {dd : Addr} {fs : List (Str × V)} {pins : List (Addr × Obj)} {σ : St} (I : Inv (X.suite a ((a, oe) :: pn)) pins σ H s) (hz : Zc (.ref D) d oe) (hf : ∃ vs, oe.data = .fields vs) (e1 : d = some dd) (e2 : H dd = some (.xd fs)) : ∃ od, PySem.W.InstAt s.heap a oe D (some od) := by
  subst e1
  obtain ⟨hget, _⟩ := I.pin (a, oe) (List.mem_append_left _ List.mem_cons_self)
  obtain ⟨vs, hd⟩ := hf
  have hx : ObjOk X.prog X.w H s.heap dd (.xd fs) := I.hok dd _ e2
  obtain ⟨mA, hns, hr⟩ := hx
  obtain ⟨od, ho, hl⟩ := lookIn_ns hns
  exact ⟨od, hget, hz.1, by unfold PySem.W.notCls; rw [hd] <;> rfl, by rw [hz.2]; exact ho⟩
/-- what the class says, so that isinstance asks its instances rightly -/
structure XcC (K : PySem.W.Frag) (D : Addr) : Prop where
  hc : (PySem.W.clsIn K D).isSome = true
  hg : PySem.W.findIn K (.ref D) "__getattribute__" = some (some (.builtin "BaseException.__getattribute__"))
  hk : PySem.W.findIn K (.ref D) "__getattr__" = some none
  hs : PySem.W.subIn K (.ref D) (.type "BaseException") = some true
  ha : PySem.W.findIn K (.ref D) "__class__" = some (some (.builtin "object.__class__"))
  hn : PySem.W.specialIn K (.builtin "object.__class__") "__get__" = some (some (.builtin "getset_descriptor.__get__"))
  ht : PySem.W.takesIn K (.builtin "object.__class__") = some true
  hm : PySem.W.mroIn K D (.type "object") = some true
theorem call_isX (C : XcC X.K D) (hz : Zc cls d oe) (hf : ∃ vs, oe.data = .fields vs) : CallR (X.suite a ((a, oe) :: pn)) (.builtin "isinstance") (rIsX X.K D a cls d) := by
  intro pins s σ H xs us Q I r h
  obtain ⟨c, cv, b, dd, fs, rfl, hcv, rfl, e1, e2, e, q⟩ := h
  obtain ⟨od, J⟩ := inst_x I hz hf e1 e2
  cases r with
  | cons rx rr =>
    cases rr with
    | cons rt rr =>
      cases rr
      cases rx
      have ec := hcv.eq rt
      subst ec
      exact PySem.W.kia_one (PySem.W.kitx_exc C.hc C.hg C.hk C.hs C.ha C.hn C.ht C.hm) I.kIn J e (fun z => nomatch z) fun tk => ⟨.bl b, H, I.kept (t' := tk) fun _ _ z => z, rfl, q⟩
/-- isinstance(e, (C1, ..)) -/
def rIsXt (K : PySem.W.Frag) (D a : Addr) (cls : Value) (d : Option Addr) : List V → Hp → VK → Prop := fun xs H Q => ∃ (tp : Addr) (cs : List V) (cvs : List Value) (b : Bool) (dd : Addr) (fs : List (Str × V)), xs = [.ref a, .ref tp] ∧ H tp = some (.tup cs) ∧ Paired ClsV cs cvs ∧ cls = .ref D ∧ d = some dd ∧ H dd = some (.xd fs) ∧ PySem.W.kitAny K (.ref D) cvs = some b ∧ Q (.bl b) H
theorem call_isXt (C : XcC X.K D) (hz : Zc cls d oe) (hf : ∃ vs, oe.data = .fields vs) : CallR (X.suite a ((a, oe) :: pn)) (.builtin "isinstance") (rIsXt X.K D a cls d) := by
  intro pins s σ H xs us Q I r h
  obtain ⟨tp, cs, cvs, b, dd, fs, rfl, ht, hcv, rfl, e1, e2, e, q⟩ := h
  obtain ⟨od, J⟩ := inst_x I hz hf e1 e2
  cases r with
  | cons rx rr =>
    cases rr with
    | cons rt rr =>
      cases rr
      cases rx
      cases rt
      obtain ⟨its, rv, ⟨o, ho, hcl, n, hdt⟩, _⟩ := I.tuple (SqT.of ht)
      have ev := ClsV.all hcv rv
      subst ev
      obtain ⟨oc, od', oda, osl⟩ := o
      dsimp only at hcl hdt
      subst hcl hdt
      exact PySem.W.kia_tup (PySem.W.kitx_exc C.hc C.hg C.hk C.hs C.ha C.hn C.ht C.hm) I.kIn J ho e (fun z => nomatch z) fun tk => ⟨.bl b, H, I.kept (t' := tk) fun _ _ z => z, rfl, q⟩
end
end Js

set_option Elab.async false
set_option linter.all false
set_option maxRecDepth 100000
set_option maxHeartbeats 4000000
/-! own exception classes over any built-in one -/
namespace JsGx
open PySem PySem.W PyProof.Rows PySem.HandSPX Builtin Builtin.ObjectAttr
section
variable {prog : Program} {w : World} {A : Around} {E : Value → Shared → Prop}
variable {h0 : Heap} {gs : Array GenState} {dr : Drawn} {tt : Nat} {os : OsState} {K : W.Frag}
/-- the first field of an exception without a dict -/
theorem own_first {nm : Str} {tk : Tok} {v : Value} {x C : Addr} {fv : Array Value} {cd : ClassData} {b : Bool} {Q : Fin → Shared → Prop}
    (kin : K.In h0) (at_ : h0.get? x = some { cls := .ref C, data := .fields fv }) (hcd : W.clsIn K C = some cd) (hh : cd.hasDict = true)
    (q : ∀ h1 tk1 dx, (∀ c o, c ≠ x → h0.get? c = some o → h1.get? c = some o) → h0.objs.size ≤ dx → dx ≠ x →
      h1.get? x = some { cls := .ref C, dict := some dx, data := .fields fv } → h1.Ns1 dx (fun y => if y = nm then some v else none) → Q (.done (.ret .none)) ⟨h1, gs, dr, tk1, os⟩) :
    wpAny (model prog w) A (storeInOwnDict (.ref x) (.ref C) (.str nm tk) nm v b) Q E ⟨h0, gs, dr, tt, os⟩ := by
  have lc : W.Looks (model prog w) h0 (classData C) cd := W.looks_clsIn kin hcd
  have nx : x ≠ h0.objs.size := Nat.ne_of_lt (Heap.lt_size at_)
  obtain ⟨n1, bs, mro, ns, qn, hd, sn, sb, ab, col, del⟩ := cd
  cases (show hd = true from hh)
  unfold storeInOwnDict ownDictForStores
  repeat first
    | with_reducible refine store_in_new ?_ ?_
    | with_reducible refine wpAny_loadPart_at at_ ?_
    | with_reducible refine lc.at ?_
    | wp_step
  · exact ⟨_, #[], _, (Heap.get?_update_ne _ _ _ _ nx.symm).trans (Heap.get?_push_at rfl rfl), rfl, fun e he => absurd he (by simp), fun _ => rfl⟩
  · intro h1 tk1 hn1 hs1
    have there := Heap.get?_push_of_some { cls := .type "dict", data := .dict #[] } at_
    have kept : ∀ c o, c ≠ x → h0.get? c = some o → h1.get? c = some o := fun c o nc hc =>
      (hs1.2 c (Nat.ne_of_lt (Heap.lt_size hc))).trans ((Heap.get?_update_ne _ _ _ _ nc).trans (Heap.get?_push_of_some _ hc))
    exact q h1 tk1 h0.objs.size kept (Nat.le_refl _) nx.symm ((hs1.2 x nx).trans (Heap.get?_update_self _ there rfl)) hn1
end
end JsGx
namespace Js
open PySem L2 PySem.Spec PyProof.Rows
/-- an own class at C over the built-in exception B -/
structure GexC (K : PySem.W.Frag) (C : Addr) (B nw ini : String) (tl : List Value) : Prop where
  F : ExcBaseFacts B nw ini tl
  SF : StoreFacts B tl "object.__setattr__" "object"
  cls : ∃ nm q N bs bm sn sub ab col dd k0 k1 k2 k3 k5, K.lookup C = some (excClassObj nm q C N bs bm true sn sub ab col dd k0 k1 k2 k3 k5 nw) ∧ ∀ Y : String, bm.contains (.type Y) = tl.contains (.type Y)
  ov : PySem.W.excOver K C tl = true
  st : PySem.W.findIn K (.ref C) "__setattr__" = some (some (.builtin "object.__setattr__"))
  be : PySem.W.subIn K (.ref C) (.type "BaseException") = some true
  ty : PySem.W.typeIn K (.ref C) = some (.type "type")
  kp : PySem.W.keepIn K (.ref C) = true
section
variable {X : Cx} {pins : List (Addr × Obj)} {σ : L2.St} {H : Hp} {s : Shared} {a C : Addr} {f : Str} {y : V} {u : Value} {B nw ini : String} {tl : List Value}
theorem g_first {A : Around} {Q : Unit → Shared → Prop} {E : Value → Shared → Prop} (T : GexC X.K C B nw ini tl) (I : Inv X pins σ H s) (e : H a = some (exo a C none)) (hno : PySem.W.findIn X.K (.ref C) f = some none) (ry : RelV y u)
    (k : ∀ dx s', H dx = none → dx ≠ a → Inv X pins σ (upd (upd H dx (exd dx [(f, y)])) a (exo a C (some dx))) s' → Q () s') : wpAny (model X.prog X.w) A (setAttr (.ref a) f u) Q E s := by
  obtain ⟨nm, q, N, bs, bm, sn, sub, ab, col, dd, k0, k1, k2, k3, k5, hC, _⟩ := T.cls
  obtain ⟨t1, ho⟩ := exo_at I.hok e
  obtain ⟨hp, g, d, t, os⟩ := s
  have IA : PySem.W.InstAt hp a _ C none := ⟨ho, rfl, rfl, trivial⟩
  refine PySem.W.set_plain I.kIn IA T.st ?_
  refine PySem.W.osa_openX (r := none) T.SF I.kIn IA T.ov (by unfold PySem.W.takerIn; rw [hno]; rfl) fun b => ?_
  refine JsGx.own_first I.kIn ho (by unfold PySem.W.clsIn; rw [hC] <;> rfl) rfl fun h1 tk1 dx kept dn dne hx hn => ?_
  have hnd : H dx = none := I.hok.fresh dn
  have off : ∀ {c : Addr}, H c = none → c ≠ a := fun {c} n z => nomatch (z ▸ n).symm.trans e
  have old : ∀ {c : Addr} {o : Obj}, hp.get? c = some o → c ≠ dx := fun {c o} z => Nat.ne_of_lt (Nat.lt_of_lt_of_le (Heap.lt_size z) dn)
  have U : Un X.fs [] H (upd (upd H dx (exd dx [(f, y)])) a (exo a C (some dx))) hp h1 := by
    refine { keep := ?_, slot := ?_, free := ?_, there := ?_, tups := ?_, frzs := ?_, tbls := ?_ }
    · intro c o z n _ _
      exact kept c o (off n) z
    · intro c o z n _ _
      exact ⟨o.slots, kept c o (off n) z⟩
    · intro c o z n _
      rw [upd_ne (off n), upd_ne (old z)]
      exact n
    · intro c o z _
      by_cases hc : c = a
      · exact ⟨_, hc ▸ hx⟩
      · exact ⟨o, kept c o hc z⟩
    · intro c xs z
      rw [upd_ne (at_ne e z exo_tup), upd_ne (ne_of_none z hnd)]
      exact z
    · intro c o v z
      rw [upd_ne (at_ne e z exo_frz), upd_ne (ne_of_none z hnd)]
      exact z
    · intro c ps z
      refine ⟨#[], ?_⟩
      rw [upd_ne (at_ne e z exo_tbl), upd_ne (ne_of_none z hnd), z]
      simp
  refine k dx _ hnd dne (I.un (t' := tk1) U fun c o z => ?_)
  by_cases hc : c = a
  · subst hc
    cases upd_same.symm.trans z
    exact exo_ok hx
  · rw [upd_ne hc] at z
    by_cases hd : c = dx
    · subst hd
      cases upd_same.symm.trans z
      exact exd_ok hn (relO_put (fs := []) ry fun _ => True.intro)
    · rw [upd_ne hd] at z
      refine (I.hok c o z).stay (fun m v hm zz => kept m v ?_ zz) (fun m hm => ?_) (fun m xs hm => ?_)
      · rcases hm with hm | hm
        · exact hm ▸ hc
        · exact at_ne e hm exo_own
      · rw [upd_ne (at_ne e hm exo_own), upd_ne (ne_of_none hm hnd)]
        exact hm
      · rw [upd_ne (at_ne e hm exo_tup), upd_ne (ne_of_none hm hnd)]
        exact hm
/-- B.__init__(self, ..) -/
theorem g_init {A : Around} {E : Value → Shared → Prop} {us : List Value} {Q : Value → Shared → Prop} (T : GexC X.K C B nw ini tl) (I : Inv X pins σ H s) (e : H a = some (exo a C none)) (hl : us.length ≤ sizeLine) (k : ∀ s', Inv X pins σ H s' → Q .none s') :
    wpAny (model X.prog X.w) A (call (.builtin ini) (.ref a :: us)) Q E s := by
  obtain ⟨nm, q, N, bs, bm, sn, sub, ab, col, dd, k0, k1, k2, k3, k5, hC, hT⟩ := T.cls
  obtain ⟨t1, ho⟩ := exo_at I.hok e
  obtain ⟨hp, g, d, t, os⟩ := s
  refine wpAny_call (PySem.HandSPX.init_base T.F hT (I.kIn _ _ hC) ho hl fun h1 t2 kept hx => k _ ?_)
  have eu : upd H a (exo a C none) = H := funext fun c => by
    by_cases hc : c = a
    · rw [hc, upd_same, e]
    · exact upd_ne hc
  exact eu ▸ I.write (t' := t) (x := a) (e := a) (o := exo a C none) (by rw [e]; exact True.intro) (.inl rfl) kept ⟨_, hx⟩ (exo_ok hx)
end
/-! the rules -/
/-- B.__init__(self, ..), by its signs -/
def tGi (K : PySem.W.Frag) (B nw ini : String) (tl : List Value) (ta : TA) : TE := fun σ H Q => ta σ H fun vs H1 => ∃ (a C : Addr) (r : List V), vs = .ref a :: r ∧ r.length ≤ 1000 ∧ GexC K C B nw ini tl ∧ H1 a = some (exo a C none) ∧ Q .non H1
/-- self.f = e, nothing stored as yet -/
def tGs (K : PySem.W.Frag) (B nw ini : String) (tl : List Value) (f : Str) (to te : TE) : TS := fun D σ H => te σ H fun y H1 => to σ H1 fun x H2 => ∃ a C : Addr, x = .ref a ∧ GexC K C B nw ini tl ∧ PySem.W.findIn K (.ref C) f = some none ∧ H2 a = some (exo a C none) ∧
  ∀ dx, H2 dx = none → dx ≠ a → D.nx σ (upd (upd H2 dx (exd dx [(f, y)])) a (exo a C (some dx)))
section
variable {X : Cx} {o e : Expr} {es : List Expr} {to te : TE} {ta : TA} {f : Str} {p p' p1 p2 pos : Pos} {B nw ini : String} {tl : List Value}
theorem ps_gst (ho : PE X o to) (he : PE X e te) (hs : swapsWith e (some (.Attribute o f p')) pos.line X.env = pure false := by rfl) : PS X (.Assign [.Attribute o f p'] e pos) (tGs X.K B nw ini tl f to te) := by
  constructor
  intro pins s σ H D I h
  refine plainObj_wpAny_Assign_Attribute (thn (he.run pins s σ H _ I h) ?_) hs
  rintro v s1 ⟨y, H1, I1, r1, q1⟩
  refine thn (ho.run pins s1 σ H1 _ I1 q1) ?_
  rintro u s2 ⟨x, H2, I2, r2, a, C, rfl, T, hno, ea, q⟩
  cases (show u = Value.ref a from r2)
  exact g_first T I2 ea hno r1 fun dx s' n ne J => ⟨σ, _, J, q dx n ne⟩
theorem typ_OE : typeOf (.type "OverflowError") = pure (.type "type") := by kernel_rfl
theorem pe_oeinit {pl : Sem Bool} (hg : Gl X "OverflowError") (hm : X.mg "OverflowError" = none) (vV : PySem.W.findCls X.K (.type "OverflowError") (.type "type") "__init__" = some (.val (.builtin "OverflowError.__init__"))) (ha : PA X (e :: es) ta)
    (hc : eval (.Call (.Attribute (.Name "OverflowError" p1) "__init__" p2) (e :: es) [] pos) X.env = (do
      let ov ← eval (.Name "OverflowError" p1) X.env; standAt p2.atName
      let (f, first) ← holding [ov] (getMethod ov "__init__" pl); callWith pos f first (backTo pos (starEach (e :: es) X.env)) (backToKw pos (keywordEach [] X.env))) := by rfl)
    (he : starEach (e :: es) X.env = (false, eval e X.env) :: starEach es X.env := by rfl) (hpl : (backTo pos (starEach es X.env)).any (·.1) = false := by rfl) :
    PE X (.Call (.Attribute (.Name "OverflowError" p1) "__init__" p2) (e :: es) [] pos) (tGi X.K "OverflowError" nw "OverflowError.__init__" tl ta) := by
  constructor
  intro pins s σ H Q I h
  refine PySem.W.methodCall_KW (ld_blt I hg hm PyProof.Rows.Boot.«OverflowError» ?_ (by decide) (by decide)) hc
  obtain ⟨m, fr⟩ := I.fr
  refine PySem.W.method_type fr I.ok.mod.kin typ_OE (by decide +kernel) vV (by decide +kernel) ?_
  show wpAny _ _ (callWith pos (Value.builtin "OverflowError.__init__") [] (backTo pos (starEach (e :: es) X.env)) []) _ _ _
  refine PyProof.Rows.callWith_method1 (thn (ha.run pos pins _ σ H _ (I.tok _) h) ?_) he hpl
  rintro us s1 ⟨vs, H1, I1, r1, a, C, r, rfl, hl, T, ea, q⟩
  cases r1 with
  | @cons _ u0 _ ur ra rr =>
    cases (show u0 = Value.ref a from ra)
    refine g_init T I1 ea ?_ fun s' J => ⟨.non, H1, J, rfl, q⟩
    have e1 := Paired.length rr
    have e2 := sizeLine_eq
    omega
/-- C(e, ..) is made, to be raised -/
theorem pmk_gex {CX : CXT} {x : Str} {C fI : Addr} {k : Nat} {fd : FuncData} {ps : List Str} {sp : Sp} {ds : List Value} {dvs : List V} (T : GexC X.K C B nw ini tl) (iC : PySem.W.findIn X.K (.ref C) "__init__" = some (some (.ref fI))) (tI : PySem.W.typeIn X.K (.ref fI) = some (.type "function"))
    (G : FnOk X.prog X.w X.K X.mg X.base CX k fI fd ps sp) (hr : Room (k + 1) X.A) (hb : Binds X.K fd ps ds) (hd : Vals dvs ds) (hx : Passes CX X (fun _ _ _ => False)) (hg : Gl X x) (hm : X.mg x = some (.ref C)) (ha : PA X (e :: es) ta)
    (hdb : (x == ("__debug__" : Str)) = false := by decide) (he : starEach (e :: es) X.env = (false, eval e X.env) :: starEach es X.env := by rfl) (hpl : (backTo pos (starEach es X.env)).any (·.1) = false := by rfl) :
    PMk X (.Call (.Name x p) (e :: es) [] pos) (tMkO C sp dvs ta) := by
  obtain ⟨nm, q, N, bs, bm, sn, sub, ab, col, dd, k0, k1, k2, k3, k5, hC, hT⟩ := T.cls
  intro pins s σ H Q I h
  refine wpAny_Call_Name_kw (ld_glob I hg hm ?_ hdb)
  refine PySem.W.callWith_K (h₀ := X.base) I.ok.mod.kin T.kp (thn (ha.run pos pins s σ H _ I h) ?_) he hpl
  rintro us ⟨hp, g, dr, tk, os⟩ ⟨vs, H1, I1, r1, hz, q1⟩
  refine ⟨I1.kIn, ?_⟩
  show wpAny _ _ (call (.ref C) us) _ _ _
  have up := Nat.le_succ hp.objs.size
  have hq := q1 (hp.objs.size + 1) (I1.hok.fresh up)
  have kk : ∀ c z, hp.get? c = some z → ((hp.push (PySem.W.kdv_tup us)).push (PySem.HandSPX.excO C hp.objs.size)).get? c = some z := fun c z h => Heap.get?_push_of_some _ (Heap.get?_push_of_some _ h)
  have at1 : ((hp.push (PySem.W.kdv_tup us)).push (PySem.HandSPX.excO C hp.objs.size)).get? (hp.objs.size + 1) = some (PySem.HandSPX.excO C hp.objs.size) := by heap_get
  have I2 : Inv X pins σ (upd H1 (hp.objs.size + 1) (exo (hp.objs.size + 1) C none)) ⟨(hp.push (PySem.W.kdv_tup us)).push (PySem.HandSPX.excO C hp.objs.size), g, dr, tk, os⟩ :=
    I1.laid (t' := tk) kk up (exo_ok at1)
  have r2 : Vals (V.ref (hp.objs.size + 1) :: (vs ++ dvs)) (Value.ref (hp.objs.size + 1) :: (us ++ ds)) := .cons rfl (r1.append hd)
  have hl : (Value.ref (hp.objs.size + 1) :: us ++ ds).length = ps.length := (r2.length.symm.trans (G.len _ _ _ _ hq))
  have hus : us.length ≤ sizeLine := by
    have e1 := Paired.length r1
    have e2 := sizeLine_eq
    omega
  refine wpAny_call (PySem.HandSPX.call_own T.F hT (I1.kIn _ _ hC) (PySem.W.looks_findIn I1.kIn iC) (fun self => PySem.W.bind_fn I1.kIn self tI) hus ?_)
  refine codeAny_mono (G.run _ X.stack _ _ ⟨Value.ref (hp.objs.size + 1) :: us, []⟩ (Value.ref (hp.objs.size + 1) :: (us ++ ds)) _ _ (fun _ _ _ => False) (hr.make C us []) (I2.env0.make C us []) (hb _ (Value.ref (hp.objs.size + 1) :: us) I2.kIn hl) r2 hq) ?_
  rintro (er | fl) s' hq'
  · exact hx pins σ _ _ er s' I2 hq'
  · cases fl with
    | ret u =>
      obtain ⟨v, H2, os2, bare2, un2, hok2, rv, rfl, d, fs, ea, ed, hd1, q2⟩ := hq'
      obtain ⟨h2, g2, d2, t2, os'⟩ := s'
      exact ⟨rv, mk_end (raises_own T.be T.ty) I1 up kk un2 hok2 os2 bare2 ea ed hd1 q2⟩
    | next => exact hq'.elim
    | brk => exact hq'.elim
    | cont => exact hq'.elim
end
end Js

set_option Elab.async false
set_option linter.all false
set_option maxRecDepth 100000
set_option maxHeartbeats 2000000
namespace Js
open PySem L2
/-! ### TooGreat -/
abbrev sTg : Stmt := inClass (top 4) 0
abbrev tlO : List Value := [.type "OverflowError", .type "ArithmeticError", .type "Exception", .type "BaseException", .type "object"]
abbrev GexO (K : PySem.W.Frag) (N : Addr) : Prop := GexC K N "OverflowError" "OverflowError.__new__" "OverflowError.__init__" tlO
structure TgC (K : PySem.W.Frag) (mg : Str → Option Value) (N : Addr) : Prop where
  mgN : mg "TooGreat" = some (.ref N)
  O : GexO K N
  bd : PySem.W.findIn K (.ref N) "bound" = some none
  mOE : mg "OverflowError" = none
  vV : PySem.W.findCls K (.type "OverflowError") (.type "type") "__init__" = some (.val (.builtin "OverflowError.__init__"))
def spTg (K : PySem.W.Frag) : Sp := fun vs H Q _ => ∃ (a N : Addr) (n : Nat), vs = [.ref a, .int (n : Nat)] ∧ n ≤ 1000000 ∧ GexO K N ∧ PySem.W.findIn K (.ref N) "bound" = some none ∧ H a = some (exo a N none) ∧
  ∀ dx, H dx = none → dx ≠ a → Q .non (upd (upd H dx (exd dx [("bound", .int (n : Nat))])) a (exo a N (some dx)))
section
variable {P : Program} {w : World} {K : PySem.W.Frag} {mg : Str → Option Value} {base : Heap} {N C : Addr}
theorem scTg : FnScope ["self", "bound"] ["self", "bound"] (defScope sTg) := ⟨rfl, rfl, rfl, by decide +kernel, rfl, by decide +kernel, by decide +kernel⟩
theorem ok_tg {f : Addr} {fd : FuncData} (F : Fun K "__init__" "TooGreat.__init__" sTg f fd) (T : TgC K mg N) : FnOk P w K mg base CX0 1 f fd ["self", "bound"] (spTg K) := by
  refine F.ok scTg (fun vs H Q E h => ?_) (fun cdv A outer s H vs Q E hr h => ?_)
  · obtain ⟨a, N, n, rfl, _⟩ := h
    rfl
  · obtain ⟨a, N, n, rfl, hn, hO, hno, ha, k⟩ := h
    refine ⟨_, pss_cons (ps_expr (pe_oeinit (nw := "OverflowError.__new__") (tl := tlO) rfl T.mOE T.vV (pa_cons (pv 0) (pa_cons (pe_joined (.cons pe_str (.cons (pe_fmt (pv 1)) .nil))) pa_nil)))) (pss_one (ps_gst (B := "OverflowError") (nw := "OverflowError.__new__") (ini := "OverflowError.__init__") (tl := tlO) (pv 0) (pv 1))), ?_⟩
    have hlg := nat_log n hn
    have hl := PyProof.Rows.int_text_len_1921 hlg
    have hs := sizeLine_eq
    refine ⟨_, rfl, _, rfl, by decide +kernel, _, rfl, .inr ⟨_, rfl, hlg, _, rfl, ?_, ?_⟩⟩
    · rw [PySem.Str.length_append]
      have e : (Str.empty ++ ("greater than " : Str)).length = 13 := by decide +kernel
      omega
    · refine ⟨a, N, _, rfl, by simp, hO, ha, ?_⟩
      exact ⟨_, rfl, _, rfl, a, N, rfl, hO, hno, ha, fun dx h1 h2 => k dx h1 h2⟩
/-- TooGreat(n) is made -/
theorem raise_tg {H1 : Hp} {n : Nat} {Q : XK} (hO : GexO K N) (hno : PySem.W.findIn K (.ref N) "bound" = some none) (hn : n ≤ 1000000)
    (q : ∀ d H', Same H1 H' → H' d = some (.xd [("bound", .int (n : Nat))]) → Q (.ref N) (some d) H') :
    ∀ a, H1 a = none → spTg K [.ref a, .int (n : Nat)] (upd H1 a (exo a N none)) (fun v H2 => v = .non ∧ ∃ (d : Addr) (fs : List (Str × V)), H2 a = some (exo a N (some d)) ∧ H2 d = some (exd d fs) ∧ H1 d = none ∧ Q (.ref N) (some d) (upd (del H2 a) d (.xd fs))) (fun _ _ _ => False) := by
  intro a ha
  refine ⟨a, N, n, rfl, hn, hO, hno, upd_same, fun dx hd ne => ⟨rfl, dx, _, upd_same, (upd_ne ne).trans upd_same, ?_, q dx _ ?_ upd_same⟩⟩
  · rw [upd_ne ne] at hd
    exact hd
  · rw [upd_ne ne] at hd
    intro b o h
    have e1 := ne_of_none h hd
    have e2 := ne_of_none h ha
    rw [upd_ne e1, del_ne e2, upd_ne e2, upd_ne e1, upd_ne e2]
    exact h
/-- the class TooGreat and its __init__ -/
structure TgM (P : Program) (w : World) (K : PySem.W.Frag) (mg : Str → Option Value) (base : Heap) (N fN : Addr) (fdN : FuncData) : Prop where
  T : TgC K mg N
  iN : PySem.W.findIn K (.ref N) "__init__" = some (some (.ref fN))
  tN : PySem.W.typeIn K (.ref fN) = some (.type "function")
  ok : FnOk P w K mg base CX0 1 fN fdN ["self", "bound"] (spTg K)
  bN : Binds K fdN ["self", "bound"] []
/-- Thing.__init__, whatever the size -/
def spInitX (C N : Addr) : Sp := fun vs H Q E => ∃ (p dx : Addr) (x y : V) (n : Nat), vs = [.ref p, x, y] ∧ H p = some (.ins C dx []) ∧ PairsOf C H x y n ∧ n ≤ 100000 ∧ (n ≤ 4000 → Q .non (upd H p (.ins C dx (tf x y (n : Nat))))) ∧
  (4000 < n → ∀ d H', Same H H' → H' d = some (.xd [("bound", .int ((4000 : Nat) : Int))]) → E (.ref N) (some d) H')
theorem ok_initX {f fP fN : Addr} {fd fdP fdN : FuncData} (F : FunD K "__init__" "Thing.__init__" (defArgs sInit) (defBody sInit) (defScope sInit) [.non, .non] [] f fd) (T : Txt K mg C) (AP : At K mg "pairs_in" sPairs ["first", "second"] fP fdP) (M : TgM P w K mg base N fN fdN) :
    FnOk P w K mg base (L2.CX P w) 3 f fd ["self", "first", "second"] (spInitX C N) := by
  have GP : FnOk P w K mg base CX0 1 fP fdP ["first", "second"] (spPairs C) := ok_pairs AP.F T
  obtain ⟨tm, mgM⟩ := T.mgM
  refine F.ok scI (fun vs H Q E h => ?_) (fun cdv A outer s H vs Q E hr h => ?_)
  · obtain ⟨p, dx, x, y, n, rfl, _⟩ := h
    rfl
  · obtain ⟨p, dx, x, y, n, rfl, hp, hxy, hn, k, ke⟩ := h
    have hr1 : Room 1 _ := hr.mono (by decide)
    refine ⟨_, pss_cons (ps_set (i := 3) scI.nd rfl (Or.inl rfl) (pe_call GP hr1 rfl AP.mgf AP.F.kp AP.b .nil pass0 (pa_cons (pv 1) (pa_cons (pv 2) pa_nil))))
      (pss_cons (ps_if (pt_cmpR op_gt (pv 3) (pe_glob (v := .int 4000) rfl mgM ⟨_, rfl⟩) (nomark _)) (pss_one (ps_raise rfl (takes_of rfl rfl rfl rfl) (pmk_gex M.T.O M.iN M.tN M.ok hr M.bN .nil pass0 rfl M.T.mgN (pa_cons (pe_glob (v := .int ((4000 : Nat) : Int)) rfl mgM ⟨_, rfl⟩) pa_nil)))) pss_nil)
      (pss_cons (ps_fld (pv 0) (pv 1) rfl) (pss_cons (ps_fld (pv 0) (pv 2) rfl) (pss_one (ps_fld (pv 0) (pv 3) rfl))))), ?_⟩
    refine ⟨_, rfl, _, rfl, x, y, n, rfl, hxy, ?_⟩
    refine ⟨_, rfl, _, _, rfl, rfl, _, rfl, ?_⟩
    by_cases h4 : n ≤ 4000
    · have ed : decide ((4000 : Int) < (n : Nat)) = false := decide_eq_false (by omega)
      rw [ed]
      refine iteF ?_
      refine ⟨_, rfl, _, rfl, p, C, dx, [], rfl, hp, T.cl, T.nF, (by show 0 < 1000; decide), ?_⟩
      refine ⟨_, rfl, _, rfl, p, C, dx, _, rfl, upd_same, T.cl, T.nS, Nat.lt_of_le_of_lt (length_putF _ _ _) (by show 0 + 1 < 1000; decide), ?_⟩
      refine ⟨_, rfl, _, rfl, p, C, dx, _, rfl, upd_same, T.cl, T.nZ, ?_, ?_⟩
      · have h1 := length_putF "first" x []
        have h2 := length_putF "second" y (putF "first" x [])
        simp only [List.length_nil] at h1
        omega
      · show Q .non (upd (upd (upd H p _) p _) p (.ins C dx (tf x y (n : Nat))))
        rw [upd_upd, upd_upd]
        exact k h4
    · have ed : decide ((4000 : Int) < (n : Nat)) = true := decide_eq_true (by omega)
      rw [ed]
      refine iteT ?_
      exact ⟨by simp, raise_tg M.T.O M.T.bd (by decide) fun d H' sH hd => ke (by omega) d H' sH hd⟩
end
/-! ### made, at given slots -/
section
open PyProof.Rows
variable {X : Cx} {CX : CXT} {C f : Addr} {k : Nat} {fd : FuncData} {ps : List Str} {sp : Sp} {ds us : List Value} {dvs vs : List V} {E : XK} {pins : List (Addr × Obj)} {σ : L2.St} {H : Hp} {s : Shared} {Q : VK}
/-- as run_make, what may be let out told at these slots alone -/
theorem make_at (M : Mk X.K C f) (G : FnOk X.prog X.w X.K X.mg X.base CX k f fd ps sp) (hr : Room (k + 1) X.A) (hb : Binds X.K fd ps ds) (hd : Vals dvs ds) (out : PassesAt CX X σ E) (I : Inv X pins σ H s) (r : Vals vs us)
    (h : ∀ x dx, H x = none → H dx = none → dx ≠ x → sp (.ref x :: (vs ++ dvs)) (upd (upd H dx (.own x)) x (.ins C dx [])) (fun v H2 => v = .non ∧ Q (.ref x) H2) E) : wpAny (model X.prog X.w) X.A (call (.ref C) us) (EP X pins σ Q) X.xe s := by
  have I2 := Inv.made (C := C) I
  have hq := h _ _ (I.hok.fresh (Nat.le_succ _)) (I.hok.fresh (Nat.le_refl _)) (Nat.ne_of_lt (Nat.lt_succ_self s.heap.objs.size))
  have r2 : Vals (V.ref (s.heap.objs.size + 1) :: (vs ++ dvs)) (Value.ref (s.heap.objs.size + 1) :: (us ++ ds)) := .cons rfl (r.append hd)
  have hl : (Value.ref (s.heap.objs.size + 1) :: us ++ ds).length = ps.length := r2.length.symm.trans (G.len _ _ _ _ hq)
  have ran := G.run _ X.stack _ _ ⟨Value.ref (s.heap.objs.size + 1) :: us, []⟩ (Value.ref (s.heap.objs.size + 1) :: (us ++ ds)) _ _ E (hr.make C us []) (I2.env0.make C us []) (hb _ (Value.ref (s.heap.objs.size + 1) :: us) I2.kIn hl) r2 hq
  refine wpAny_call (make_map (f := f) I.kIn M.makes M.init (beq_iff_eq.mp M.fn) (codeAny_mono ran ?_))
  rintro (er | fl) s' z
  · exact out pins _ _ er s' I2 z
  · cases fl with
    | ret u =>
      obtain ⟨v, H3, I3, rv, rfl, q3⟩ := I2.after z
      exact ⟨rv, ⟨V.ref (s.heap.objs.size + 1), H3, I3, rfl, q3⟩⟩
    | next => exact z.elim
    | brk => exact z.elim
    | cont => exact z.elim
end
end Js

set_option Elab.async false
set_option linter.all false
set_option maxRecDepth 100000
set_option maxHeartbeats 4000000
/-! NoProgram, over ValueError -/
namespace Js
open PySem L2 PySem.Spec PyProof.Rows
section
variable {X : Cx} {o e : Expr} {es : List Expr} {to te : TE} {ta : TA} {f : Str} {p p' p1 p2 pos : Pos} {B nw ini : String} {tl : List Value}
theorem typ_VE : typeOf (.type "ValueError") = pure (.type "type") := by kernel_rfl
theorem pe_veinit2 {pl : Sem Bool} (hg : Gl X "ValueError") (hm : X.mg "ValueError" = none) (vV : PySem.W.findCls X.K (.type "ValueError") (.type "type") "__init__" = some (.val (.builtin "ValueError.__init__"))) (ha : PA X (e :: es) ta)
    (hc : eval (.Call (.Attribute (.Name "ValueError" p1) "__init__" p2) (e :: es) [] pos) X.env = (do
      let ov ← eval (.Name "ValueError" p1) X.env; standAt p2.atName
      let (f, first) ← holding [ov] (getMethod ov "__init__" pl); callWith pos f first (backTo pos (starEach (e :: es) X.env)) (backToKw pos (keywordEach [] X.env))) := by rfl)
    (he : starEach (e :: es) X.env = (false, eval e X.env) :: starEach es X.env := by rfl) (hpl : (backTo pos (starEach es X.env)).any (·.1) = false := by rfl) :
    PE X (.Call (.Attribute (.Name "ValueError" p1) "__init__" p2) (e :: es) [] pos) (tGi X.K "ValueError" nw "ValueError.__init__" tl ta) := by
  constructor
  intro pins s σ H Q I h
  refine PySem.W.methodCall_KW (ld_blt I hg hm PyProof.Rows.Boot.«ValueError» ?_ (by decide) (by decide)) hc
  obtain ⟨m, fr⟩ := I.fr
  refine PySem.W.method_type fr I.ok.mod.kin typ_VE (by decide +kernel) vV (by decide +kernel) ?_
  show wpAny _ _ (callWith pos (Value.builtin "ValueError.__init__") [] (backTo pos (starEach (e :: es) X.env)) []) _ _ _
  refine PyProof.Rows.callWith_method1 (thn (ha.run pos pins _ σ H _ (I.tok _) h) ?_) he hpl
  rintro us s1 ⟨vs, H1, I1, r1, a, C, r, rfl, hl, T, ea, q⟩
  cases r1 with
  | @cons _ u0 _ ur ra rr =>
    cases (show u0 = Value.ref a from ra)
    refine g_init T I1 ea ?_ fun s' J => ⟨.non, H1, J, rfl, q⟩
    have e1 := Paired.length rr
    have e2 := sizeLine_eq
    omega
end
end Js
namespace Js
open PySem L2
/-! ### NoProgram -/
abbrev sNp : Stmt := inClass (top 3) 0
abbrev tlV : List Value := [.type "ValueError", .type "Exception", .type "BaseException", .type "object"]
abbrev GexV (K : PySem.W.Frag) (N : Addr) : Prop := GexC K N "ValueError" "ValueError.__new__" "ValueError.__init__" tlV
structure NpC (K : PySem.W.Frag) (mg : Str → Option Value) (N : Addr) : Prop where
  mgN : mg "NoProgram" = some (.ref N)
  O : GexV K N
  bd : PySem.W.findIn K (.ref N) "place" = some none
  mVE2 : mg "ValueError" = none
  vV : PySem.W.findCls K (.type "ValueError") (.type "type") "__init__" = some (.val (.builtin "ValueError.__init__"))
def spNp (K : PySem.W.Frag) : Sp := fun vs H Q _ => ∃ (a N : Addr) (n : Nat), vs = [.ref a, .int (n : Nat)] ∧ n ≤ 1000000 ∧ GexV K N ∧ PySem.W.findIn K (.ref N) "place" = some none ∧ H a = some (exo a N none) ∧
  ∀ dx, H dx = none → dx ≠ a → Q .non (upd (upd H dx (exd dx [("place", .int (n : Nat))])) a (exo a N (some dx)))
section
variable {P : Program} {w : World} {K : PySem.W.Frag} {mg : Str → Option Value} {base : Heap} {N C : Addr}
theorem scNp : FnScope ["self", "place"] ["self", "place"] (defScope sNp) := ⟨rfl, rfl, rfl, by decide +kernel, rfl, by decide +kernel, by decide +kernel⟩
theorem ok_np {f : Addr} {fd : FuncData} (F : Fun K "__init__" "NoProgram.__init__" sNp f fd) (T : NpC K mg N) : FnOk P w K mg base CX0 1 f fd ["self", "place"] (spNp K) := by
  refine F.ok scNp (fun vs H Q E h => ?_) (fun cdv A outer s H vs Q E hr h => ?_)
  · obtain ⟨a, N, n, rfl, _⟩ := h
    rfl
  · obtain ⟨a, N, n, rfl, hn, hO, hno, ha, k⟩ := h
    refine ⟨_, pss_cons (ps_expr (pe_veinit2 (nw := "ValueError.__new__") (tl := tlV) rfl T.mVE2 T.vV (pa_cons (pv 0) (pa_cons (pe_joined (.cons pe_str (.cons (pe_fmt (pv 1)) (.cons pe_str .nil)))) pa_nil)))) (pss_one (ps_gst (B := "ValueError") (nw := "ValueError.__new__") (ini := "ValueError.__init__") (tl := tlV) (pv 0) (pv 1))), ?_⟩
    have hlg := nat_log n hn
    have hl := PyProof.Rows.int_text_len_1921 hlg
    have hs := sizeLine_eq
    refine ⟨_, rfl, _, rfl, by decide +kernel, _, rfl, .inr ⟨_, rfl, hlg, _, rfl, ?_, ?_⟩⟩
    · rw [PySem.Str.length_append]
      have e : (Str.empty ++ ("no program: deed " : Str)).length = 17 := by decide +kernel
      omega
    refine ⟨_, rfl, ?_, ?_⟩
    · rw [PySem.Str.length_append, PySem.Str.length_append]
      have e : (Str.empty ++ ("no program: deed " : Str)).length = 17 := by decide +kernel
      have e2 : (" is none" : Str).length = 8 := by decide +kernel
      omega
    · refine ⟨a, N, _, rfl, by simp, hO, ha, ?_⟩
      exact ⟨_, rfl, _, rfl, a, N, rfl, hO, hno, ha, fun dx h1 h2 => k dx h1 h2⟩
/-- NoProgram(n) is made -/
theorem raise_np {H1 : Hp} {n : Nat} {Q : XK} (hO : GexV K N) (hno : PySem.W.findIn K (.ref N) "place" = some none) (hn : n ≤ 1000000)
    (q : ∀ d H', Same H1 H' → H' d = some (.xd [("place", .int (n : Nat))]) → Q (.ref N) (some d) H') :
    ∀ a, H1 a = none → spNp K [.ref a, .int (n : Nat)] (upd H1 a (exo a N none)) (fun v H2 => v = .non ∧ ∃ (d : Addr) (fs : List (Str × V)), H2 a = some (exo a N (some d)) ∧ H2 d = some (exd d fs) ∧ H1 d = none ∧ Q (.ref N) (some d) (upd (del H2 a) d (.xd fs))) (fun _ _ _ => False) := by
  intro a ha
  refine ⟨a, N, n, rfl, hn, hO, hno, upd_same, fun dx hd ne => ⟨rfl, dx, _, upd_same, (upd_ne ne).trans upd_same, ?_, q dx _ ?_ upd_same⟩⟩
  · rw [upd_ne ne] at hd
    exact hd
  · rw [upd_ne ne] at hd
    intro b o h
    have e1 := ne_of_none h hd
    have e2 := ne_of_none h ha
    rw [upd_ne e1, del_ne e2, upd_ne e2, upd_ne e1, upd_ne e2]
    exact h
/-- the class NoProgram and its __init__ -/
structure NpM (P : Program) (w : World) (K : PySem.W.Frag) (mg : Str → Option Value) (base : Heap) (N fN : Addr) (fdN : FuncData) : Prop where
  T : NpC K mg N
  iN : PySem.W.findIn K (.ref N) "__init__" = some (some (.ref fN))
  tN : PySem.W.typeIn K (.ref fN) = some (.type "function")
  ok : FnOk P w K mg base CX0 1 fN fdN ["self", "place"] (spNp K)
  bN : Binds K fdN ["self", "place"] []
end
end Js

set_option Elab.async false
set_option linter.all false
set_option maxRecDepth 100000
set_option maxHeartbeats 2000000
namespace Js
open PySem L2
/-- a Thing of any size made, or refused -/
structure MakerX (P : Program) (w : World) (K : PySem.W.Frag) (mg : Str → Option Value) (base : Heap) (C fI N : Addr) (fdI : FuncData) : Prop where
  M : Mk K C fI
  G : FnOk P w K mg base (L2.CX P w) 3 fI fdI ["self", "first", "second"] (spInitX C N)
  mgC : mg "Thing" = some (.ref C)
  b2 : Binds K fdI ["self", "first", "second"] []
def tTX (C N : Addr) (E : L2.St → XK) (t : TA) : TE := fun σ H Q => t σ H fun vs H1 => ∃ a b t u, vs = [.ref a, .ref b] ∧ Th C H1 a t ∧ Th C H1 b u ∧ 1 + t.size + u.size ≤ 100000 ∧
  (1 + t.size + u.size ≤ 4000 → ∀ z H', Same H1 H' → H1 z = none → Th C H' z (.pr t u) → Q (.ref z) H') ∧
  (4000 < 1 + t.size + u.size → ∀ d H', Same H1 H' → H' d = some (.xd [("bound", .int ((4000 : Nat) : Int))]) → E σ (.ref N) (some d) H')
theorem mk_prX {C N a b : Addr} {H : Hp} {t u : Tr} {Q : VK} {E : XK} (ha : Th C H a t) (hb : Th C H b u) (hz : 1 + t.size + u.size ≤ 100000)
    (k : 1 + t.size + u.size ≤ 4000 → ∀ x H', Same H H' → H x = none → Th C H' x (.pr t u) → Q (.ref x) H')
    (ke : 4000 < 1 + t.size + u.size → ∀ d H', Same H H' → H' d = some (.xd [("bound", .int ((4000 : Nat) : Int))]) → E (.ref N) (some d) H') :
    ∀ x dx, H x = none → H dx = none → dx ≠ x → spInitX C N (.ref x :: ([.ref a, .ref b] ++ [])) (upd (upd H dx (.own x)) x (.ins C dx [])) (fun v H3 => v = .non ∧ Q (.ref x) H3) E := by
  intro x dx nx ndx ne
  have s0 : Same H (upd (upd H dx (.own x)) x (.ins C dx [])) := (Same.new ndx).trans (Same.new (by rw [upd_ne (Ne.symm ne)]; exact nx))
  refine ⟨x, dx, _, _, 1 + t.size + u.size, rfl, upd_same, .inr ⟨a, b, t, u, rfl, rfl, ha.same s0, hb.same s0, rfl⟩, hz, fun h4 => ⟨rfl, ?_⟩, fun h4 d H' sH hd => ke h4 d H' (s0.trans sH) hd⟩
  rw [upd_upd]
  have s1 : Same H (upd (upd H dx (.own x)) x (.ins C dx (tf (.ref a) (.ref b) ((1 + t.size + u.size : Nat) : Int)))) := (Same.new ndx).trans (Same.new (by rw [upd_ne (Ne.symm ne)]; exact nx))
  exact k h4 x _ s1 nx (.pr upd_same (ha.same s1) (hb.same s1))
section
open PyProof.Rows
variable {X : Cx} {C N fI : Addr} {fdI : FuncData} {p pos : Pos} {e : Expr} {es : List Expr} {t : TA} {E : L2.St → XK}
theorem pe_T2X (mk : MakerX X.prog X.w X.K X.mg X.base C fI N fdI) (hr : Room 4 X.A) (hg : Gl X "Thing") (out : ∀ σ, PassesAt (L2.CX X.prog X.w) X σ (E σ)) (ha : PA X (e :: es) t)
    (he : starEach (e :: es) X.env = (false, eval e X.env) :: starEach es X.env := by rfl) (hpl : (backTo pos (starEach es X.env)).any (·.1) = false := by rfl) : PE X (.Call (.Name "Thing" p) (e :: es) [] pos) (tTX C N E t) := by
  refine ⟨fun pins s σ H Q I h => ?_⟩
  refine wpAny_Call_Name_kw (ld_glob I hg mk.mgC ?_ (by decide))
  refine PySem.W.callWith_K (h₀ := X.base) I.ok.mod.kin mk.M.kp (thn (ha.run pos pins s σ H _ I h) fun us s1 ⟨vs, H1, I1, r, q⟩ => ⟨I1.kIn, ?_⟩) he hpl
  obtain ⟨a, b, t, u, rfl, h1, h2, hz, k, ke⟩ := q
  exact make_at mk.M mk.G hr mk.b2 .nil (out σ) I1 r (mk_prX h1 h2 hz k ke)
end
/-- what the top says of TooGreat and the other refusals -/
structure RfC (K : PySem.W.Frag) (mg : Str → Option Value) (N : Addr) : Prop where
  tg : TgC K mg N
  xf : XfC K N
  xc : XcC K N
  ex : PySem.W.exmOne K (.ref N) (.ref N) = some true
  oe : PySem.W.kitOne K (.ref N) (.type "OverflowError") = some true
  oth : ∃ n1 n2 n3 n4 n5 n6 : Addr, mg "NoName" = some (.ref n1) ∧ mg "NoProgram" = some (.ref n2) ∧ mg "NoRoom" = some (.ref n3) ∧ mg "NoSaying" = some (.ref n4) ∧ mg "NoStep" = some (.ref n5) ∧ mg "NoText" = some (.ref n6) ∧
    PySem.W.kitAny K (.ref N) [.ref n1, .ref n2, .ref n3, .ref n4, .ref n5, .ref n6] = some false
end Js

set_option Elab.async false
set_option linter.all false
set_option maxRecDepth 100000
set_option maxHeartbeats 4000000
/-! refusals whose context is None; objects made while one is handled -/
namespace Js
open PySem L2 PySem.Spec PyProof.Rows
/-- a def, whatever it may let out -/
theorem okC {CX : CXT} {P : Program} {w : World} {K : PySem.W.Frag} {mg : Str → Option Value} {base : Heap} {x ql : Str} {st : Stmt} {f : Addr} {fd : FuncData} {N ps : List Str} {k : Nat} {sp : Sp} (F : Fun K x ql st f fd) (S : FnScope N ps (defScope st)) (hl : ∀ vs H Q E, sp vs H Q E → vs.length = ps.length)
    (hb : ∀ (cdv : Value) (A : Around) (outer : List Env) (s : Shared) (H : Hp) (vs : List V) (Q : VK) (E : XK), Room k (A.deeper (envOfC ql (defScope st) s.heap.objs.size f cdv)) → sp vs H Q E →
      ∃ t, PSs (cxOf CX P w K mg base N ql (defScope st) f cdv A outer s H E) (defBody st) t ∧ t { nx := fun _ H' => Q .non H', rt := Q } (start N vs) H) :
    FnOk P w K mg base CX (k + 1) f fd ps sp := by
  obtain ⟨o1, o2, o3, o4, o5, o6, o7, o8, o9, e, look, code⟩ := F.ex
  subst e
  exact fn_of look code S hl (fun A outer s H vs Q E room h => hb _ A outer s H vs Q E room h)
section
variable {X : Cx} {e : Expr} {es : List Expr} {ta : TA} {p pos : Pos} {B nw ini : String} {tl : List Value}
/-- an own exception over B, its context None -/
theorem pmk_gexN {CX : CXT} {x : Str} {C fI : Addr} {k : Nat} {fd : FuncData} {ps : List Str} {sp : Sp} {ds : List Value} {dvs : List V} (T : GexC X.K C B nw ini tl) (iC : PySem.W.findIn X.K (.ref C) "__init__" = some (some (.ref fI))) (tI : PySem.W.typeIn X.K (.ref fI) = some (.type "function"))
    (G : FnOk X.prog X.w X.K X.mg X.base CX k fI fd ps sp) (hr : Room (k + 1) X.A) (hb : Binds X.K fd ps ds) (hd : Vals dvs ds) (hx : Passes CX X (fun _ _ _ => False)) (hg : Gl X x) (hm : X.mg x = some (.ref C)) (ha : PA X (e :: es) ta)
    (hdb : (x == ("__debug__" : Str)) = false := by decide) (he : starEach (e :: es) X.env = (false, eval e X.env) :: starEach es X.env := by rfl) (hpl : (backTo pos (starEach es X.env)).any (·.1) = false := by rfl) :
    L2N.PMk X (.Call (.Name x p) (e :: es) [] pos) (tMkO C sp dvs ta) := by
  obtain ⟨nm, q, N, bs, bm, sn, sub, ab, col, dd, k0, k1, k2, k3, k5, hC, hT⟩ := T.cls
  intro pins s σ H Q I h
  refine wpAny_Call_Name_kw (ld_glob I hg hm ?_ hdb)
  refine PySem.W.callWith_K (h₀ := X.base) I.ok.mod.kin T.kp (thn (ha.run pos pins s σ H _ I h) ?_) he hpl
  rintro us ⟨hp, g, dr, tk, os⟩ ⟨vs, H1, I1, r1, hz, q1⟩
  refine ⟨I1.kIn, ?_⟩
  show wpAny _ _ (call (.ref C) us) _ _ _
  have up := Nat.le_succ hp.objs.size
  have hq := q1 (hp.objs.size + 1) (I1.hok.fresh up)
  have kk : ∀ c z, hp.get? c = some z → ((hp.push (PySem.W.kdv_tup us)).push (PySem.HandSPX.excO C hp.objs.size)).get? c = some z := fun c z h => Heap.get?_push_of_some _ (Heap.get?_push_of_some _ h)
  have at1 : ((hp.push (PySem.W.kdv_tup us)).push (PySem.HandSPX.excO C hp.objs.size)).get? (hp.objs.size + 1) = some (PySem.HandSPX.excO C hp.objs.size) := by heap_get
  have I2 : Inv X pins σ (upd H1 (hp.objs.size + 1) (exo (hp.objs.size + 1) C none)) ⟨(hp.push (PySem.W.kdv_tup us)).push (PySem.HandSPX.excO C hp.objs.size), g, dr, tk, os⟩ :=
    I1.laid (t' := tk) kk up (exo_ok at1)
  have r2 : Vals (V.ref (hp.objs.size + 1) :: (vs ++ dvs)) (Value.ref (hp.objs.size + 1) :: (us ++ ds)) := .cons rfl (r1.append hd)
  have hl : (Value.ref (hp.objs.size + 1) :: us ++ ds).length = ps.length := (r2.length.symm.trans (G.len _ _ _ _ hq))
  have hus : us.length ≤ sizeLine := by
    have e1 := Paired.length r1
    have e2 := sizeLine_eq
    omega
  refine wpAny_call (PySem.HandSPX.call_own T.F hT (I1.kIn _ _ hC) (PySem.W.looks_findIn I1.kIn iC) (fun self => PySem.W.bind_fn I1.kIn self tI) hus ?_)
  refine codeAny_mono (G.run _ X.stack _ _ ⟨Value.ref (hp.objs.size + 1) :: us, []⟩ (Value.ref (hp.objs.size + 1) :: (us ++ ds)) _ _ (fun _ _ _ => False) (hr.make C us []) (I2.env0.make C us []) (hb _ (Value.ref (hp.objs.size + 1) :: us) I2.kIn hl) r2 hq) ?_
  rintro (er | fl) s' hq'
  · exact hx pins σ _ _ er s' I2 hq'
  · cases fl with
    | ret u =>
      obtain ⟨v, H2, os2, bare2, un2, hok2, rv, rfl, d, fs, ea, ed, hd1, q2⟩ := hq'
      obtain ⟨h2, g2, d2, t2, os'⟩ := s'
      obtain ⟨t0, G2, J, kG, ge, hoe, na⟩ := mk_end0 (d2 := d2) (t2 := t2) I1 up kk un2 hok2 os2 bare2 ea ed hd1
      exact ⟨rv, ⟨_, _, _, ⟨G2, g2, d2, t2, os'⟩, _, .ref C, some d, rfl, J, kG, ge, hoe, ⟨rfl, rfl, fun vs e => by cases e; rfl⟩, rfl, rfl, na, rfl, bare2, raises_own T.be T.ty, q2⟩⟩
    | next => exact hq'.elim
    | brk => exact hq'.elim
    | cont => exact hq'.elim
end
section
variable {P : Program} {w : World} {K : PySem.W.Frag} {mg : Str → Option Value} {base : Heap} {N C : Addr}
theorem ok_initN {f fP fN : Addr} {fd fdP fdN : FuncData} (F : FunD K "__init__" "Thing.__init__" (defArgs sInit) (defBody sInit) (defScope sInit) [.non, .non] [] f fd) (T : Txt K mg C) (AP : At K mg "pairs_in" sPairs ["first", "second"] fP fdP) (M : TgM P w K mg base N fN fdN) :
    FnOk P w K mg base (L2N.CX P w) 3 f fd ["self", "first", "second"] (spInitX C N) := by
  have GP : FnOk P w K mg base CX0 1 fP fdP ["first", "second"] (spPairs C) := ok_pairs AP.F T
  obtain ⟨tm, mgM⟩ := T.mgM
  refine F.ok scI (fun vs H Q E h => ?_) (fun cdv A outer s H vs Q E hr h => ?_)
  · obtain ⟨p, dx, x, y, n, rfl, _⟩ := h
    rfl
  · obtain ⟨p, dx, x, y, n, rfl, hp, hxy, hn, k, ke⟩ := h
    have hr1 : Room 1 _ := hr.mono (by decide)
    refine ⟨_, pss_cons (ps_set (i := 3) scI.nd rfl (Or.inl rfl) (pe_call GP hr1 rfl AP.mgf AP.F.kp AP.b .nil pass0 (pa_cons (pv 1) (pa_cons (pv 2) pa_nil))))
      (pss_cons (ps_if (pt_cmpR op_gt (pv 3) (pe_glob (v := .int 4000) rfl mgM ⟨_, rfl⟩) (nomark _)) (pss_one (L2N.ps_raise rfl (L2N.takes_of rfl rfl rfl rfl) (pmk_gexN M.T.O M.iN M.tN M.ok hr M.bN .nil pass0 rfl M.T.mgN (pa_cons (pe_glob (v := .int ((4000 : Nat) : Int)) rfl mgM ⟨_, rfl⟩) pa_nil)))) pss_nil)
      (pss_cons (ps_fld (pv 0) (pv 1) rfl) (pss_cons (ps_fld (pv 0) (pv 2) rfl) (pss_one (ps_fld (pv 0) (pv 3) rfl))))), ?_⟩
    refine ⟨_, rfl, _, rfl, x, y, n, rfl, hxy, ?_⟩
    refine ⟨_, rfl, _, _, rfl, rfl, _, rfl, ?_⟩
    by_cases h4 : n ≤ 4000
    · have ed : decide ((4000 : Int) < (n : Nat)) = false := decide_eq_false (by omega)
      rw [ed]
      refine iteF ?_
      refine ⟨_, rfl, _, rfl, p, C, dx, [], rfl, hp, T.cl, T.nF, (by show 0 < 1000; decide), ?_⟩
      refine ⟨_, rfl, _, rfl, p, C, dx, _, rfl, upd_same, T.cl, T.nS, Nat.lt_of_le_of_lt (length_putF _ _ _) (by show 0 + 1 < 1000; decide), ?_⟩
      refine ⟨_, rfl, _, rfl, p, C, dx, _, rfl, upd_same, T.cl, T.nZ, ?_, ?_⟩
      · have h1 := length_putF "first" x []
        have h2 := length_putF "second" y (putF "first" x [])
        simp only [List.length_nil] at h1
        omega
      · show Q .non (upd (upd (upd H p _) p _) p (.ins C dx (tf x y (n : Nat))))
        rw [upd_upd, upd_upd]
        exact k h4
    · have ed : decide ((4000 : Int) < (n : Nat)) = true := decide_eq_true (by omega)
      rw [ed]
      refine iteT ?_
      exact ⟨by simp, raise_tg M.T.O M.T.bd (by decide) fun d H' sH hd => ke (by omega) d H' sH hd⟩
end
/-- a Thing of any size made, or refused; the refusal's context is None -/
structure MakerN (P : Program) (w : World) (K : PySem.W.Frag) (mg : Str → Option Value) (base : Heap) (C fI N : Addr) (fdI : FuncData) : Prop where
  M : Mk K C fI
  G : FnOk P w K mg base (L2N.CX P w) 3 fI fdI ["self", "first", "second"] (spInitX C N)
  mgC : mg "Thing" = some (.ref C)
  b2 : Binds K fdI ["self", "first", "second"] []
section
variable {X : Cx} {C N fI : Addr} {fdI : FuncData} {p pos : Pos} {e : Expr} {es : List Expr} {t : TA} {E : L2.St → XK}
theorem pe_T2N (mk : MakerN X.prog X.w X.K X.mg X.base C fI N fdI) (hr : Room 4 X.A) (hg : Gl X "Thing") (out : ∀ σ, PassesAt (L2N.CX X.prog X.w) X σ (E σ)) (ha : PA X (e :: es) t)
    (he : starEach (e :: es) X.env = (false, eval e X.env) :: starEach es X.env := by rfl) (hpl : (backTo pos (starEach es X.env)).any (·.1) = false := by rfl) : PE X (.Call (.Name "Thing" p) (e :: es) [] pos) (tTX C N E t) := by
  refine ⟨fun pins s σ H Q I h => ?_⟩
  refine wpAny_Call_Name_kw (ld_glob I hg mk.mgC ?_ (by decide))
  refine PySem.W.callWith_K (h₀ := X.base) I.ok.mod.kin mk.M.kp (thn (ha.run pos pins s σ H _ I h) fun us s1 ⟨vs, H1, I1, r, q⟩ => ⟨I1.kIn, ?_⟩) he hpl
  obtain ⟨a, b, t, u, rfl, h1, h2, hz, k, ke⟩ := q
  exact make_at mk.M mk.G hr mk.b2 .nil (out σ) I1 r (mk_prX h1 h2 hz k ke)
end
/-! ### made while a refusal is handled -/
open L2H in
section
variable {X : Cx} {C f : Addr} {k : Nat} {fd : FuncData} {ps : List Str} {sp : Sp} {ds : List Value} {dvs : List V} {p pos : Pos} {x : Str} {e : Expr} {es : List Expr} {t : TA}
theorem hot_suite {a : Addr} {oe : Obj} {cls : Value} {d : Option Addr} {pn : List (Addr × Obj)} (hz : L2N.Zn cls d oe) (hf : ∃ vs, oe.data = .fields vs) : HotC (X.suite a ((a, oe) :: pn)) := by
  obtain ⟨vs, hv⟩ := hf
  exact ⟨(a, oe), ⟨rfl, vs, hv, hz.2.2 vs hv⟩, List.mem_cons_self⟩
theorem make_hot {us : List Value} {vs : List V} {pins : List (Addr × Obj)} {σ : L2.St} {H : Hp} {s : Shared} {Q : VK} (M : Mk X.K C f) (G : FnH X.prog X.w X.K X.mg X.base CX0 k f fd ps sp) (hr : RoomH (k + 1) X.A) (hc : HotC X) (hb : Binds X.K fd ps ds) (hd : Vals dvs ds) (I : Inv X pins σ H s) (r : Vals vs us)
    (h : ∀ x dx, H x = none → H dx = none → dx ≠ x → sp (.ref x :: (vs ++ dvs)) (upd (upd H dx (.own x)) x (.ins C dx [])) (fun v H2 => v = .non ∧ Q (.ref x) H2) E0) : wpAny (model X.prog X.w) X.A (call (.ref C) us) (EP X pins σ Q) X.xe s := by
  obtain ⟨pp, hot, hin⟩ := hc
  have I2 := Inv.made (C := C) I
  have hq := h _ _ (I.hok.fresh (Nat.le_succ _)) (I.hok.fresh (Nat.le_refl _)) (Nat.ne_of_lt (Nat.lt_succ_self s.heap.objs.size))
  have r2 : Vals (V.ref (s.heap.objs.size + 1) :: (vs ++ dvs)) (Value.ref (s.heap.objs.size + 1) :: (us ++ ds)) := .cons rfl (r.append hd)
  have hl : (Value.ref (s.heap.objs.size + 1) :: us ++ ds).length = ps.length := r2.length.symm.trans (G.len _ _ _ _ hq)
  obtain ⟨g1, g2, g3, g4, g5⟩ := I2.pin pp (List.mem_append_left _ hin)
  have pinned : PinOk X.stack _ _ pp := ⟨g1, g2, fun hm => Or.elim (List.mem_cons.mp (I2.stkSub pp.1 hm)) g3 g4, g5⟩
  have ran := G.run (X.A.under (.builtin "type.__call__" ⟨.ref C :: us, []⟩)) X.stack _ _ ⟨Value.ref (s.heap.objs.size + 1) :: us, []⟩ (Value.ref (s.heap.objs.size + 1) :: (us ++ ds)) _ _ E0 pp (hr.make C us []) hot pinned (I2.env0.make C us []) (hb _ (Value.ref (s.heap.objs.size + 1) :: us) I2.kIn hl) r2 hq
  refine wpAny_call (make_map (f := f) I.kIn M.makes M.init (beq_iff_eq.mp M.fn) (codeAny_mono ran ?_))
  rintro (er | fl) s' z
  · exact pass0 _ _ _ _ er s' I2 z
  · cases fl with
    | ret u =>
      obtain ⟨v, H3, I3, rv, rfl, q3⟩ := I2.after z
      exact ⟨rv, ⟨V.ref (s.heap.objs.size + 1), H3, I3, rfl, q3⟩⟩
    | next => exact z.elim
    | brk => exact z.elim
    | cont => exact z.elim
/-- C(x, ..) in the suite of an except -/
theorem pe_makeH (M : Mk X.K C f) (G : FnH X.prog X.w X.K X.mg X.base CX0 k f fd ps sp) (hr : RoomH (k + 1) X.A) (hc : HotC X) (hg : Gl X x) (hm : X.mg x = some (.ref C)) (hb : Binds X.K fd ps ds) (hd : Vals dvs ds) (ha : PA X (e :: es) t)
    (hdb : (x == ("__debug__" : Str)) = false := by decide) (he : starEach (e :: es) X.env = (false, eval e X.env) :: starEach es X.env := by rfl) (hpl : (backTo pos (starEach es X.env)).any (·.1) = false := by rfl) : PE X (.Call (.Name x p) (e :: es) [] pos) (tMake C sp dvs E0 t) := by
  refine ⟨fun pins s σ H Q I h => ?_⟩
  refine wpAny_Call_Name_kw (ld_glob I hg hm ?_ hdb)
  refine PySem.W.callWith_K (h₀ := X.base) I.ok.mod.kin M.kp (thn (ha.run pos pins s σ H _ I h) fun us s1 ⟨vs, H1, I1, r, q⟩ => ⟨I1.kIn, ?_⟩) he hpl
  exact make_hot M G hr hc hb hd I1 r q
end
end Js

set_option Elab.async false
set_option linter.all false
set_option maxRecDepth 100000
set_option maxHeartbeats 4000000
/-! looking through what is told -/
namespace Js
open PySem L2
open PySem.Spec PyProof.Rows
theorem deepR_ap : ∀ (a b : List Dd), deepR (a ++ b) = max (deepR a) (deepR b)
  | [], b => by rw [List.nil_append, deepR, Nat.zero_max]
  | d :: a, b => by rw [List.cons_append, deepR, deepR_ap a b, deepR, Nat.max_assoc]
theorem deepL_ap : ∀ (a b : List (List Dd)), deepL (a ++ b) = max (deepL a) (deepL b)
  | [], b => by rw [List.nil_append, deepL, Nat.zero_max]
  | d :: a, b => by rw [List.cons_append, deepL, deepL_ap a b, deepL, Nat.max_assoc]
def spLookW (K : PySem.W.Frag) (C NP : Addr) (n : Nat) : Sp := fun vs H Q E => ∃ (q e : Addr) (f : Nat) (ws : List V) (rws : List Rw) (es : List Nat), vs = [.ref q, .int (f : Nat), .ref e] ∧ SqT K H q ws ∧ RwsAt K C H ws rws ∧ dpW rws < n ∧ f ≤ 8 ∧ H e = some (.lst (numsV es)) ∧ es.length ≤ 4000 ∧
  (∀ r, okRow rws f es.length r → ∀ H', KB e H H' → H' e = some (.lst (numsV (es ++ endsR r es.length))) → Q .non H') ∧
  ((¬ ∃ r, okRow rws f es.length r) → ∀ (m : Nat) (d : Addr) H', KB e H H' → H' d = some (.xd [("place", .int (m : Nat))]) → E (.ref NP) (some d) H')
theorem RwsAt_get {K : PySem.W.Frag} {C : Addr} {H : Hp} : ∀ (r : List Rw) (vs : List V) (i : Nat) (v : V), RwsAt K C H vs r → vs[i]? = some v → ∃ x, r[i]? = some x ∧ RwAt K C H v x
  | [], vs, i, v, h, hv => by rw [RwsAt] at h; subst h; cases hv
  | x :: r, vs, 0, v, h, hv => by
    rw [RwsAt] at h
    obtain ⟨u, us, rfl, h1, h2⟩ := h
    cases Option.some.inj hv
    exact ⟨x, rfl, h1⟩
  | x :: r, vs, i + 1, v, h, hv => by
    rw [RwsAt] at h
    obtain ⟨u, us, rfl, h1, h2⟩ := h
    exact RwsAt_get r us i v h2 hv
/-- what a good row says of its first deeds and of the next -/
theorem okRow_at {rws : List Rw} {f l : Nat} {r rp : List Dd} {i : Nat} {x : Rw} (h : okRow rws f l r) (hp : rowD (rws.take i) = some rp) (hx : rws[i]? = some x) : ∃ d, x.dd = some d ∧ f + d.deep ≤ 8 ∧ l + manyR rp + d.many ≤ 4000 := by
  obtain ⟨h1, h2, h3⟩ := h
  obtain ⟨d, hd, hxd⟩ := rowD_at h1 hx
  have e := rowD_take h1 i
  rw [hp] at e
  cases Option.some.inj e
  have hm := manyR_take r i d hd
  have hdm := deepR_mem r d (List.mem_of_getElem? hd)
  exact ⟨d, hxd, by omega, by omega⟩
section
variable {P : Program} {w : World} {K : PySem.W.Frag} {mg : Str → Option Value} {base : Heap} {C NP fNP : Addr} {fdNP : FuncData}
theorem ok_lookW {f : Addr} {fd : FuncData} (F : Fun K "look_through" "look_through" sLook f fd) (mgf : mg "look_through" = some (.ref f)) (b : Binds K fd ["row", "floors", "ends"] []) (B : Blt mg) (T : Txt K mg C) (G : FrmC K w mg) (M : NpM P w K mg base NP fNP fdNP)
    (DH : Def P w K mg base "has_form" 3 ["deed"] (spHasFormW K C)) (DR : Def P w K mg base "rows_in" 1 ["deed"] (spRowsInW K C)) : ∀ n, FnOk P w K mg base (L2N.CX P w) (n + 4) f fd ["row", "floors", "ends"] (spLookW K C NP n) := by
  obtain ⟨t1, mD⟩ := G.mD
  obtain ⟨t2, mFl⟩ := G.mF
  intro n
  induction n with
  | zero =>
    refine okC F scLk (fun vs H Q E h => ?_) (fun cdv A outer s H vs Q E hr h => ?_)
    · obtain ⟨q, e, f, ws, rws, es, rfl, _⟩ := h
      rfl
    · obtain ⟨q, e, f, ws, rws, es, _, _, _, h, _⟩ := h
      exact absurd h (Nat.not_lt_zero _)
  | succ n G' =>
  refine okC F scLk (fun vs H Q E h => ?_) (fun cdv A outer s H vs Q E hr h => ?_)
  · obtain ⟨q, e, f, ws, rws, es, rfl, _⟩ := h
    rfl
  · obtain ⟨q, e, f, vs, rws, es, rfl, hq, hvs, hdp, hf8, he, hel, k, ke⟩ := h
    have hr1 : Room 1 _ := hr.mono (by omega)
    have hr2 : Room 2 _ := hr.mono (by omega)
    have hr3 : Room 3 _ := hr.mono (by omega)
    refine ⟨_, pss_one (ps_for (passes_of rfl) rfl (pi_tup (pv 0)) (pg_name (i := 3) scLk.nd rfl (Or.inl rfl)) (pss_cons (ps_set (i := 4) scLk.nd rfl (Or.inl rfl) (pe_callB call_len_seq (by rfl) B.len PySem.boot_len (pa_cons (pv 2) pa_nil))) (pss_cons (ps_if (PW.pt (pw_or (pt_cmpR op_eq (pv 4) (pe_glob (v := .int 4000) rfl mD ⟨_, rfl⟩) (nomark _)) (pw_or1 (pt_not (pt_val (pe_def DH hr3 rfl (pa_cons (pv 3) pa_nil))))))) (pss_one (L2N.ps_raise rfl (L2N.takes_of rfl rfl rfl rfl) (pmk_gexN M.T.O M.iN M.tN M.ok hr2 M.bN .nil pass0 rfl M.T.mgN (pa_cons (pv 4) pa_nil)))) pss_nil) (pss_cons (ps_set (i := 5) scLk.nd rfl (Or.inl rfl) (pe_def DR hr1 rfl (pa_cons (pv 3) pa_nil))) (pss_cons (ps_if (PW.pt (pw_and (pt_truth (pv 5) (by intro _; rfl)) (pw_and1 (pt_cmpR op_eq (pv 1) (pe_glob (v := .int 8) rfl mFl ⟨_, rfl⟩) (nomark _))))) (pss_one (L2N.ps_raise rfl (L2N.takes_of rfl rfl rfl rfl) (pmk_gexN M.T.O M.iN M.tN M.ok hr2 M.bN .nil pass0 rfl M.T.mgN (pa_cons (pv 4) pa_nil)))) pss_nil) (pss_cons (ps_expr (pe_bm PySem.F.plainAttrs_list PySem.F.slot_list_append PySem.F.type_list_append mt_append (pv 2) (pa_cons (pe_op op_add (pv 4) pe_int) pa_nil))) (pss_cons (ps_for (passes_of rfl) rfl (pi_tup (pv 5)) (pg_name (i := 6) scLk.nd rfl (Or.inl rfl)) (pss_one (ps_expr (pe_callS G' hr rfl mgf F.kp b (fun σ => L2N.passAt (L2N.takes_of rfl rfl rfl rfl) σ) (pa_cons (pv 6) (pa_cons (pe_op op_add (pv 1) pe_int) (pa_cons (pv 2) pa_nil))))))) (pss_one (ps_asg (pe_callB call_len_seq (by rfl) B.len PySem.boot_len (pa_cons (pv 2) pa_nil)) (pg_sub (pv 2) (pv 4) set_list)))))))))), ?_⟩
    have hsl := line4
    have hlen := RwsAt_len rws vs hvs
    refine ⟨_, rfl, q, rfl, ⟨_, hq⟩, for_tup (K := K) (a := q) (xs := vs) (fun i σ H' => ∃ (x3 x4 x5 x6 : Option V) (rp : List Dd), σ = [some (.ref q), some (.int (f : Nat)), some (.ref e), x3, x4, x5, x6] ∧ KB e H H' ∧ okRow (rws.take i) f es.length rp ∧ H' e = some (.lst (numsV (es ++ endsR rp es.length)))) ⟨none, none, none, none, [], rfl, KB.refl e H, ⟨rfl, by rw [deepR]; omega, by rw [many_nil]; omega⟩, by simpa [endsR] using he⟩ ?_ ?_ ?_⟩
    · rintro i σ H1 _ ⟨x3, x4, x5, x6, rp, rfl, kb1, _, he1⟩
      exact sqt_kt (kb1.kt he) hq
    · rintro i v σ H1 hv ⟨x3, x4, x5, x6, rp, rfl, kb1, hrp, he1⟩
      obtain ⟨x, hx, hxv⟩ := RwsAt_get rws vs i v hvs hv
      have hat := fun (r : List Dd) (h : okRow rws f es.length r) => okRow_at h hrp.1 hx
      have hxv1 := RwAt_kt (kb1.kt he) x v hxv
      obtain ⟨pl, hpl⟩ : ∃ pl, es.length + manyR rp = pl := ⟨_, rfl⟩
      have hpl4 : pl ≤ 4000 := by have := hrp.2.2; omega
      have hl1 : (numsV (es ++ endsR rp es.length)).length = pl := by rw [numsV_len, List.length_append, endsR_len, hpl]
      refine ⟨_, rfl, e, _, rfl, .inl (SqL.of he1), ?_⟩
      rw [hl1]
      refine ⟨_, rfl, rfl, _, rfl, ?_⟩
      by_cases hp4 : pl = 4000
      · rw [decide_eq_true (show V.int ((pl : Nat) : Int) = V.int 4000 by rw [hp4]; rfl)]
        refine iteT (iteT ?_)
        refine ⟨_, rfl, by simp, raise_np M.T.O M.T.bd (by omega) fun d H' sH hd => ke (fun ⟨r, hr'⟩ => ?_) pl d H' (kb1.trans (KB.of sH)) hd⟩
        obtain ⟨d, _, _, h3⟩ := hat r hr'
        have := many_pos d
        omega
      have e0 : decide (V.int ((pl : Nat) : Int) = V.int 4000) = false := by
        simp only [decide_eq_false_iff_not, V.int.injEq]
        omega
      rw [e0]
      refine iteF ?_
      refine ⟨_, rfl, v, x, rfl, hxv1, fun H2 s2 => ?_⟩
      have kb2 := kb1.trans (KB.of s2)
      have hxv2 := RwAt_kt (KT.of s2) x v hxv1
      refine ⟨_, rfl, ?_⟩
      cases hfb : formB x with
      | false =>
        refine iteT ?_
        refine ⟨_, rfl, by simp, raise_np M.T.O M.T.bd (by omega) fun d H' sH hd => ke (fun ⟨r, hr'⟩ => ?_) pl d H' (kb2.trans (KB.of sH)) hd⟩
        obtain ⟨d', h1, _, _⟩ := hat r hr'
        rw [formB_of h1] at hfb
        cases hfb
      | true =>
        refine iteF ?_
        have hnb : x ≠ .bad := fun z => by subst z; cases hfb
        refine ⟨_, rfl, v, x, rfl, hxv2, hnb, fun ip ws H3 s3 hip hws => ?_⟩
        have hwl := Paired.length hws
        have kb3 := kb2.trans (KB.of s3)
        have he3 := s3 _ _ (s2 _ _ he1)
        refine ⟨_, rfl, !ws.isEmpty, .inr (.inl ⟨ws, hip, rfl⟩), ?_⟩
        by_cases hin : ws ≠ [] ∧ f = 8
        · obtain ⟨hne, hf⟩ := hin
          rw [show (!ws.isEmpty) = true by cases ws with | nil => exact absurd rfl hne | cons => rfl]
          refine iteT ?_
          refine ⟨_, rfl, rfl, _, rfl, ?_⟩
          rw [decide_eq_true (show V.int ((f : Nat) : Int) = V.int 8 by rw [hf]; rfl)]
          refine iteT ?_
          refine ⟨_, rfl, by simp, raise_np M.T.O M.T.bd (by omega) fun d H' sH hd => ke (fun ⟨r, hr'⟩ => ?_) pl d H' (kb3.trans (KB.of sH)) hd⟩
          obtain ⟨d', h1, h2, _⟩ := hat r hr'
          have hrl := Paired.length (dd_rows h1)
          have hdr : d'.rows ≠ [] := fun z => by
            rw [z, ← hwl] at hrl
            exact hne (List.length_eq_zero_iff.mp hrl)
          have := deep_rows d' hdr
          omega
        have step2 : ∀ (R : Bool → Hp → Prop), R false H3 → (if (!ws.isEmpty) = true then (tTest (tOp rEq (tVar 1) (tC (.int 8)))) [some (.ref q), some (.int (f : Nat)), some (.ref e), some v, some (.int ((pl : Nat) : Int)), some (.ref ip), x6] H3 R else R false H3) := by
          intro R hR
          cases hw : ws with
          | nil => exact iteF hR
          | cons w0 wr =>
            refine iteT ?_
            refine ⟨_, rfl, rfl, _, rfl, ?_⟩
            have e1 : decide (V.int ((f : Nat) : Int) = V.int 8) = false := by
              simp only [decide_eq_false_iff_not, V.int.injEq]
              intro z
              exact hin ⟨by rw [hw]; exact (fun z => by cases z), by omega⟩
            rw [e1]
            exact hR
        refine step2 _ ?_
        refine iteF ?_
        have hf7 : x.rows ≠ [] → f ≤ 7 := fun h => by
          by_cases q : f = 8
          · exact absurd ⟨fun z => h (List.length_eq_zero_iff.mp (by rw [← hwl, z]; rfl)), q⟩ hin
          · omega
        obtain ⟨as, has⟩ : ∃ as, es ++ endsR rp es.length = as := ⟨_, rfl⟩
        rw [has] at he3 hl1
        rw [numsV_len] at hl1
        refine ⟨_, rfl, .inl ⟨rfl, _, SqL.of he3⟩, _, rfl, _, _, rfl, rfl, e, _, _, rfl, rfl, he3, by rw [numsV_len]; omega, ?_⟩
        have e4 : numsV as ++ [V.int (((pl : Nat) : Int) + 1)] = numsV (as ++ [pl + 1]) := by
          rw [numsV_app]
          rfl
        rw [e4]
        have he4 : (upd H3 e (.lst (numsV (as ++ [pl + 1])))) e = some (.lst (numsV (as ++ [pl + 1]))) := upd_same
        have kb4 : KB e H3 (upd H3 e (.lst (numsV (as ++ [pl + 1])))) := KB.set
        revert he4 kb4
        generalize upd H3 e (.lst (numsV (as ++ [pl + 1]))) = H4
        intro he4 kb4
        have kt4 : KT H3 H4 := kb4.kt he3
        refine ⟨_, rfl, ip, rfl, ⟨_, sqt_kt kt4 hip⟩, for_tup (K := K) (a := ip) (xs := ws) (fun j σ H' => ∃ (x6 : Option V) (rs : List (List Dd)), σ = [some (.ref q), some (.int (f : Nat)), some (.ref e), some v, some (.int ((pl : Nat) : Int)), some (.ref ip), x6] ∧ KB e H4 H' ∧ Paired (fun l r => rowD l = some r) (x.rows.take j) rs ∧ (rs ≠ [] → f + 1 + deepL rs ≤ 8) ∧ pl + 1 + manyL rs ≤ 4000 ∧ H' e = some (.lst (numsV (as ++ [pl + 1] ++ endsL rs (pl + 1))))) ⟨_, [], rfl, KB.refl e H4, by rw [List.take_zero]; exact .nil, fun z => absurd rfl z, by rw [manyL]; omega, by simpa [endsL] using he4⟩ ?_ ?_ ?_⟩
        · rintro j σ H5 _ ⟨x6, rs, rfl, kb5, _, _, _, he5⟩
          exact sqt_kt (kb5.kt he4) (sqt_kt kt4 hip)
        · rintro j v6 σ H5 hv6 ⟨x6, rs, rfl, kb5, hrs, hdl, hml, he5⟩
          obtain ⟨r6, hr6, q6, us6, rfl, hq6, hus6⟩ := paired_get hws hv6
          have hne : x.rows ≠ [] := fun z => by
            rw [z] at hr6
            cases hr6
          have l5 : (as ++ [pl + 1] ++ endsL rs (pl + 1)).length = pl + 1 + manyL rs := by
            rw [List.length_append, List.length_append, endsL_len, hl1]
            rfl
          have kt5 := kt4.trans (kb5.kt he4)
          have hdm := rows_dp (List.mem_of_getElem? hr6)
          have hdx := dpW_mem (List.mem_of_getElem? hx)
          refine ⟨_, rfl, _, rfl, _, _, rfl, rfl, _, rfl, q6, e, f + 1, us6, r6, _, rfl, sqt_kt kt5 hq6, RwsAt_kt kt5 _ _ hus6, by omega, by have := hf7 hne; omega, he5, by rw [l5]; exact hml, fun r hr' H6 kb6 he6 => ?_, fun hno m dd H6 kb6 hd6 => ke (fun ⟨r, hr'⟩ => hno ?_) m dd H6 (((kb3.trans kb4).trans kb5).trans kb6) hd6⟩
          · rw [l5] at hr' he6
            refine ⟨_, rs ++ [r], rfl, kb5.trans kb6, ?_, ?_, ?_, ?_⟩
            · rw [take_snoc hr6]
              exact paired_app hrs (.cons hr'.1 .nil)
            · intro _
              rw [deepL_ap, deepL, deepL]
              have h1 := hr'.2.1
              by_cases hz : rs = []
              · subst hz
                rw [deepL]
                omega
              · have := hdl hz
                omega
            · rw [manyL_app, manyL_one]
              have := hr'.2.2
              omega
            · rw [he6, endsL_app, endsL_one, List.append_assoc (as ++ [pl + 1])]
          · obtain ⟨d', h1, h2, h3⟩ := hat r hr'
            have hdd := dd_rows h1
            obtain ⟨r7, hr7, h7⟩ := paired_get hdd hr6
            have ht := pair_take j hdd
            have e7 : rs = d'.rows.take j := by
              have : ∀ {l : List (List Rw)} {a b : List (List Dd)}, Paired (fun l r => rowD l = some r) l a → Paired (fun l r => rowD l = some r) l b → a = b := by
                intro l a b ha
                induction ha generalizing b with
                | nil => intro hb; cases hb; rfl
                | cons h t ih =>
                  intro hb
                  cases hb with
                  | cons h' t' => rw [Option.some.inj (h.symm.trans h'), ih t']
              exact this hrs ht
            have hmt := manyL_take d'.rows j r7 hr7
            have hmr := many_rows d'
            have hdl7 := deepL_mem d'.rows r7 (List.mem_of_getElem? hr7)
            have hdr : d'.rows ≠ [] := fun z => by
              rw [z] at hr7
              cases hr7
            have hde := deep_rows d' hdr
            refine ⟨r7, h7, by omega, ?_⟩
            rw [l5, e7]
            omega
        · rintro σ H5 ⟨x6, rs, rfl, kb5, hrs, hdl, hml, he5⟩
          rw [hwl, List.take_length] at hrs
          obtain ⟨d', h1, hdr⟩ := dd_of hfb hrs
          subst hdr
          have hmr := many_rows d'
          have l5 : (as ++ [pl + 1] ++ endsL d'.rows (pl + 1)).length = pl + d'.many := by
            rw [List.length_append, List.length_append, endsL_len, hl1, hmr]
            simp only [List.length_cons, List.length_nil]
            omega
          refine ⟨_, rfl, e, _, rfl, .inl (SqL.of he5), ?_⟩
          rw [numsV_len, l5]
          refine ⟨_, rfl, _, rfl, e, _, _, pl, rfl, rfl, he5, ?_, ?_⟩
          · rw [numsV_len, l5]
            have := many_pos d'
            exact ixN_at _ _ (by omega)
          · have es5 : (numsV (as ++ [pl + 1] ++ endsL d'.rows (pl + 1))).set pl (V.int (((pl + d'.many : Nat)) : Int)) = numsV (es ++ endsR (rp ++ [d']) es.length) := by
              rw [endsR_app, endsR_one, ends_rows, ← List.append_assoc, has, hpl, List.append_assoc, numsV_app, numsV_app]
              rw [List.set_append_right _ _ (by rw [numsV_len, hl1]; exact Nat.le_refl _), numsV_len, hl1, Nat.sub_self, numsV_app]
              rfl
            refine ⟨_, _, _, _, rp ++ [d'], rfl, ((kb3.trans kb4).trans kb5).trans KB.set, ⟨?_, ?_, ?_⟩, ?_⟩
            · rw [take_snoc hx]
              exact rowD_snoc hrp.1 h1
            · rw [deepR_ap, deepR, deepR]
              have g1 := hrp.2.1
              by_cases hz : d'.rows = []
              · have : d'.deep = 0 := by
                  cases d' with
                  | told => rw [Dd.deep]
                  | take => rw [Dd.deep]
                  | two => rw [Dd.deep]
                  | wh => cases hz
                  | iff => cases hz
                omega
              · have g2 := hdl hz
                have g3 := deep_rows d' hz
                omega
            · rw [manyR_app, manyR_one]
              omega
            · rw [upd_same, ← es5]
    · rintro σ H1 ⟨x3, x4, x5, x6, rp, rfl, kb1, hrp, he1⟩
      rw [hlen, List.take_length] at hrp
      exact k rp hrp H1 kb1 he1
end
end Js

set_option Elab.async false
set_option linter.all false
set_option maxRecDepth 100000
set_option maxHeartbeats 4000000
/-! programs of what is told -/
namespace Js
open PySem L2
open PySem.Spec PyProof.Rows
def spPInitW (K : PySem.W.Frag) (C CP NP : Addr) : Sp := fun vs H Q E => ∃ (p dx q : Addr) (ws : List V) (rws : List Rw), vs = [.ref p, .ref q] ∧ H p = some (.ins CP dx []) ∧ SqT K H q ws ∧ RwsAt K C H ws rws ∧ dpW rws < 9 ∧
  (∀ r, okRow rws 0 0 r → ∀ pl ys H', KB p H H' → H' p = some (.ins CP dx (pf q pl)) → H' pl = some (.tup ys) → RAt K C H' q r → Paired (PlE K C H') ys (layR r (manyR r) 0) → Q .non H') ∧
  ((¬ ∃ r, okRow rws 0 0 r) → ∀ (m : Nat) (d : Addr) H', Same H H' → H' d = some (.xd [("place", .int (m : Nat))]) → E (.ref NP) (some d) H')
section
variable {P : Program} {w : World} {K : PySem.W.Frag} {mg : Str → Option Value} {base : Heap} {C CP NP fNP fL : Addr} {fdNP fdL : FuncData}
theorem ok_pinitW {f : Addr} {fd : FuncData} (F : Fun K "__init__" "Program.__init__" sPInit f fd) (B : Blt mg) (T : Txt K mg C) (G : FrmC K w mg) (TP : TxtP K mg CP) (M : NpM P w K mg base NP fNP fdNP) (GL : FnOk P w K mg base (L2N.CX P w) 13 fL fdL ["row", "floors", "ends"] (spLookW K C NP 9)) (mgL : mg "look_through" = some (.ref fL)) (kL : PySem.W.keepIn K (.ref fL) = true) (bL : Binds K fdL ["row", "floors", "ends"] []) (DY : Def P w K mg base "lay_out" 11 ["row", "behind", "ends", "plan"] (spLay K C 9)) : FnOk P w K mg base (L2N.CX P w) 14 f fd ["self", "deeds"] (spPInitW K C CP NP) := by
  refine okC F scPI (fun vs H Q E h => ?_) (fun cdv A outer s H vs Q E hr h => ?_)
  · obtain ⟨p, dx, q, ws, rws, rfl, _⟩ := h
    rfl
  · obtain ⟨p, dx, q, vs, rws, rfl, hp, hqv, hvs, hdp, ky, ke⟩ := h
    have hr11 : Room 11 _ := hr.mono (by decide)
    have hr2 : Room 2 _ := hr.mono (by decide)
    refine ⟨_, pss_cons (ps_if (pt_not (pt_val (pe_callB (r := rIsi K) call_isi (by rfl) T.isi PyProof.Rows.boot_isinstance (pa_cons (pv 1) (pa_cons (pe_bltn (v := .ty "tuple") rfl G.mt PyProof.Rows.boot_tuple rfl) pa_nil))))) (pss_one (L2N.ps_raise rfl (L2N.takes_of rfl rfl rfl rfl) (pmk_gexN M.T.O M.iN M.tN M.ok hr2 M.bN .nil pass0 rfl M.T.mgN (pa_cons pe_int pa_nil)))) pss_nil) (pss_cons (ps_set (i := 2) scPI.nd rfl (Or.inl rfl) (pe_lst pa_nil)) (pss_cons (ps_expr (pe_callS GL hr rfl mgL kL bL (fun σ => L2N.passAt (L2N.takes_of rfl rfl rfl rfl) σ) (pa_cons (pv 1) (pa_cons pe_int (pa_cons (pv 2) pa_nil))))) (pss_cons (ps_set (i := 3) scPI.nd rfl (Or.inl rfl) (pe_lst pa_nil)) (pss_cons (ps_expr (pe_def DY hr11 rfl (pa_cons (pv 1) (pa_cons (pe_callB call_len_seq (by rfl) B.len PySem.boot_len (pa_cons (pv 2) pa_nil)) (pa_cons (pv 2) (pa_cons (pv 3) pa_nil)))))) (pss_cons (ps_fld (pv 0) (pv 1) rfl) (pss_one (ps_fld (pv 0) (pe_callTy call_tuple_of (by rfl) G.mt PyProof.Rows.boot_tuple (pa_cons (pv 3) pa_nil)) rfl))))))), ?_⟩
    have hsl := line4
    refine ⟨_, rfl, _, _, _, _, true, rfl, .ty "tuple", sqt_ty hqv, G.tt, _, rfl, iteF ?_⟩
    refine ⟨Nat.zero_le _, fun e ne => ?_⟩
    have s1 : Same H (upd H e (.lst [])) := Same.new ne
    have he1 : (upd H e (.lst [])) e = some (.lst (numsV [])) := upd_same
    revert s1 he1
    generalize upd H e (.lst []) = H1
    intro s1 he1
    refine ⟨_, rfl, _, rfl, q, e, 0, vs, rws, [], rfl, sqt_kt (KT.of s1) hqv, RwsAt_kt (KT.of s1) _ _ hvs, hdp, by decide, he1, by decide, fun r hok H2 kb2 he2 => ?_, fun hno m d H2 kb2 hd2 => ke hno m d H2 (fun b o h => kb2 _ _ (ne_of_none h ne) (s1 _ _ h)) hd2⟩
    have hq : RAt K C H q r := ⟨vs, hqv, RwsAt_dd rws vs r hvs hok.1⟩
    have hd : deepR r ≤ 8 := by have := hok.2.1; omega
    have hm : manyR r ≤ 4000 := by have := hok.2.2; omega
    have k := ky r hok
    rw [List.nil_append] at he2
    have kt2 : KT H1 H2 := kb2.kt he1
    have hep : e ≠ p := fun z => by rw [z, hp] at ne; cases ne
    refine ⟨Nat.zero_le _, fun pn npn => ?_⟩
    have s3 : Same H2 (upd H2 pn (.lst [])) := Same.new npn
    have hpn3 : (upd H2 pn (.lst [])) pn = some (.lst []) := upd_same
    have hpe : e ≠ pn := fun z => by rw [← z, he2] at npn; cases npn
    have hpp : pn ≠ p := fun z => by
      have : H2 p = some (.ins CP dx []) := kb2 _ _ (Ne.symm hep) (s1 _ _ hp)
      rw [z, this] at npn
      cases npn
    revert s3 hpn3
    generalize upd H2 pn (.lst []) = H3
    intro s3 hpn3
    have he3 := s3 _ _ he2
    have hq3 : RAt K C H3 q r := ((hq.same s1).kt kt2).same s3
    refine ⟨_, rfl, _, rfl, e, _, rfl, .inl (SqL.of he3), ?_⟩
    rw [numsV_len, endsR_len]
    refine ⟨_, rfl, _, rfl, q, e, pn, manyR r, r, endsR r 0, [], rfl, hq3, by omega, he3, Pre.whole _, hpn3, hpe, by simpa using hm, fun H4 ys kb4 hp4 hys => ?_⟩
    rw [List.nil_append] at hp4
    have kt4 : KT H3 H4 := kb4.kt hpn3
    have hpz : H4 p = some (.ins CP dx []) := kb4 _ _ (Ne.symm hpp) (s3 _ _ (kb2 _ _ (Ne.symm hep) (s1 _ _ hp)))
    refine ⟨_, rfl, _, rfl, p, CP, dx, [], rfl, hpz, TP.cl, TP.nD, (by show 0 < 1000; decide), ?_⟩
    have hp5 : (upd H4 p (.ins CP dx (putF "deeds" (.ref q) []))) pn = some (.lst ys) := by rw [upd_ne hpp]; exact hp4
    refine ⟨_, rfl, pn, _, rfl, .inl ⟨SqL.of hp5, fun pl npl => ?_⟩⟩
    have hplp : pl ≠ p := fun z => by rw [z, upd_same] at npl; cases npl
    refine ⟨_, rfl, p, CP, dx, _, rfl, by rw [upd_ne (Ne.symm hplp)]; exact upd_same, TP.cl, TP.nP, Nat.lt_of_le_of_lt (length_putF _ _ _) (by show 0 + 1 < 1000; decide), ?_⟩
    have kbz : KB p H4 (upd (upd (upd H4 p (.ins CP dx (putF "deeds" (.ref q) []))) pl (.tup ys)) p (.ins CP dx (pf q pl))) := fun a o na ha => by
      have npl4 : H4 pl = none := by
        rw [upd_ne hplp] at npl
        exact npl
      rw [upd_ne na, upd_ne (ne_of_none ha npl4), upd_ne na]
      exact ha
    have kbH : KB p H H4 := fun a o na ha => by
      have nae : a ≠ e := ne_of_none ha ne
      have h2 := kb2 _ _ nae (s1 _ _ ha)
      have nan : a ≠ pn := ne_of_none h2 npn
      exact kb4 _ _ nan (s3 _ _ h2)
    have fr := Fr.kb hpz kbz
    refine k pl ys _ (kbH.trans kbz) ?_ ?_ ((hq3.kt kt4).fr fr) (pls_fr fr hys)
    · exact upd_same
    · rw [upd_ne hplp, upd_same]
end
end Js

set_option Elab.async false
set_option linter.all false
set_option maxRecDepth 100000
set_option maxHeartbeats 2000000
namespace Js
open PySem L2
open PySem.Spec PyProof.Rows
theorem dpW_map {n : Nat} {f : Tr → Rw} (h : ∀ t, (f t).dp ≤ n) : ∀ ts : List Tr, dpW (ts.map f) ≤ n
  | [] => by rw [List.map_nil, dpW]; omega
  | t :: ts => by
    rw [List.map_cons, dpW]
    exact Nat.max_le.mpr ⟨h t, dpW_map h ts⟩
/-- what is told goes no deeper than the floors left -/
theorem deedW_dp : ∀ (n : Nat) (t : Tr), (deedW n t).dp ≤ n
  | 0, t => by
    rw [deedW]
    split
    · simp [Rw.dp]
    · split <;> simp [Rw.dp]
  | n + 1, t => by
    have ih := deedW_dp n
    rw [deedW]
    split
    · simp [Rw.dp]
    · split
      · simp [Rw.dp]
      · simp [Rw.dp]
      · simp [Rw.dp]
      · simp [Rw.dp]
      · simp [Rw.dp]
      · rw [Rw.dp]
        exact Nat.succ_le_succ (dpW_map ih _)
      · rw [Rw.dp]
        exact Nat.succ_le_succ (Nat.max_le.mpr ⟨dpW_map ih _, dpW_map ih _⟩)
      · simp [Rw.dp]
theorem rowW_dp (n : Nat) (t : Tr) : dpW (rowW n t) ≤ n := dpW_map (deedW_dp n) _
end Js

set_option Elab.async false
set_option linter.all false
set_option maxRecDepth 100000
set_option maxHeartbeats 2000000
/-! Program(..) of what is told, made or refused -/
namespace Js
open PySem L2
open PySem.Spec PyProof.Rows
structure MakerPW (P : Program) (w : World) (K : PySem.W.Frag) (mg : Str → Option Value) (base : Heap) (C CP NP fI : Addr) (fdI : FuncData) : Prop where
  M : Mk K CP fI
  G : FnOk P w K mg base (L2N.CX P w) 14 fI fdI ["self", "deeds"] (spPInitW K C CP NP)
  mgP : mg "Program" = some (.ref CP)
  b : Binds K fdI ["self", "deeds"] []
def tPW (K : PySem.W.Frag) (C CP NP : Addr) (E : L2.St → XK) (t : TA) : TE := fun σ H Q => t σ H fun vs H1 => ∃ (q : Addr) (ws : List V) (rws : List Rw), vs = [.ref q] ∧ SqT K H1 q ws ∧ RwsAt K C H1 ws rws ∧ dpW rws < 9 ∧
  (∀ r, okRow rws 0 0 r → ∀ z H', Same H1 H' → H1 z = none → PgAt K C CP H' z r → Q (.ref z) H') ∧
  ((¬ ∃ r, okRow rws 0 0 r) → ∀ (m : Nat) (d : Addr) H', Same H1 H' → H' d = some (.xd [("place", .int (m : Nat))]) → E σ (.ref NP) (some d) H')
theorem mk_pgW {K : PySem.W.Frag} {C CP NP q : Addr} {H : Hp} {ws : List V} {rws : List Rw} {Q : VK} {E : XK} (hq : SqT K H q ws) (hw : RwsAt K C H ws rws) (hd : dpW rws < 9)
    (k : ∀ r, okRow rws 0 0 r → ∀ z H', Same H H' → H z = none → PgAt K C CP H' z r → Q (.ref z) H')
    (ke : (¬ ∃ r, okRow rws 0 0 r) → ∀ (m : Nat) (d : Addr) H', Same H H' → H' d = some (.xd [("place", .int (m : Nat))]) → E (.ref NP) (some d) H') :
    ∀ x dx, H x = none → H dx = none → dx ≠ x → spPInitW K C CP NP (.ref x :: ([.ref q] ++ [])) (upd (upd H dx (.own x)) x (.ins CP dx [])) (fun v H3 => v = .non ∧ Q (.ref x) H3) E := by
  intro x dx nx ndx ne
  have s0 : Same H (upd (upd H dx (.own x)) x (.ins CP dx [])) := (Same.new ndx).trans (Same.new (by rw [upd_ne (Ne.symm ne)]; exact nx))
  refine ⟨x, dx, q, ws, rws, rfl, upd_same, sqt_kt (KT.of s0) hq, RwsAt_kt (KT.of s0) _ _ hw, hd, fun r hok pl ys H' kb hx hpl hr hys => ⟨rfl, ?_⟩, fun hno m d H' s h => ke hno m d H' (s0.trans s) h⟩
  refine k r hok x H' (fun b o h => kb _ _ (ne_of_none h nx) (s0 _ _ h)) nx ?_
  exact ⟨⟨dx, q, pl, ys, hx, hr, hpl, hys⟩, by have := hok.2.1; omega, by have := hok.2.2; omega⟩
section
variable {X : Cx} {C CP NP fI : Addr} {fdI : FuncData} {p pos : Pos} {e : Expr} {es : List Expr} {t : TA} {E : L2.St → XK}
theorem pe_PW (mk : MakerPW X.prog X.w X.K X.mg X.base C CP NP fI fdI) (hr : Room 15 X.A) (hg : Gl X "Program") (out : ∀ σ, PassesAt (L2N.CX X.prog X.w) X σ (E σ)) (ha : PA X (e :: es) t)
    (he : starEach (e :: es) X.env = (false, eval e X.env) :: starEach es X.env := by rfl) (hpl : (backTo pos (starEach es X.env)).any (·.1) = false := by rfl) : PE X (.Call (.Name "Program" p) (e :: es) [] pos) (tPW X.K C CP NP E t) := by
  refine ⟨fun pins s σ H Q I h => ?_⟩
  refine wpAny_Call_Name_kw (ld_glob I hg mk.mgP ?_ (by decide))
  refine PySem.W.callWith_K (h₀ := X.base) I.ok.mod.kin mk.M.kp (thn (ha.run pos pins s σ H _ I h) fun us s1 ⟨vs, H1, I1, r, q⟩ => ⟨I1.kIn, ?_⟩) he hpl
  obtain ⟨q, ws, rws, rfl, h1, h2, h3, k, ke⟩ := q
  exact make_at mk.M mk.G hr mk.b .nil (out σ) I1 r (mk_pgW h1 h2 h3 k ke)
end
end Js

set_option Elab.async false
set_option linter.all false
set_option maxRecDepth 100000
set_option maxHeartbeats 2000000
/-! program_of on any thing -/
namespace Js
open PySem L2
open PySem.Spec PyProof.Rows
def spProgW (K : PySem.W.Frag) (C CP NP : Addr) : Sp := fun vs H Q E => ∃ (y : Addr) (t : Tr), vs = [.ref y] ∧ Th C H y t ∧ t.size ≤ 4000 ∧
  (∀ r, okRow (rowW 8 t) 0 0 r → ∀ z H', Same H H' → H z = none → PgAt K C CP H' z r → Q (.ref z) H') ∧
  ((¬ ∃ r, okRow (rowW 8 t) 0 0 r) → ∀ (m : Nat) (d : Addr) H', Same H H' → H' d = some (.xd [("place", .int (m : Nat))]) → E (.ref NP) (some d) H')
section
variable {P : Program} {w : World} {K : PySem.W.Frag} {mg : Str → Option Value} {base : Heap} {C CP NP fNP fP : Addr} {fdNP fdP : FuncData}
theorem ok_progW {f : Addr} {fd : FuncData} (F : Fun K "program_of" "program_of" sProgOf f fd) (T : Txt K mg C) (M : NpM P w K mg base NP fNP fdNP) (MP : MakerPW P w K mg base C CP NP fP fdP) (DRt : Def P w K mg base "row_told" 30 ["thing", "floors"] (spRwT K C 9)) : FnOk P w K mg base (L2N.CX P w) 34 f fd ["thing"] (spProgW K C CP NP) := by
  refine okC F scPo (fun vs H Q E h => ?_) (fun cdv A outer s H vs Q E hr' h => ?_)
  · obtain ⟨y, t, rfl, _⟩ := h
    rfl
  · obtain ⟨y, t, rfl, hy, hz, k, ke⟩ := h
    have hr : Room 30 _ := hr'.mono (by decide)
    have hr2 : Room 2 _ := hr'.mono (by decide)
    have hr15 : Room 15 _ := hr'.mono (by decide)
    refine ⟨_, pss_cons (ps_if (pt_not (pt_val (pe_callB (r := rIsi K) call_isi (by rfl) T.isi PyProof.Rows.boot_isinstance (pa_cons (pv 0) (pa_cons (pe_glob (v := .ref C) rfl T.mgC rfl) pa_nil))))) (pss_one (L2N.ps_raise rfl (L2N.takes_of rfl rfl rfl rfl) (pmk_gexN M.T.O M.iN M.tN M.ok hr2 M.bN .nil pass0 rfl M.T.mgN (pa_cons pe_int pa_nil)))) pss_nil) (pss_one (ps_ret (pe_PW MP hr15 rfl (fun σ => L2N.passAt (L2N.takes_of rfl rfl rfl rfl) σ) (pa_cons (pe_def DRt hr rfl (pa_cons (pv 0) (pa_cons pe_int pa_nil))) pa_nil)))), ?_⟩
    obtain ⟨dx, f1, g1, h1⟩ := hy.obj
    refine ⟨_, rfl, _, _, _, _, true, rfl, ClsV.own C, .base (.ins h1 T.cl T.ca T.cn T.ct T.cm), kit_self _ _, _, rfl, iteF ?_⟩
    refine ⟨_, rfl, 8, y, 0, t, rfl, rfl, hy, hz, rfl, fun q ws H1 s1 hq hws => ?_⟩
    have hdp := rowW_dp 8 t
    exact ⟨q, ws, rowW 8 t, rfl, hq, hws, by omega, fun r hok z H2 s2 nz hz2 => k r hok z H2 (s1.trans s2) (s1.free nz) hz2, fun hno m d H2 s2 hd => ke hno m d H2 (s1.trans s2) hd⟩
end
end Js

set_option Elab.async false
set_option linter.all false
set_option maxRecDepth 100000
set_option maxHeartbeats 2000000
namespace Js
open PySem L2
/-! the machine: where a run stands, and what comes of it -/
def nmA (ns : List Tr) (a : Nat) : Tr := ns.getD a .nil
def yesT : Tr := .pr .nil .nil
def Dd.look : Dd → Bool
  | .wh _ _ => true
  | .iff _ _ _ => true
  | _ => false
/-- what a deed that is no look makes -/
def Dd.made (ns : List Tr) : Dd → Tr
  | .told _ t => t
  | .take false _ b => (nmA ns b).head
  | .take true _ b => (nmA ns b).tail
  | .two false _ b c => .pr (nmA ns b) (nmA ns c)
  | .two true _ b c => if nmA ns b = nmA ns c then yesT else .nil
  | _ => .nil
/-- whether a pair would be too great -/
def Dd.grt (ns : List Tr) : Dd → Bool
  | .two false _ b c => decide (4000 < 1 + (nmA ns b).size + (nmA ns c).size)
  | _ => false
abbrev Pt := Dd × List Nat
def stepP (x : Pt) (ns : List Tr) : Nat := if x.1.look then (if 0 < (nmA ns x.1.nm1).size then x.2.getD 0 0 else x.2.getD 1 0) else x.2.getD 0 0
def stepN (x : Pt) (ns : List Tr) : List Tr := if x.1.look then ns else ns.set x.1.nm1 (x.1.made ns)
inductive Wd where
  | ended
  | opn
  | great
  deriving DecidableEq
def runM (pl : List Pt) : Nat → Nat → List Tr → Nat → Wd × Nat × Tr
  | 0, pt, ns, st => match pl[pt]? with
    | none => (.ended, st, nmA ns 0)
    | some _ => (.opn, st, .nil)
  | b + 1, pt, ns, st => match pl[pt]? with
    | none => (.ended, st, nmA ns 0)
    | some x => if x.1.grt ns then (.great, st, .nil) else runM pl b (stepP x ns) (stepN x ns) (st + 1)
theorem runM_end {pl : List Pt} {b pt st : Nat} {ns : List Tr} (h : pl[pt]? = none) : runM pl b pt ns st = (.ended, st, nmA ns 0) := by
  cases b <;> (rw [runM, h])
theorem runM_open {pl : List Pt} {pt st : Nat} {ns : List Tr} {x : Pt} (h : pl[pt]? = some x) : runM pl 0 pt ns st = (.opn, st, .nil) := by
  rw [runM, h]
theorem runM_great {pl : List Pt} {b pt st : Nat} {ns : List Tr} {x : Pt} (h : pl[pt]? = some x) (g : x.1.grt ns = true) : runM pl (b + 1) pt ns st = (.great, st, .nil) := by
  rw [runM, h]
  exact if_pos g
theorem runM_step {pl : List Pt} {b pt st : Nat} {ns : List Tr} {x : Pt} (h : pl[pt]? = some x) (g : x.1.grt ns = false) : runM pl (b + 1) pt ns st = runM pl b (stepP x ns) (stepN x ns) (st + 1) := by
  rw [runM, h]
  exact if_neg (by rw [g]; exact Bool.false_ne_true)
/-! where the deeds lead -/
theorem look_grt (d : Dd) (ns : List Tr) (h : d.look = true) : d.grt ns = false := by
  cases d <;> first | rfl | cases h
mutual
theorem lay_ways : ∀ (d : Dd) (f n : Nat) (x : Pt), x ∈ d.lay f n → x.2.length = (if x.1.look then 2 else 1) ∧ ∀ w ∈ x.2, w ≤ max f (n + d.many)
  | .told a t, f, n, x, h => by
    rw [Dd.lay, List.mem_singleton] at h
    subst h
    exact ⟨rfl, fun w hw => by rw [List.mem_singleton] at hw; subst hw; exact Nat.le_max_left _ _⟩
  | .take s a b, f, n, x, h => by
    rw [Dd.lay, List.mem_singleton] at h
    subst h
    exact ⟨rfl, fun w hw => by rw [List.mem_singleton] at hw; subst hw; exact Nat.le_max_left _ _⟩
  | .two s a b c, f, n, x, h => by
    rw [Dd.lay, List.mem_singleton] at h
    subst h
    exact ⟨rfl, fun w hw => by rw [List.mem_singleton] at hw; subst hw; exact Nat.le_max_left _ _⟩
  | .wh a r, f, n, x, h => by
    rw [Dd.lay] at h
    rcases List.mem_cons.mp h with rfl | h
    · refine ⟨rfl, fun w hw => ?_⟩
      rw [many_wh]
      simp only [List.mem_cons, List.not_mem_nil, or_false] at hw
      rcases hw with rfl | rfl
      · split <;> omega
      · omega
    · obtain ⟨h1, h2⟩ := layR_ways r n (n + 1) x h
      refine ⟨h1, fun w hw => ?_⟩
      have := h2 w hw
      rw [many_wh]
      omega
  | .iff a r o, f, n, x, h => by
    rw [Dd.lay] at h
    rcases List.mem_cons.mp h with rfl | h
    · refine ⟨rfl, fun w hw => ?_⟩
      rw [many_iff]
      simp only [List.mem_cons, List.not_mem_nil, or_false] at hw
      rcases hw with rfl | rfl
      · split <;> omega
      · split <;> omega
    · rcases List.mem_append.mp h with h | h
      · obtain ⟨h1, h2⟩ := layR_ways r f (n + 1) x h
        refine ⟨h1, fun w hw => ?_⟩
        have := h2 w hw
        rw [many_iff]
        omega
      · obtain ⟨h1, h2⟩ := layR_ways o f (n + 1 + manyR r) x h
        refine ⟨h1, fun w hw => ?_⟩
        have := h2 w hw
        rw [many_iff]
        omega
theorem layR_ways : ∀ (r : List Dd) (f n : Nat) (x : Pt), x ∈ layR r f n → x.2.length = (if x.1.look then 2 else 1) ∧ ∀ w ∈ x.2, w ≤ max f (n + manyR r)
  | [], f, n, x, h => by rw [layR] at h; cases h
  | d :: r, f, n, x, h => by
    rw [layR] at h
    rcases List.mem_append.mp h with h | h
    · obtain ⟨h1, h2⟩ := lay_ways d _ n x h
      refine ⟨h1, fun w hw => ?_⟩
      have := h2 w hw
      rw [many_cons]
      split at this <;> omega
    · obtain ⟨h1, h2⟩ := layR_ways r f _ x h
      refine ⟨h1, fun w hw => ?_⟩
      have := h2 w hw
      rw [many_cons]
      omega
end
/-- the plan of a program -/
def planR (r : List Dd) : List Pt := layR r (manyR r) 0
theorem planR_len (r : List Dd) : (planR r).length = manyR r := layR_len _ _ _
theorem plan_ways {r : List Dd} {pt : Nat} {x : Pt} (h : (planR r)[pt]? = some x) : x.2.length = (if x.1.look then 2 else 1) ∧ ∀ w ∈ x.2, w ≤ manyR r := by
  obtain ⟨h1, h2⟩ := layR_ways r (manyR r) 0 x (List.mem_of_getElem? h)
  exact ⟨h1, fun w hw => by have := h2 w hw; omega⟩
theorem getD_le {ws : List Nat} {m : Nat} (h : ∀ w ∈ ws, w ≤ m) (i : Nat) : ws.getD i 0 ≤ m := by
  rw [List.getD_eq_getElem?_getD]
  cases e : ws[i]? with
  | none => exact Nat.zero_le _
  | some w => exact h w (List.mem_of_getElem? e)
theorem stepP_le {r : List Dd} {pt : Nat} {x : Pt} (h : (planR r)[pt]? = some x) (ns : List Tr) : stepP x ns ≤ manyR r := by
  obtain ⟨_, h2⟩ := plan_ways h
  unfold stepP
  split
  · split
    · exact getD_le h2 0
    · exact getD_le h2 1
  · exact getD_le h2 0
/-! sizes -/
def NsOk (ns : List Tr) : Prop := ns.length = 10 ∧ ∀ t ∈ ns, t.size ≤ 4000
theorem nmA_le {ns : List Tr} (h : NsOk ns) (a : Nat) : (nmA ns a).size ≤ 4000 := by
  unfold nmA
  rw [List.getD_eq_getElem?_getD]
  cases e : ns[a]? with
  | none => exact Nat.zero_le _
  | some t => exact h.2 t (List.mem_of_getElem? e)
theorem nmA_at {ns : List Tr} (h : NsOk ns) {a : Nat} (ha : a < 10) : ns[a]? = some (nmA ns a) := by
  unfold nmA
  rw [List.getD_eq_getElem?_getD, List.getElem?_eq_getElem (by rw [h.1]; exact ha)]
  rfl
theorem made_le {ns : List Tr} (h : NsOk ns) (d : Dd) (ht : ∀ a t, d = .told a t → t.size ≤ 4000) (g : d.grt ns = false) : (d.made ns).size ≤ 4000 := by
  cases d with
  | told a t => exact ht a t rfl
  | take s a b =>
    have hb := nmA_le h b
    cases s with
    | false =>
      show ((nmA ns b).head).size ≤ 4000
      cases e : nmA ns b with
      | nil => exact Nat.zero_le _
      | pr l r => rw [e] at hb; simp only [Tr.size] at hb; simp only [Tr.head]; omega
    | true =>
      show ((nmA ns b).tail).size ≤ 4000
      cases e : nmA ns b with
      | nil => exact Nat.zero_le _
      | pr l r => rw [e] at hb; simp only [Tr.size] at hb; simp only [Tr.tail]; omega
  | two s a b c =>
    cases s with
    | false =>
      have := of_decide_eq_false g
      show (Tr.pr (nmA ns b) (nmA ns c)).size ≤ 4000
      simp only [Tr.size]
      omega
    | true =>
      show (if nmA ns b = nmA ns c then yesT else Tr.nil).size ≤ 4000
      split <;> simp [yesT, Tr.size]
  | wh a r => exact Nat.zero_le _
  | iff a r o => exact Nat.zero_le _
theorem stepN_ok {ns : List Tr} (h : NsOk ns) {x : Pt} (ht : ∀ a t, x.1 = .told a t → t.size ≤ 4000) (g : x.1.grt ns = false) : NsOk (stepN x ns) := by
  unfold stepN
  split
  · exact h
  · refine ⟨by rw [List.length_set]; exact h.1, fun t hm => ?_⟩
    rcases List.mem_or_eq_of_mem_set hm with hm | rfl
    · exact h.2 t hm
    · exact made_le h x.1 ht g
end Js

set_option Elab.async false
set_option linter.all false
set_option maxRecDepth 100000
set_option maxHeartbeats 2000000
namespace Js
open PySem L2
abbrev sYes : Stmt := top 11
abbrev sMade : Stmt := top 47
abbrev sDo : Stmt := top 46
def bndX : List (Str × V) := [("bound", .int ((4000 : Nat) : Int))]
def spYes (C : Addr) : Sp := fun vs H Q _ => vs = [] ∧ ∀ a H', Same H H' → Th C H' a yesT → Q (.ref a) H'
def spMade (K : PySem.W.Frag) (C N : Addr) : Sp := fun vs H Q E => ∃ (v : V) (d : Dd) (l : Addr) (us : List V) (ns : List Tr), vs = [v, .ref l] ∧ DAt K C H v d ∧ d.look = false ∧ H l = some (.lst us) ∧ Paired (ThV C H) us ns ∧ NsOk ns ∧
  (d.grt ns = false → ∀ a H', Same H H' → Th C H' a (d.made ns) → Q (.ref a) H') ∧ (d.grt ns = true → ∀ dd H', Same H H' → H' dd = some (.xd bndX) → E (.ref N) (some dd) H')
def spDo (K : PySem.W.Frag) (C CP N : Addr) : Sp := fun vs H Q E => ∃ (a l : Addr) (r : List Dd) (us : List V) (ns : List Tr) (pt : Nat) (x : Pt), vs = [.ref a, .int (pt : Nat), .ref l] ∧ PgAt K C CP H a r ∧ H l = some (.lst us) ∧ Paired (ThV C H) us ns ∧ NsOk ns ∧ (planR r)[pt]? = some x ∧
  (x.1.grt ns = false → NsOk (stepN x ns) → ∀ us' H', KB l H H' → H' l = some (.lst us') → Paired (ThV C H') us' (stepN x ns) → Q (.int ((stepP x ns : Nat) : Int)) H') ∧ (x.1.grt ns = true → ∀ dd H', Same H H' → H' dd = some (.xd bndX) → E (.ref N) (some dd) H')
theorem nms_get {C : Addr} {H : Hp} {us : List V} {ns : List Tr} (h : Paired (ThV C H) us ns) (ok : NsOk ns) {a : Nat} (ha : a < 10) : ∃ b, us[a]? = some (.ref b) ∧ Th C H b (nmA ns a) := by
  have hl := Paired.length h
  have h1 : a < us.length := by rw [hl, ok.1]; exact ha
  obtain ⟨t, e, b, eb, hb⟩ := paired_get h (List.getElem?_eq_getElem h1)
  have e2 := nmA_at ok ha
  rw [e] at e2
  cases Option.some.inj e2
  exact ⟨b, by rw [List.getElem?_eq_getElem h1, eb], hb⟩
theorem paired_set {α β : Type} {R : α → β → Prop} : ∀ {xs : List α} {ys : List β} (i : Nat) {x : α} {y : β}, Paired R xs ys → R x y → Paired R (xs.set i x) (ys.set i y)
  | _, _, _, _, _, .nil, _ => .nil
  | _, _, 0, _, _, .cons _ t, h => .cons h t
  | _, _, i + 1, _, _, .cons h0 t, h => .cons h0 (paired_set i t h)
theorem k_ft : ¬ (("first" : Str) = "told") := by decide +kernel
theorem k_st : ¬ (("second" : Str) = "told") := by decide +kernel
theorem k_pt : ¬ (("pair" : Str) = "told") := by decide +kernel
theorem k_mt : ¬ (("same" : Str) = "told") := by decide +kernel
theorem k_sf : ¬ (("second" : Str) = "first") := by decide +kernel
theorem k_pf : ¬ (("pair" : Str) = "first") := by decide +kernel
theorem k_mf : ¬ (("same" : Str) = "first") := by decide +kernel
theorem k_ps : ¬ (("pair" : Str) = "second") := by decide +kernel
theorem k_ms : ¬ (("same" : Str) = "second") := by decide +kernel
theorem k_mp : ¬ (("same" : Str) = "pair") := by decide +kernel
theorem dS (x y : Str) (h : ¬ x = y) : decide (V.str x = V.str y) = false := decide_eq_false fun z => h (V.str.inj z)
theorem dS1 (x : Str) : decide (V.str x = V.str x) = true := decide_eq_true rfl
theorem atI1 (x y : V) (xs : List V) : atI (x :: y :: xs) 1 = some y := by
  have h : atI (x :: y :: xs) ((1 : Nat) : Int) = some y := atI_nat rfl
  exact h
theorem at2 (x y z : V) (xs : List V) : atI (x :: y :: z :: xs) 2 = some z := by
  have h : atI (x :: y :: z :: xs) ((2 : Nat) : Int) = some z := atI_nat rfl
  exact h
theorem at3 (x y z u : V) (xs : List V) : atI (x :: y :: z :: u :: xs) 3 = some u := by
  have h : atI (x :: y :: z :: u :: xs) ((3 : Nat) : Int) = some u := atI_nat rfl
  exact h
section
variable {P : Program} {w : World} {K : PySem.W.Frag} {mg : Str → Option Value} {base : Heap} {C CP N fI : Addr} {fdI : FuncData}
theorem scYe : FnScope [] [] (defScope sYes) := ⟨rfl, rfl, rfl, by decide +kernel, rfl, by decide +kernel, by decide +kernel⟩
theorem ok_yes {f : Addr} {fd : FuncData} (F : Fun K "yes" "yes" sYes f fd) (mk : Maker P w K mg base C fI fdI) : FnOk P w K mg base CX0 4 f fd [] (spYes C) := by
  refine F.ok scYe (fun vs H Q E h => ?_) (fun cdv A outer s H vs Q E hr h => ?_)
  · obtain ⟨rfl, _⟩ := h
    rfl
  · obtain ⟨rfl, k⟩ := h
    have hr3 : Room 3 _ := hr
    refine ⟨_, pss_one (ps_ret (pe_T2 mk hr3 rfl (pa_cons (pe_T0 mk hr3 rfl) (pa_cons (pe_T0 mk hr3 rfl) pa_nil)))), ?_⟩
    refine fun z1 H1 s1 _ h1 => fun z2 H2 s2 _ h2 => ?_
    refine ⟨z1, z2, .nil, .nil, rfl, h1.same s2, h2, by decide, fun z H' s' _ h' => ?_⟩
    exact k z H' ((s1.trans s2).trans s') h'
theorem scMd : FnScope ["deed", "names", "kind", "one", "other"] ["deed", "names"] (defScope sMade) := ⟨rfl, rfl, rfl, by decide +kernel, rfl, by decide +kernel, by decide +kernel⟩
theorem ok_made {f fY : Addr} {fd fdY : FuncData} (F : Fun K "thing_made" "thing_made" sMade f fd) (T : Txt K mg C) (mk : Maker P w K mg base C fI fdI) (mx : MakerN P w K mg base C fI N fdI) (SE : Spc P w K mg base C "__eq__" 2 ["self", "other"] (spEqT C))
    (MH : Mth P w K mg base C "head" 1 ["self"] (spHead C)) (MT : Mth P w K mg base C "tail" 1 ["self"] (spTail C)) (GY : FnOk P w K mg base CX0 4 fY fdY [] (spYes C)) (mgY : mg "yes" = some (.ref fY)) (kY : PySem.W.keepIn K (.ref fY) = true) (bY : Binds K fdY [] []) :
    FnOk P w K mg base (L2N.CX P w) 5 f fd ["deed", "names"] (spMade K C N) := by
  refine okC F scMd (fun vs H Q E h => ?_) (fun cdv A outer s H vs Q E hr h => ?_)
  · obtain ⟨v, d, l, us, ns, rfl, _⟩ := h
    rfl
  · obtain ⟨v, d, l, us, ns, rfl, hd, hlk, hl, hps, hok, k, ke⟩ := h
    have hr1 : Room 1 _ := hr.mono (by decide)
    have hr2 : Room 2 _ := hr.mono (by decide)
    have hr3 : Room 3 _ := hr.mono (by decide)
    have hr4 : Room 4 _ := hr
    refine ⟨_, pss_cons (ps_set (i := 2) scMd.nd rfl (Or.inl rfl) (pe_ix (r := rIxT K) ix_tup (pv 0) pe_int (fun _ _ => rfl))) (pss_cons (ps_if (pt_cmpR op_eq (pv 2) pe_str (nomark _)) (pss_one (ps_ret (pe_ix (r := rIxT K) ix_tup (pv 0) pe_int (fun _ _ => rfl)))) pss_nil) (pss_cons (ps_set (i := 3) scMd.nd rfl (Or.inl rfl) (pe_ix (r := rIxL K) ix_list (pv 1) (pe_ix (r := rIxT K) ix_tup (pv 0) pe_int (fun _ _ => rfl)) (fun _ _ => rfl))) (pss_cons (ps_if (pt_cmpR op_eq (pv 2) pe_str (nomark _)) (pss_one (ps_ret (pe_mth MH T hr1 (pv 3)))) pss_nil) (pss_cons (ps_if (pt_cmpR op_eq (pv 2) pe_str (nomark _)) (pss_one (ps_ret (pe_mth MT T hr1 (pv 3)))) pss_nil) (pss_cons (ps_set (i := 4) scMd.nd rfl (Or.inl rfl) (pe_ix (r := rIxL K) ix_list (pv 1) (pe_ix (r := rIxT K) ix_tup (pv 0) pe_int (fun _ _ => rfl)) (fun _ _ => rfl))) (pss_cons (ps_if (pt_cmpR op_eq (pv 2) pe_str (nomark _)) (pss_one (ps_ret (pe_T2N mx hr4 rfl (fun σ => L2N.passAt (L2N.takes_of rfl rfl rfl rfl) σ) (pa_cons (pv 3) (pa_cons (pv 4) pa_nil))))) pss_nil) (pss_one (ps_ret (pe_ifExp (pt_cmpR (op_eqT SE hr2) (pv 3) (pv 4) (nomark _)) (pe_call0 GY hr4 rfl mgY kY bY .nil pass0) (pe_T0 mk hr3 rfl)))))))))), ?_⟩
    cases d with
    | wh a r => cases hlk
    | iff a r o => cases hlk
    | told a t =>
      obtain ⟨p, x, rfl, hp, ha, hx, hz⟩ := hd
      refine ⟨_, rfl, p, _, 0, _, rfl, rfl, hp, at0 _ _, ?_⟩
      refine ⟨_, rfl, rfl, _, rfl, ?_⟩
      rw [dS1]
      refine iteT ?_
      exact ⟨_, rfl, p, _, 2, _, rfl, rfl, hp, at2 _ _ _ _, k rfl x H (Same.refl H) hx⟩
    | take s0 a b =>
      obtain ⟨p, rfl, hp, ha, hb⟩ := hd
      obtain ⟨c, hc, hcT⟩ := nms_get hps hok hb
      obtain ⟨dx, f1, g1, h1⟩ := hcT.obj
      refine ⟨_, rfl, p, _, 0, _, rfl, rfl, hp, at0 _ _, ?_⟩
      refine ⟨_, rfl, rfl, _, rfl, ?_⟩
      cases s0 with
      | false =>
        rw [show decide (V.str (takeS false) = V.str "told") = false from dS _ _ k_ft]
        refine iteF ?_
        refine ⟨_, rfl, _, rfl, p, _, 2, _, rfl, rfl, hp, at2 _ _ _ _, l, _, _, _, rfl, rfl, SqL.of hl, atI_nat hc, ?_⟩
        refine ⟨_, rfl, rfl, _, rfl, ?_⟩
        rw [show decide (V.str (takeS false) = V.str "first") = true from dS1 _]
        refine iteT ?_
        exact ⟨_, rfl, c, dx, _, rfl, h1, tf_head _ _ _, c, _, rfl, hcT, fun x hx => k rfl x H (Same.refl H) hx⟩
      | true =>
        rw [show decide (V.str (takeS true) = V.str "told") = false from dS _ _ k_st]
        refine iteF ?_
        refine ⟨_, rfl, _, rfl, p, _, 2, _, rfl, rfl, hp, at2 _ _ _ _, l, _, _, _, rfl, rfl, SqL.of hl, atI_nat hc, ?_⟩
        refine ⟨_, rfl, rfl, _, rfl, ?_⟩
        rw [show decide (V.str (takeS true) = V.str "first") = false from dS _ _ k_sf]
        refine iteF ?_
        refine ⟨_, rfl, rfl, _, rfl, ?_⟩
        rw [show decide (V.str (takeS true) = V.str "second") = true from dS1 _]
        refine iteT ?_
        exact ⟨_, rfl, c, dx, _, rfl, h1, tf_tail _ _ _, c, _, rfl, hcT, fun x hx => k rfl x H (Same.refl H) hx⟩
    | two s0 a b e =>
      obtain ⟨p, rfl, hp, ha, hb, he⟩ := hd
      obtain ⟨c, hc, hcT⟩ := nms_get hps hok hb
      obtain ⟨c2, hc2, hcT2⟩ := nms_get hps hok he
      have z1 := nmA_le hok b
      have z2 := nmA_le hok e
      refine ⟨_, rfl, p, _, 0, _, rfl, rfl, hp, at0 _ _, ?_⟩
      refine ⟨_, rfl, rfl, _, rfl, ?_⟩
      cases s0 with
      | false =>
        rw [show decide (V.str (twoS false) = V.str "told") = false from dS _ _ k_pt]
        refine iteF ?_
        refine ⟨_, rfl, _, rfl, p, _, 2, _, rfl, rfl, hp, at2 _ _ _ _, l, _, _, _, rfl, rfl, SqL.of hl, atI_nat hc, ?_⟩
        refine ⟨_, rfl, rfl, _, rfl, ?_⟩
        rw [show decide (V.str (twoS false) = V.str "first") = false from dS _ _ k_pf]
        refine iteF ?_
        refine ⟨_, rfl, rfl, _, rfl, ?_⟩
        rw [show decide (V.str (twoS false) = V.str "second") = false from dS _ _ k_ps]
        refine iteF ?_
        refine ⟨_, rfl, _, rfl, p, _, 3, _, rfl, rfl, hp, at3 _ _ _ _ _, l, _, _, _, rfl, rfl, SqL.of hl, atI_nat hc2, ?_⟩
        refine ⟨_, rfl, rfl, _, rfl, ?_⟩
        rw [show decide (V.str (twoS false) = V.str "pair") = true from dS1 _]
        refine iteT ?_
        refine ⟨_, rfl, _, rfl, c, c2, _, _, rfl, hcT, hcT2, by omega, fun h4 z H' s' _ hz => ?_, fun h4 dd H' s' hdd => ?_⟩
        · exact k (decide_eq_false (by omega)) z H' s' hz
        · exact ke (decide_eq_true h4) dd H' s' hdd
      | true =>
        rw [show decide (V.str (twoS true) = V.str "told") = false from dS _ _ k_mt]
        refine iteF ?_
        refine ⟨_, rfl, _, rfl, p, _, 2, _, rfl, rfl, hp, at2 _ _ _ _, l, _, _, _, rfl, rfl, SqL.of hl, atI_nat hc, ?_⟩
        refine ⟨_, rfl, rfl, _, rfl, ?_⟩
        rw [show decide (V.str (twoS true) = V.str "first") = false from dS _ _ k_mf]
        refine iteF ?_
        refine ⟨_, rfl, rfl, _, rfl, ?_⟩
        rw [show decide (V.str (twoS true) = V.str "second") = false from dS _ _ k_ms]
        refine iteF ?_
        refine ⟨_, rfl, _, rfl, p, _, 3, _, rfl, rfl, hp, at3 _ _ _ _ _, l, _, _, _, rfl, rfl, SqL.of hl, atI_nat hc2, ?_⟩
        refine ⟨_, rfl, rfl, _, rfl, ?_⟩
        rw [show decide (V.str (twoS true) = V.str "pair") = false from dS _ _ k_mp]
        refine iteF ?_
        refine ⟨_, rfl, _, rfl, c, c2, _, _, rfl, rfl, hcT, hcT2, z1, fun H1 s1 => ?_⟩
        refine ⟨_, rfl, ?_⟩
        by_cases hbe : nmA ns b = nmA ns e
        · rw [decide_eq_true hbe]
          refine iteT ?_
          refine ⟨rfl, fun x H2 s2 hx => k rfl x H2 (s1.trans s2) ?_⟩
          show Th C H2 x (if nmA ns b = nmA ns e then yesT else .nil)
          rw [if_pos hbe]
          exact hx
        · rw [decide_eq_false hbe]
          refine iteF ?_
          intro x H2 s2 _ hx
          refine k rfl x H2 (s1.trans s2) ?_
          show Th C H2 x (if nmA ns b = nmA ns e then yesT else .nil)
          rw [if_neg hbe]
          exact hx
theorem scDo : FnScope ["program", "point", "names", "deed", "ways"] ["program", "point", "names"] (defScope sDo) := ⟨rfl, rfl, rfl, by decide +kernel, rfl, by decide +kernel, by decide +kernel⟩
theorem ok_do {f fM : Addr} {fd fdM : FuncData} (F : Fun K "do_deed" "do_deed" sDo f fd) (B : Blt mg) (T : Txt K mg C) (TP : TxtP K mg CP) (GM : FnOk P w K mg base (L2N.CX P w) 5 fM fdM ["deed", "names"] (spMade K C N)) (mgM : mg "thing_made" = some (.ref fM)) (kM : PySem.W.keepIn K (.ref fM) = true) (bM : Binds K fdM ["deed", "names"] []) :
    FnOk P w K mg base (L2N.CX P w) 6 f fd ["program", "point", "names"] (spDo K C CP N) := by
  refine okC F scDo (fun vs H Q E h => ?_) (fun cdv A outer s H vs Q E hr h => ?_)
  · obtain ⟨a, l, r, us, ns, pt, x, rfl, _⟩ := h
    rfl
  · obtain ⟨a, l, r, us, ns, pt, x, rfl, ha, hl, hps, hok, hx, k, ke⟩ := h
    refine ⟨_, pss_cons (ps_asg (pe_ix (r := rIxT K) ix_tup (pe_fld (pv 0) rfl) (pv 1) (fun _ _ => rfl)) (pg_tup rfl (pgs_cons (pg_name (i := 3) scDo.nd rfl (Or.inl rfl)) (pgs_cons (pg_name (i := 4) scDo.nd rfl (Or.inl rfl)) pgs_nil)))) (pss_cons (ps_if (pt_cmpR op_eq (pe_callB call_len_seq (by rfl) B.len PySem.boot_len (pa_cons (pv 4) pa_nil)) pe_int (nomark _)) (pss_one (ps_ret (pe_ifExp (pt_truth (pe_fld (pe_ix (r := rIxL K) ix_list (pv 2) (pe_ix (r := rIxT K) ix_tup (pv 3) pe_int (fun _ _ => rfl)) (fun _ _ => rfl)) rfl) (by intro _; rfl)) (pe_ix (r := rIxT K) ix_tup (pv 4) pe_int (fun _ _ => rfl)) (pe_ix (r := rIxT K) ix_tup (pv 4) pe_int (fun _ _ => rfl))))) pss_nil) (pss_cons (ps_asg (pe_callS GM hr rfl mgM kM bM (fun σ => L2N.passAt (L2N.takes_of rfl rfl rfl rfl) σ) (pa_cons (pv 3) (pa_cons (pv 2) pa_nil))) (pg_sub (pv 2) (pe_ix (r := rIxT K) ix_tup (pv 3) pe_int (fun _ _ => rfl)) set_list)) (pss_one (ps_ret (pe_ix (r := rIxT K) ix_tup (pv 4) pe_int (fun _ _ => rfl)))))), ?_⟩
    obtain ⟨dx, q, pl, ys, h1, h2, h3, h4⟩ := ha.ex
    have hlen := Paired.length h4
    have hpt : pt < ys.length := by
      rw [hlen]
      exact (List.getElem?_eq_some_iff.mp hx).1
    obtain ⟨x', hx', t, wv, dv, hyt, ht, hw, hdv⟩ := paired_get h4 (List.getElem?_eq_getElem hpt)
    have hxx : x' = x := Option.some.inj (hx'.symm.trans hx)
    subst hxx
    obtain ⟨hwl, hwm⟩ := plan_ways hx
    obtain ⟨dp, its, rfl, hdp, hn1, _, _⟩ := DAt_split x'.1 hdv
    obtain ⟨c, hc, hcT⟩ := nms_get hps hok hn1
    obtain ⟨dc, f1, g1, hc1⟩ := hcT.obj
    refine ⟨_, rfl, _, _, _, _, _, rfl, h1, TP.cl, TP.nP, pf_plan _ _, _, rfl, pl, _, _, _, rfl, rfl, SqT.of h3, atI_nat (by rw [List.getElem?_eq_getElem hpt, hyt]), ?_⟩
    refine ⟨t, _, rfl, SqT.of ht, rfl, _, _, rfl, _, _, rfl, rfl, ?_⟩
    refine ⟨_, rfl, wv, _, rfl, .inr (SqT.of hw), rfl, _, rfl, ?_⟩
    rw [numsV_len, hwl]
    have wat : ∀ i, i < x'.2.length → atI (numsV x'.2) ((i : Nat) : Int) = some (.int ((x'.2.getD i 0 : Nat) : Int)) := by
      intro i hi
      refine atI_nat ?_
      rw [numsV, List.getElem?_map, List.getElem?_eq_getElem hi, List.getD_eq_getElem?_getD, List.getElem?_eq_getElem hi]
      rfl
    cases hlk : x'.1.look with
    | true =>
      rw [hlk] at hwl
      have hwl2 : x'.2.length = 2 := hwl
      have hg : x'.1.grt ns = false := look_grt x'.1 ns hlk
      have hsN : stepN x' ns = ns := by unfold stepN; rw [hlk]; rfl
      refine iteT ?_
      refine ⟨_, rfl, _, rfl, dp, _, 1, _, rfl, rfl, hdp, atI1 _ _ _, l, _, _, _, rfl, rfl, SqL.of hl, atI_nat hc, _, _, _, _, _, rfl, hc1, T.cl, T.nZ, tf_size _ _ _, _, rfl, ?_⟩
      have fin : ∀ i, i < x'.2.length → stepP x' ns = x'.2.getD i 0 → Q (.int ((x'.2.getD i 0 : Nat) : Int)) H := by
        intro i hi e
        have := k hg (by rw [hsN]; exact hok) us H (KB.refl l H) hl (by rw [hsN]; exact hps)
        rw [e] at this
        exact this
      by_cases hz : 0 < (nmA ns x'.1.nm1).size
      · have e1 : (((((nmA ns x'.1.nm1).size : Nat) : Int)) != 0) = true := bne_iff_ne.mpr (by omega)
        rw [e1]
        refine iteT ?_
        refine ⟨_, rfl, wv, _, _, _, rfl, rfl, SqT.of hw, wat 0 (by omega), fin 0 (by omega) ?_⟩
        unfold stepP
        rw [hlk, if_pos rfl, if_pos hz]
      · have e1 : (((((nmA ns x'.1.nm1).size : Nat) : Int)) != 0) = false := by
          have : (nmA ns x'.1.nm1).size = 0 := by omega
          rw [this]
          rfl
        rw [e1]
        refine iteF ?_
        refine ⟨_, rfl, wv, _, _, _, rfl, rfl, SqT.of hw, wat 1 (by omega), fin 1 (by omega) ?_⟩
        unfold stepP
        rw [hlk, if_pos rfl, if_neg hz]
    | false =>
      rw [hlk] at hwl
      have hwl2 : x'.2.length = 1 := hwl
      have hsN : stepN x' ns = ns.set x'.1.nm1 (x'.1.made ns) := by unfold stepN; rw [hlk]; rfl
      have hsP : stepP x' ns = x'.2.getD 0 0 := by unfold stepP; rw [hlk]; rfl
      have ht4 : ∀ b t, x'.1 = .told b t → t.size ≤ 4000 := by
        intro b t0 e
        rw [e] at hdv
        obtain ⟨_, _, _, _, _, _, z⟩ := hdv
        exact z
      refine iteF ?_
      refine ⟨_, rfl, _, rfl, _, x'.1, l, us, ns, rfl, hdv, hlk, hl, hps, hok, fun hg b H1 s1 hb => ?_, fun hg dd H1 s1 hdd => ke hg dd H1 s1 hdd⟩
      have hl1 := s1 _ _ hl
      refine ⟨_, rfl, _, rfl, dp, _, 1, _, rfl, rfl, sqt_kt (KT.of s1) hdp, atI1 _ _ _, l, us, _, x'.1.nm1, rfl, rfl, hl1, ?_, ?_⟩
      · exact ixN_at _ _ (by rw [Paired.length hps, hok.1]; exact hn1)
      have kt := KT.lst hl1 (o := .lst (us.set x'.1.nm1 (.ref b)))
      have hwl3 : l ≠ wv := fun z => by rw [← z, hl] at hw; cases hw
      refine ⟨_, rfl, wv, _, _, _, rfl, rfl, SqT.of (by rw [upd_ne (Ne.symm hwl3)]; exact s1 _ _ hw), wat 0 (by omega), ?_⟩
      rw [← hsP]
      refine k hg (stepN_ok hok ht4 hg) (us.set x'.1.nm1 (.ref b)) _ ((KB.of s1).trans KB.set) upd_same ?_
      rw [hsN]
      exact paired_set _ (ths_kt ((KT.of s1).trans kt) hps) ⟨b, rfl, hb.kt kt⟩
end
end Js

set_option Elab.async false
set_option linter.all false
set_option maxRecDepth 100000
set_option maxHeartbeats 2000000
namespace Js
open PySem L2 PyProof.Rows
/-- a value that is no Thing, and whose kind stands under no Thing -/
def NoTh (K : PySem.W.Frag) (C : Addr) (H : Hp) (y : V) : Prop := ∃ t : Value, TyX K H y t ∧ PySem.W.notFirst K C t = true ∧ PySem.W.kitOne K t (.ref C) = some false
/-- thing == what is no thing -/
def spEqN (K : PySem.W.Frag) (C : Addr) : Sp := fun vs H Q _ => ∃ a y, vs = [.ref a, y] ∧ NoTh K C H y ∧ Q (.bl false) H
section
variable {P : Program} {w : World} {K : PySem.W.Frag} {mg : Str → Option Value} {base : Heap} {C : Addr}
theorem ok_eqN {f fA : Addr} {fd fdA : FuncData} (F : Fun K "__eq__" "Thing.__eq__" sEq f fd) (T : Txt K mg C) (AA : At K mg "alike" sAlike ["one", "other"] fA fdA) : FnOk P w K mg base CX0 2 f fd ["self", "other"] (spEqN K C) := by
  have GA : FnOk P w K mg base CX0 1 fA fdA ["one", "other"] (spAlike C) := ok_alike AA.F T
  refine F.ok scE (fun vs H Q E h => ?_) (fun cdv A outer s H vs Q E hr h => ?_)
  · obtain ⟨a, y, rfl, _⟩ := h
    rfl
  · obtain ⟨a, y, rfl, ⟨t, hty, hnf, hkt⟩, k⟩ := h
    refine ⟨_, pss_one (ps_ret (pe_and (pe_callB call_isi (by rfl) T.isi PyProof.Rows.boot_isinstance (pa_cons (pv 1) (pa_cons (pe_glob (v := .ref C) rfl T.mgC rfl) pa_nil)))
      (pe_one (pe_call GA hr rfl AA.mgf AA.F.kp AA.b .nil pass0 (pa_cons (pv 0) (pa_cons (pv 1) pa_nil)))))), ?_⟩
    exact ⟨_, rfl, _, _, _, _, false, rfl, ClsV.own C, hty, hkt, false, rfl, iteF k⟩
end
section
variable {X : Cx} {C : Addr}
def rEqN (K : PySem.W.Frag) (C : Addr) : R2 := fun x y H Q => ∃ a dx fs, x = .ref a ∧ H a = some (.ins C dx fs) ∧ NoTh K C H y ∧ Q (.bl false) H
theorem op_eqN (S : Spc X.prog X.w X.K X.mg X.base C "__eq__" 2 ["self", "other"] (spEqN X.K C)) (hr : Room 2 X.A) : OpR X (compareOp .Eq) (rEqN X.K C) := by
  obtain ⟨f, fd, o, F, hb⟩ := S
  intro pins s σ H x y v u Q I rx ry h
  obtain ⟨a, dx, fs, rfl, ha, ⟨t, hty, hnf, hkt⟩, q⟩ := h
  cases (show v = Value.ref a from rx)
  show wpAny _ _ (richCompare .Eq (.ref a) u) _ _ _
  obtain ⟨od, J⟩ := inst_of I ha
  obtain ⟨m, hF⟩ := I.fr
  obtain ⟨Z, kx, hZ, _⟩ := kit_of I ry hty
  refine PySem.W.cmp_K (op := .Eq) (tb := t) hr.units0 hF I.ok.mod.kin J (kx.ty _ _ I.kIn hZ) hnf o.at_ o.fn (wpAny_mono (run_fnA (us := [.ref a, u]) (vs := [.ref a, y]) (Q := fun z H' => z = .bl false ∧ Q (.bl false) H') F hr I.env0 hb pass0 I (.cons rfl (.cons ry .nil)) ⟨a, y, rfl, ⟨t, hty, hnf, hkt⟩, rfl, q⟩) (fun w s' z => ?_) fun _ _ x => x)
  obtain ⟨z', H', I', rz, rfl, qz⟩ := z
  cases (show w = Value.bool false from rz)
  exact ⟨.bl false, H', I', rfl, qz⟩
end
end Js

set_option Elab.async false
set_option linter.all false
set_option maxRecDepth 100000
set_option maxHeartbeats 2000000
/-! u == x, u of a built-in kind that declines, x an instance with its own == -/
namespace JsLow
open PySem PySem.Spec PyProof.Rows PySem.W
section
variable {prog : Program} {w : World} {A : Around} {E : Value → Shared → Prop} {s : Shared} {K : Frag} {x C f : Addr} {ox : Obj} {od : Option Obj} {u : Value} {T : String}
theorem none_eq_ref (a : Addr) : Gives (Builtin.«NoneType.__eq__» ⟨[.none, .ref a], []⟩) (.val (Value.notImplemented)) :=
  .of_wp fun M A E s Q h => by obtain ⟨hp, g, d, tk, os⟩ := s; wp_walk; exact ⟨_, rfl, h⟩
/-- the left one declines, the right one's == is asked -/
theorem refl_K {Q : Value → Shared → Prop} (hu : A.units < cLine) (X : K.In s.heap) (I : InstAt s.heap x ox C od) (hT : s.TypeIs u T) (one : oneThing? .Eq u (.ref x) = none) (hs : subIn K (.ref C) (.type T) = some false)
    (dec : ∀ {Q' : Option Value → Shared → Prop}, (∀ tk, Q' none { s with toks := tk }) → wpAny (model prog w) A (tryCompare u "__eq__" (.ref x)) Q' E s)
    (he : findIn K (.ref C) "__eq__" = some (some (.ref f))) (hf : isFn K (.ref f) = true)
    (h : ∀ tk, wpAny (model prog w) A (call (.ref f) [.ref x, u]) (PySem.W.CmpBack Q) E { s with toks := tk }) : wpAny (model prog w) A (richCompare .Eq u (.ref x)) Q E s := by
  unfold richCompare
  refine wpAny_holding (wpAny_bind (wpAny_cRoomFor hu ?_))
  rw [one]
  refine wpAny_bind (wpAny_typeOf hT (wpAny_bind (I.type.here ?_)))
  have ne : (Value.type T != Value.ref C) = true := by simp
  try dsimp only
  rw [if_pos ne]
  refine wpAny_bind ((looks_subIn X hs).here ?_)
  simp only [Bool.false_eq_true, if_false, Bool.not_false, if_true]
  refine wpAny_bind (dec fun tk => ?_)
  try dsimp only
  refine wpAny_bind ?_
  unfold tryCompare
  refine wpAny_bind (ifBound_K (s := { s with toks := tk }) X (show InstAt ({ s with toks := tk } : Shared).heap x ox C od from I) he hf (wpAny_mono (h tk) (fun v s' hv => ?_) fun _ _ e => e))
  cases v <;> first | exact hv.elim | exact wpAny_pure (wpAny_pure hv)
theorem dec_none {Q' : Option Value → Shared → Prop} (h : ∀ tk, Q' none { s with toks := tk }) : wpAny (model prog w) A (tryCompare .none "__eq__" (.ref x)) Q' E s :=
  wpAny_tryCompare_declines (T := "NoneType") rfl F.slot_NoneType_eq (call_gives F.slot_NoneType_eq rfl F.entry_NoneType_eq (F.args_NoneType_eq_2 _ _) (none_eq_ref x) ⟨rfl, h _⟩)
theorem dec_str {a : Str} {t : Tok} {dx : Addr} {Q' : Option Value → Shared → Prop} (hx : s.heap.get? x = some (PySem.W.instObj C dx)) (h : ∀ tk, Q' none { s with toks := tk }) : wpAny (model prog w) A (tryCompare (.str a t) "__eq__" (.ref x)) Q' E s := by
  refine wpAny_tryCompare_declines (typeIs_str s a t) F.slot_str_eq (wpAny_call_entry F.slot_str_eq (typeIs_str s a t) F.entry_str_eq ?_ (F.args_str_eq_2 _ _))
  unfold Builtin.«str.__eq__» Builtin.Str.strCompare
  refine wpAny_bind (wpAny_of_eq (a := (Value.str a t, a, [Value.ref x])) (by first | rfl | kernel_rfl) ?_)
  try dsimp only
  show wpAny _ _ (asStr? (.ref x) >>= _) _ _ _
  unfold asStr?
  refine wpAny_bind (wpAny_bind (wpAny_load hx (wpAny_pure ?_)))
  exact wpAny_bind (wpAny_rule (wpAny_pure ⟨_, rfl, rfl, h _⟩))
end
end JsLow
namespace Js
open PySem L2 PySem.Spec PyProof.Rows
section
variable {X : Cx} {C : Addr}
/-- y == thing, y None or a text -/
def DRef (K : PySem.W.Frag) (C : Addr) : Tells := fun y x r H => ∃ a t, x = .ref a ∧ Th C H a t ∧ r = false ∧ (y = .non ∨ ∃ z, y = .str z) ∧ NoTh K C H y
theorem eqT_ref (S : Spc X.prog X.w X.K X.mg X.base C "__eq__" 2 ["self", "other"] (spEqN X.K C)) (h1 : PySem.W.subIn X.K (.ref C) (.type "NoneType") = some false) (h2 : PySem.W.subIn X.K (.ref C) (.type "str") = some false) : EqT X 2 (DRef X.K C) := by
  obtain ⟨f, fd, o, F, hb⟩ := S
  intro A pins s σ H y x u v r sb I ry rx d
  obtain ⟨a, t, rfl, ha, rfl, hy, hn⟩ := d
  cases (show v = Value.ref a from rx)
  obtain ⟨dx, f1, g1, h0⟩ := ha.obj
  obtain ⟨od, J⟩ := inst_of I h0
  have hx : s.heap.get? a = some (PySem.W.instObj C dx) := (show ObjOk X.prog X.w H s.heap a (.ins C dx _) from I.hok a _ h0).2.2.2.1
  have e0 : ∀ tk, Env0 X.prog X.w X.K X.mg X.base A X.stack { s with toks := tk } H := fun tk => by
    have e := (I.tok tk).env0
    exact ⟨by rw [sb.fr]; exact e.frames, e.mod, e.bs, e.bsz, e.funs, e.frf, e.hok, e.bare⟩
  have fin : ∀ {Q : Value → Shared → Prop}, (∀ s' H', Inv X pins σ H' s' → Same H H' → Q (.bool false) s') → ∀ tk, wpAny (model X.prog X.w) A (call (.ref f) [.ref a, u]) (PySem.W.CmpBack Q) X.xe { s with toks := tk } := by
    intro Q k tk
    refine wpAny_mono (run_fnA (us := [.ref a, u]) (vs := [.ref a, y]) (Q := fun z H' => z = .bl false ∧ H' = H) F sb.room (e0 tk) hb pass0 (I.tok tk) (.cons rfl (.cons ry .nil)) ⟨a, y, rfl, hn, rfl, rfl⟩) (fun w s' z => ?_) fun _ _ x => x
    obtain ⟨z', H', I', rz, rfl, rfl⟩ := z
    cases (show w = Value.bool false from rz)
    exact k s' _ I' (Same.refl _)
  rcases hy with rfl | ⟨z, rfl⟩
  · cases (show u = Value.none from ry)
    unfold eqBool
    refine wpAny_holding (wpAny_ite_split (fun hab => absurd (eq_of_beq hab) (by simp)) fun _ => wpAny_bind (wpAny_mono (Q := fun w s' => w = .bool false ∧ ∃ H', Inv X pins σ H' s' ∧ Same H H') ?_ (fun w s' z => ?_) fun _ _ x => x))
    · exact JsLow.refl_K (T := "NoneType") sb.room.units0 I.kIn J rfl rfl h1 JsLow.dec_none o.at_ o.fn (fin fun s' H' I' sm => ⟨rfl, H', I', sm⟩)
    · obtain ⟨rfl, H', I', sm⟩ := z
      exact wpAny_truthy_bool ⟨rfl, H', I', sm⟩
  · obtain ⟨t', rfl⟩ := (show ∃ t', u = Value.str z t' from ry)
    unfold eqBool
    refine wpAny_holding (wpAny_ite_split (fun hab => absurd (eq_of_beq hab) (by simp)) fun _ => wpAny_bind (wpAny_mono (Q := fun w s' => w = .bool false ∧ ∃ H', Inv X pins σ H' s' ∧ Same H H') ?_ (fun w s' z => ?_) fun _ _ x => x))
    · exact JsLow.refl_K (T := "str") sb.room.units0 I.kIn J (typeIs_str s z t') rfl h2 (JsLow.dec_str hx) o.at_ o.fn (fin fun s' H' I' sm => ⟨rfl, H', I', sm⟩)
    · obtain ⟨rfl, H', I', sm⟩ := z
      exact wpAny_truthy_bool ⟨rfl, H', I', sm⟩
end
end Js

set_option Elab.async false
set_option linter.all false
set_option maxRecDepth 100000
set_option maxHeartbeats 2000000
/-! u == x: whole numbers, tuples, lists decline, too -/
namespace JsLow
open PySem PySem.Spec PyProof.Rows PySem.W
open AutoSeq1 (wpAny_loadPart')
section
variable {prog : Program} {w : World} {A : Around} {E : Value → Shared → Prop} {s : Shared} {K : Frag} {x C f : Addr} {ox : Obj} {od : Option Obj} {u : Value} {T : String}
theorem isInst_K {M : Model} {b : Bool} {Q : Bool → Shared → Prop} (X : K.In s.heap) (I : InstAt s.heap x ox C od) (hs : subIn K (.ref C) (.type T) = some b) (h : Q b s) : wpAny M A (isInstance (.ref x) (.type T)) Q E s :=
  wpAny_bind (I.type.here ((looks_subIn X hs).here h))
theorem dec_tup {l : Addr} {Q' : Option Value → Shared → Prop} (X : K.In s.heap) (I : InstAt s.heap x ox C od) (hT : s.TypeIs (.ref l) "tuple") (hs : subIn K (.ref C) (.type "tuple") = some false) (h : ∀ tk, Q' none { s with toks := tk }) : wpAny (model prog w) A (tryCompare (.ref l) "__eq__" (.ref x)) Q' E s := by
  refine wpAny_tryCompare_declines hT F.slot_tuple_eq (wpAny_call_entry F.slot_tuple_eq hT F.entry_tuple_eq ?_ (F.args_tuple_eq_2 _ _))
  have h0 := h s.toks
  obtain ⟨hp, g, d, tk, os⟩ := s
  wp_walk using isInst_K X I hs
  exact ⟨_, rfl, rfl, h0⟩
theorem dec_lst {l : Addr} {Q' : Option Value → Shared → Prop} (X : K.In s.heap) (I : InstAt s.heap x ox C od) (hT : s.TypeIs (.ref l) "list") (hs : subIn K (.ref C) (.type "list") = some false) (h : ∀ tk, Q' none { s with toks := tk }) : wpAny (model prog w) A (tryCompare (.ref l) "__eq__" (.ref x)) Q' E s := by
  refine wpAny_tryCompare_declines hT F.slot_list_eq (wpAny_call_entry F.slot_list_eq hT F.entry_list_eq ?_ (F.args_list_eq_2 _ _))
  have h0 := h s.toks
  obtain ⟨hp, g, d, tk, os⟩ := s
  wp_walk using isInst_K X I hs
  exact ⟨_, rfl, rfl, h0⟩
theorem dec_int {i : Int} {t : Tok} {dx : Addr} {Q' : Option Value → Shared → Prop} (hx : s.heap.get? x = some (PySem.W.instObj C dx)) (h : ∀ tk, Q' none { s with toks := tk }) : wpAny (model prog w) A (tryCompare (.int i t) "__eq__" (.ref x)) Q' E s := by
  refine wpAny_tryCompare_declines (typeIs_int s i t) F.slot_int_eq (wpAny_call_entry F.slot_int_eq (typeIs_int s i t) F.entry_int_eq ?_ (F.args_int_eq_2 _ _))
  have h0 := h s.toks
  obtain ⟨hp, g, d, tk, os⟩ := s
  wp_walk using wpAny_load hx
  exact ⟨_, rfl, rfl, h0⟩
end
end JsLow

set_option Elab.async false
set_option linter.all false
set_option maxRecDepth 100000
set_option maxHeartbeats 2000000
/-! the truth of an instance, by its own len -/
namespace JsLow
open PySem PySem.Spec PyProof.Rows PySem.W
section
variable {prog : Program} {w : World} {A : Around} {E : Value → Shared → Prop} {s : Shared} {K : Frag} {x C f : Addr} {ox : Obj} {od : Option Obj}
theorem truth_len {Q : Bool → Shared → Prop} (X : K.In s.heap) (I : InstAt s.heap x ox C od) (nb : findIn K (.ref C) "__bool__" = some none) (hl : findIn K (.ref C) "__len__" = some (some (.ref f))) (hf : isFn K (.ref f) = true)
    (h : wpAny (model prog w) A.in1 (call (.ref f) [.ref x]) (fun v s' => ∃ n t, v = .int n t ∧ 0 ≤ n ∧ n < 2 ^ 63 ∧ ∀ tk, Q (n != 0) { s' with toks := tk }) E s) : wpAny (model prog w) A (truthy (.ref x)) Q E s := by
  unfold truthy
  refine wpAny_bind (m := callSpecial? (.ref x) "__bool__") (wpAny_bind (wpAny_bind (I.type.here ((looks_findIn X nb).here (wpAny_pure ?_)))))
  refine wpAny_bind (wpAny_bind (I.type.here ((looks_findIn X hl).here ?_)))
  rw [if_neg (show ¬ ((some (Value.ref f)).isNone = true) by simp)]
  refine wpAny_bind (wpAny_mono (Q := fun r s' => ∃ n t, r = .int n t ∧ Q (n != 0) s') (wpAny_runValue (codeAny_builtin entry_len ?_)) (fun r s' z => ?_) fun _ _ e => e)
  · rw [Around.under_plainId plain_len _]
    unfold Builtin.«len»
    refine wpAny_bind (m := oneArg "len" _) (wpAny_pure (wpAny_bind (m := callSpecial? (.ref x) (Str.ofString "__len__")) (special_fn X I hl (beq_iff_eq.mp hf) (wpAny_mono h ?_ fun _ _ y => y))))
    rintro r s' ⟨n, t, rfl, h0, h1, hq⟩
    refine wpAny_bind (wpAny_holding (wpAny_pure (wpAny_bind (wpAny_letGo ?_))))
    show wpAny _ _ (if n < 0 then _ else _) _ _ _
    rw [if_neg (by omega)]
    show wpAny _ _ (if n ≥ 2 ^ 63 then _ else _) _ _ _
    rw [if_neg (by omega)]
    exact wpAny_bind (wpAny_mkInt (wpAny_pure ⟨n, _, rfl, hq _⟩))
  · obtain ⟨n, t, rfl, hq⟩ := z
    exact wpAny_pure hq
theorem new_bool {v : Value} {Q₁ : Value → Shared → Prop} (h : wpAny (model prog w) A.in1 (truthy v) (fun b s' => Q₁ (.bool b) s') E s) : codeAny (model prog w) A (.call (.builtin "bool.__new__") ⟨[.type "bool", v], []⟩) (wants Q₁ E) s := by
  refine codeAny_of_tree ?_
  show wpAny _ A.in1 (do checkBuiltinCall "bool.__new__" ⟨[.type "bool", v], []⟩; again (.builtin "bool.__new__" ⟨[.type "bool", v], []⟩)) _ _ s
  refine wpAny_bind (wpAny_of_eq (F.newCall_bool_1 _) (wpAny_pure ⟨Code.quiet_builtin _ (by decide +kernel), codeAny_builtin F.entry_bool_new ?_⟩))
  have pl : plainId "bool.__new__" := by
    first
    | exact F.plain_bool_new
    | decide +kernel
  rw [Around.under_plainId pl _]
  unfold Builtin.«bool.__new__»
  have e1 : isType (.type "bool") = (pure true : Sem Bool) := by first | rfl | kernel_rfl
  refine wpAny_bind (wpAny_of_eq e1 ?_)
  simp only [Bool.not_true, Bool.false_eq_true, if_false]
  refine wpAny_bind (wpAny_of_eq F.conv_sub_bool ?_)
  simp only [Bool.not_true, Bool.false_eq_true, if_false]
  refine wpAny_bind (wpAny_of_eq (a := [v]) (by first | rfl | kernel_rfl) ?_)
  try dsimp only
  exact wpAny_bind (wpAny_mono h (fun b s' q => wpAny_pure q) fun _ _ e => e)
theorem call_boolV {v : Value} {Q : Value → Shared → Prop} (h : wpAny (model prog w) A.in1.in1 (truthy v) (fun b s' => Q (.bool b) s') E s) : wpAny (model prog w) A (call (.type "bool") [v]) Q E s := by
  have first := new_bool (prog := prog) (w := w) (A := A.in1) (E := E) (s := s) (v := v) (Q₁ := fun obj s₁ => s₁.TypeIs obj "bool" ∧ Q obj s₁) (wpAny_mono h (fun b s' q => ⟨rfl, q⟩) fun _ _ e => e)
  refine callType_codes F.called_bool (F.typeCall_bool_1 v) F.entry_object_init first fun obj s₁ hh => ⟨hh.1, F.args_object_init_2 obj _, ?_⟩
  exact object_init_meets F.called_bool.init.lookup F.called_bool.made (by decide) prog w A.in1 _ s₁ ⟨hh.1, rfl, hh.2⟩
end
end JsLow
namespace Js
open PySem PySem.Spec PyProof.Rows L2
section
variable {X : Cx} {C : Addr}
def rTruT (C : Addr) : V → Hp → (Bool → Hp → Prop) → Prop := fun x H Q => ∃ a t, x = .ref a ∧ Th C H a t ∧ t.size ≤ 4000 ∧ Q (((t.size : Nat) : Int) != 0) H
theorem tru_T (S : Spc X.prog X.w X.K X.mg X.base C "__len__" 1 ["self"] (spLen C)) (nb : PySem.W.findIn X.K (.ref C) "__bool__" = some none) (hr : Room 2 X.A) : TruR X (rTruT C) := by
  obtain ⟨f, fd, o, F, hb⟩ := S
  intro pins s σ H x v Q I rx h
  obtain ⟨a, t, rfl, ha, hz, q⟩ := h
  cases (show v = Value.ref a from rx)
  obtain ⟨dx, f1, g1, h0⟩ := ha.obj
  obtain ⟨od, J⟩ := inst_of I h0
  refine JsLow.truth_len I.kIn J nb o.at_ o.fn (wpAny_mono (run_fnA (us := [.ref a]) (vs := [.ref a]) (Q := fun z H' => z = .int ((t.size : Nat) : Int) ∧ H' = H) F hr.in1 I.env0.in1 hb pass0 I (.cons rfl .nil) ⟨a, t, rfl, ha, hz, rfl, rfl⟩) (fun w s' z => ?_) fun _ _ x => x)
  obtain ⟨z', H', I', rz, rfl, rfl⟩ := z
  obtain ⟨t', rfl⟩ := (show ∃ t', w = Value.int ((t.size : Nat) : Int) t' from rz)
  exact ⟨_, _, rfl, by omega, by omega, fun tk => ⟨_, I'.tok tk, q⟩⟩
end
end Js
namespace Js
open PySem PySem.Spec PyProof.Rows L2
section
variable {X : Cx} {C : Addr}
/-- bool(thing) -/
theorem call_boolT (S : Spc X.prog X.w X.K X.mg X.base C "__len__" 1 ["self"] (spLen C)) (nb : PySem.W.findIn X.K (.ref C) "__bool__" = some none) (hr : Room 4 X.A) : CallR X (.type "bool") (fun xs H Q => ∃ a t, xs = [.ref a] ∧ Th C H a t ∧ t.size ≤ 4000 ∧ Q (.bl (((t.size : Nat) : Int) != 0)) H) := by
  obtain ⟨f, fd, o, F, hb⟩ := S
  intro pins s σ H xs us Q I r h
  obtain ⟨a, t, rfl, ha, hz, q⟩ := h
  obtain ⟨u, rfl, ru⟩ := vals1 r
  cases (show u = Value.ref a from ru)
  obtain ⟨dx, f1, g1, h0⟩ := ha.obj
  obtain ⟨od, J⟩ := inst_of I h0
  have hr3 : Room 1 X.A.in1.in1.in1 := (show Room 2 X.A.in1.in1 from (show Room 3 X.A.in1 from hr.in1).in1).in1
  refine JsLow.call_boolV (JsLow.truth_len I.kIn J nb o.at_ o.fn (wpAny_mono (run_fnA (us := [.ref a]) (vs := [.ref a]) (Q := fun z H' => z = .int ((t.size : Nat) : Int) ∧ H' = H) F hr3 I.env0.in1.in1.in1 hb pass0 I (.cons rfl .nil) ⟨a, t, rfl, ha, hz, rfl, rfl⟩) (fun w s' z => ?_) fun _ _ x => x))
  obtain ⟨z', H', I', rz, rfl, rfl⟩ := z
  obtain ⟨t', rfl⟩ := (show ∃ t', w = Value.int ((t.size : Nat) : Int) t' from rz)
  exact ⟨_, _, rfl, by omega, by omega, fun tk => ⟨.bl _, _, I'.tok tk, rfl, q⟩⟩
end
end Js

set_option Elab.async false
set_option linter.all false
set_option maxRecDepth 100000
set_option maxHeartbeats 2000000
/-! programs: ==, !=, in, len, bool; beside what is none -/
namespace GQ
open PySem PySem.SeqAt PyProof.Rows
section
variable {prog : Program} {w : World} {A : Around} {R : Result → Shared → Prop}
theorem op_notin_listG {E : Value → Shared → Prop} {s : Shared} {l : Addr} {x : Value} {N : Nat} {Q : Value → Shared → Prop} (I : Nat → Shared → Prop)
    (hl : InI prog w A (wants (fun v s' => ∃ b, v = .bool b ∧ Q (.bool (!b)) s') E) l x N I)
    (fin : ∀ s, I N s → Q (.bool true) s) (h : I 0 s) : wpAny (model prog w) A (compareOp .NotIn x (.ref l)) Q E s := by
  obtain ⟨items, n, hl1, hs1, _⟩ := hl _ _ h
  show wpAny _ A (do return .bool (!(← contains (.ref l) x))) Q E s
  refine wpAny_bind (wpAny_contains_slot ⟨_, hl1, rfl⟩ F.slot_list_contains (wpAny_mono (call_here F.slot_list_contains ⟨_, hl1, rfl⟩ F.entry_list_contains (F.args_list_contains_2 _ _)
    (list_inG (R := wants (fun v s' => ∃ b, v = .bool b ∧ Q (.bool (!b)) s') E) l x N I hl (fun s' q => ⟨false, rfl, fin s' q⟩) h)) (fun v s' hv => ?_) fun _ _ e => e))
  obtain ⟨b, rfl, hq⟩ := hv
  exact wpAny_truthy_bool (wpAny_pure hq)
end
end GQ
namespace Js
open PySem PySem.Spec PyProof.Rows L2
def rNotInT (D : Tells) : R2 := fun x y H Q => ∃ (p : Addr) (xs : List V) (bs : List Bool), y = .ref p ∧ H p = some (.lst xs) ∧ bs.length = xs.length ∧ (∀ (i : Nat) z b, xs[i]? = some z → bs[i]? = some b → D z x b H) ∧ ∀ H', Same H H' → Q (.bl (!bs.any id)) H'
theorem op_notInT {X : Cx} {n : Nat} {D : Tells} (h : EqT X n D) (mon : MonT D) (hr : Room (n + 1) X.A) : OpR X (compareOp .NotIn) (rNotInT D) := by
  intro pins s σ H x y v u Q I rx ry hq
  obtain ⟨p, xs, bs, rfl, hp, hl, hd, q⟩ := hq
  cases (show u = Value.ref p from ry)
  refine GQ.op_notin_listG (N := xs.length) (fun i s' => (∃ H', Inv X pins σ H' s' ∧ Same H H') ∧ (bs.take i).any id = false) (fun i s' z => ?_) (fun s' z => ?_) ⟨⟨H, I, Same.refl H⟩, by simp⟩
  · obtain ⟨⟨H1, I1, e1⟩, nb⟩ := z
    obtain ⟨z, its, k, r, e⟩ := I1.hok p _ (e1 _ _ hp)
    refine ⟨its.toArray, k, e, by rw [List.size_toArray, ← r.length], fun h1 => ?_⟩
    have h1' : i < its.length := by simpa using h1
    have k1 : i < xs.length := by rw [r.length]; exact h1'
    have k2 : i < bs.length := by rw [hl]; exact k1
    obtain ⟨w', hw, rw'⟩ := r.get (List.getElem?_eq_getElem k1)
    have g1 : its[i]? = some its.toArray[i] := by rw [List.getElem?_eq_getElem h1'] <;> simp
    rw [g1] at hw
    rw [Option.some.inj hw]
    refine wpAny_mono (h X.A.in1 pins s' σ H1 _ x w' v _ ⟨hr.in1, rfl⟩ I1 rw' rx (mon _ _ _ _ _ e1 (hd i _ _ (List.getElem?_eq_getElem k1) (List.getElem?_eq_getElem k2)))) (fun r' s2 q2 => ?_) fun _ _ x => x
    obtain ⟨er, H2, I2, e2⟩ := q2
    subst er
    have tk : (bs.take (i + 1)).any id = bs[i] := by
      rw [List.take_succ_eq_append_getElem k2, List.any_append, nb]
      simp
    cases hb : bs[i] with
    | true =>
      rw [if_pos rfl]
      refine ⟨true, rfl, .bl false, H2, I2, rfl, ?_⟩
      have qq := q H2 (e1.trans e2)
      have : bs.any id = true := List.any_eq_true.mpr ⟨bs[i], List.getElem_mem k2, by rw [hb]; rfl⟩
      rw [this] at qq
      exact qq
    | false =>
      rw [if_neg Bool.false_ne_true]
      exact ⟨⟨H2, I2, e1.trans e2⟩, by rw [tk, hb]⟩
  · obtain ⟨⟨H1, I1, e1⟩, nb⟩ := z
    rw [← hl, List.take_length] at nb
    have qq := q H1 e1
    rw [nb] at qq
    exact ⟨.bl true, H1, I1, rfl, qq⟩
section
variable {X : Cx} {C CP : Addr} {k : Nat}
def DPg (K : PySem.W.Frag) (C CP : Addr) : Tells := fun x y b H => ∃ a c r u, x = .ref a ∧ y = .ref c ∧ PgAt K C CP H a r ∧ PgAt K C CP H c u ∧ b = decide (r = u)
theorem DPg_mon {K : PySem.W.Frag} : MonT (DPg K C CP) := fun x y b H H' s d => by
  obtain ⟨a, c, r, u, e1, e2, h1, h2, e3⟩ := d
  exact ⟨a, c, r, u, e1, e2, h1.same s, h2.same s, e3⟩
theorem PgAt_inj {pins : List (Addr × Obj)} {σ : L2.St} {H : Hp} {s : Shared} (I : Inv X pins σ H s) {a : Addr} {r u : List Dd} (h : PgAt X.K C CP H a r) (g : PgAt X.K C CP H a u) : r = u := by
  obtain ⟨dx, q, pl, ys, h1, h2, _⟩ := h.ex
  obtain ⟨dx', q', pl', ys', g1, g2, _⟩ := g.ex
  have e := Option.some.inj (h1.symm.trans g1)
  injection e with _ _ e3
  have e4 := congrArg (List.lookup ("deeds" : Str)) e3
  rw [pf_deeds, pf_deeds] at e4
  cases V.ref.inj (Option.some.inj e4)
  exact RAt_inj I h2 g2
theorem rcT_P (S : Spc X.prog X.w X.K X.mg X.base CP "__eq__" k ["self", "other"] (spPEq X.K C CP)) : RcT X .Eq id k (DPg X.K C CP) := by
  obtain ⟨f, fd, ow, F, hb⟩ := S
  intro A pins s σ H x y u v r sb I rx ry d
  obtain ⟨a, c, r1, r2, rfl, rfl, h1, h2, rfl⟩ := d
  cases rx
  cases ry
  obtain ⟨dx, q, pl, ys, g1, _⟩ := h1.ex
  obtain ⟨dy, q', pl', ys', g2, _⟩ := h2.ex
  have e0 : Env0 X.prog X.w X.K X.mg X.base A X.stack s H := by
    have e := I.env0
    exact ⟨by rw [sb.fr]; exact e.frames, e.mod, e.bs, e.bsz, e.funs, e.frf, e.hok, e.bare⟩
  refine wpAny_mono (rc_own (Q := fun b H' => b = decide (r1 = r2) ∧ Same H H') ow F hb sb.room e0 pass0 I g1 g2 ⟨a, c, r1, r2, rfl, h1, h2, fun H' s' => ⟨_, rfl, rfl, s'⟩⟩) (fun w s' z => ?_) fun _ _ x => x
  obtain ⟨b, rfl, H', I', rfl, sm⟩ := z
  exact ⟨rfl, H', I', sm⟩
theorem eqT_P (S : Spc X.prog X.w X.K X.mg X.base CP "__eq__" k ["self", "other"] (spPEq X.K C CP)) : EqT X k (DPg X.K C CP) :=
  RcT.eqT (rcT_P S) (fun x y r H d => let ⟨a, c, _, _, e1, e2, _⟩ := d; ⟨a, c, e1, e2⟩) fun pins s σ H x r I d => by
    obtain ⟨a, c, r1, r2, e1, e2, h1, h2, rfl⟩ := d
    cases e1
    cases e2
    exact decide_eq_true (PgAt_inj I h1 h2)
theorem op_neP (S : Spc X.prog X.w X.K X.mg X.base CP "__eq__" k ["self", "other"] (spPEq X.K C CP)) (TP : TxtP X.K X.mg CP) (hr : Room (k + 1) X.A) : OpR X (compareOp .NotEq) (rCmpT (DPg X.K C CP) not) := by
  obtain ⟨f, fd, ow, F, hb⟩ := S
  refine OpR.imp (op_neOwn ow ⟨TP.ne, TP.cm⟩ F hb hr (pass0)) fun x y H Q h => ?_
  obtain ⟨b, ⟨a, c, r, u, rfl, rfl, h1, h2, rfl⟩, q⟩ := h
  obtain ⟨dx, q1, pl, ys, g1, _⟩ := h1.ex
  obtain ⟨dy, q', pl', ys', g2, _⟩ := h2.ex
  exact ⟨a, dx, _, c, dy, _, rfl, rfl, g1, g2, a, c, r, u, rfl, h1, h2, fun H' s => ⟨_, rfl, q H' s⟩⟩
theorem call_lenP (S : Spc X.prog X.w X.K X.mg X.base CP "__len__" 1 ["self"] (spPLen X.K C CP)) (hr : Room 2 X.A) : CallR X (.builtin "len") (fun xs H Q => ∃ a r, xs = [.ref a] ∧ PgAt X.K C CP H a r ∧ Q (.int ((manyR r : Nat) : Int)) H) := by
  obtain ⟨f, fd, ow, F, hb⟩ := S
  refine CallR.imp (call_lenOwn ow F hb hr (pass0)) fun xs H Q h => ?_
  obtain ⟨a, r, rfl, ha, q⟩ := h
  obtain ⟨dx, q1, pl, ys, g1, _⟩ := ha.ex
  have := ha.mn
  exact ⟨a, dx, _, rfl, g1, a, r, rfl, ha, _, rfl, by omega, q⟩
theorem call_boolP (S : Spc X.prog X.w X.K X.mg X.base CP "__len__" 1 ["self"] (spPLen X.K C CP)) (nb : PySem.W.findIn X.K (.ref CP) "__bool__" = some none) (hr : Room 4 X.A) : CallR X (.type "bool") (fun xs H Q => ∃ a r, xs = [.ref a] ∧ PgAt X.K C CP H a r ∧ Q (.bl (((manyR r : Nat) : Int) != 0)) H) := by
  obtain ⟨f, fd, o, F, hb⟩ := S
  intro pins s σ H xs us Q I r h
  obtain ⟨a, t, rfl, ha, q⟩ := h
  obtain ⟨u, rfl, ru⟩ := vals1 r
  cases (show u = Value.ref a from ru)
  obtain ⟨dx, q1, pl, ys, g1, _⟩ := ha.ex
  have hm := ha.mn
  obtain ⟨od, J⟩ := inst_of I g1
  have hr3 : Room 1 X.A.in1.in1.in1 := (show Room 2 X.A.in1.in1 from (show Room 3 X.A.in1 from hr.in1).in1).in1
  refine JsLow.call_boolV (JsLow.truth_len I.kIn J nb o.at_ o.fn (wpAny_mono (run_fnA (us := [.ref a]) (vs := [.ref a]) (Q := fun z H' => z = .int ((manyR t : Nat) : Int) ∧ H' = H) F hr3 I.env0.in1.in1.in1 hb pass0 I (.cons rfl .nil) ⟨a, t, rfl, ha, rfl, rfl⟩) (fun w s' z => ?_) fun _ _ x => x))
  obtain ⟨z', H', I', rz, rfl, rfl⟩ := z
  obtain ⟨t', rfl⟩ := (show ∃ t', w = Value.int ((manyR t : Nat) : Int) t' from rz)
  exact ⟨_, _, rfl, by omega, by omega, fun tk => ⟨.bl _, _, I'.tok tk, rfl, q⟩⟩
/-- x == y, x of the class at C with its own ==, y of another kind -/
theorem op_eqNk (S : Spc X.prog X.w X.K X.mg X.base C "__eq__" k ["self", "other"] (spEqN X.K C)) (hr : Room k X.A) : OpR X (compareOp .Eq) (rEqN X.K C) := by
  obtain ⟨f, fd, o, F, hb⟩ := S
  intro pins s σ H x y v u Q I rx ry h
  obtain ⟨a, dx, fs, rfl, ha, ⟨t, hty, hnf, hkt⟩, q⟩ := h
  cases (show v = Value.ref a from rx)
  show wpAny _ _ (richCompare .Eq (.ref a) u) _ _ _
  obtain ⟨od, J⟩ := inst_of I ha
  obtain ⟨m, hF⟩ := I.fr
  obtain ⟨Z, kx, hZ, _⟩ := kit_of I ry hty
  refine PySem.W.cmp_K (op := .Eq) (tb := t) hr.units0 hF I.ok.mod.kin J (kx.ty _ _ I.kIn hZ) hnf o.at_ o.fn (wpAny_mono (run_fnA (us := [.ref a, u]) (vs := [.ref a, y]) (Q := fun z H' => z = .bl false ∧ Q (.bl false) H') F hr I.env0 hb pass0 I (.cons rfl (.cons ry .nil)) ⟨a, y, rfl, ⟨t, hty, hnf, hkt⟩, rfl, q⟩) (fun w s' z => ?_) fun _ _ x => x)
  obtain ⟨z', H', I', rz, rfl, qz⟩ := z
  cases (show w = Value.bool false from rz)
  exact ⟨.bl false, H', I', rfl, qz⟩
/-- a built-in value ahead of a program: None, a text, a whole number, a tuple, a list -/
def Blt5 (K : PySem.W.Frag) (H : Hp) (x : V) : Prop := x = .non ∨ (∃ z, x = .str z) ∨ (∃ i, x = .int i) ∨ (∃ p xs, x = .ref p ∧ SqT K H p xs) ∨ ∃ p xs, x = .ref p ∧ SqL K H p xs
def rEqBf (K : PySem.W.Frag) (CP : Addr) : R2 := fun x y H Q => ∃ a dx fs, y = .ref a ∧ H a = some (.ins CP dx fs) ∧ Blt5 K H x ∧ NoTh K CP H x ∧ Q (.bl false) H
theorem op_eqBf (S : Spc X.prog X.w X.K X.mg X.base CP "__eq__" k ["self", "other"] (spEqN X.K CP)) (hs : ∀ n ∈ ["NoneType", "str", "int", "tuple", "list"], PySem.W.subIn X.K (.ref CP) (.type n) = some false) (hr : Room k X.A) : OpR X (compareOp .Eq) (rEqBf X.K CP) := by
  obtain ⟨f, fd, o, F, hb⟩ := S
  intro pins s σ H x y u v Q I rx ry h
  obtain ⟨a, dx, fs, rfl, ha, h5, hn, q⟩ := h
  cases (show v = Value.ref a from ry)
  obtain ⟨od, J⟩ := inst_of I ha
  have hx : s.heap.get? a = some (PySem.W.instObj CP dx) := (show ObjOk X.prog X.w H s.heap a (.ins CP dx _) from I.hok a _ ha).2.2.2.1
  have fin : ∀ tk, wpAny (model X.prog X.w) X.A (call (.ref f) [.ref a, u]) (PySem.W.CmpBack (EP X pins σ Q)) X.xe { s with toks := tk } := by
    intro tk
    refine wpAny_mono (run_fnA (us := [.ref a, u]) (vs := [.ref a, x]) (Q := fun z H' => z = .bl false ∧ H' = H) F hr (I.tok tk).env0 hb pass0 (I.tok tk) (.cons rfl (.cons rx .nil)) ⟨a, x, rfl, hn, rfl, rfl⟩) (fun w s' z => ?_) fun _ _ x => x
    obtain ⟨z', H', I', rz, rfl, rfl⟩ := z
    cases (show w = Value.bool false from rz)
    exact ⟨.bl false, _, I', rfl, q⟩
  show wpAny _ _ (richCompare .Eq u (.ref a)) _ _ _
  rcases h5 with rfl | ⟨z, rfl⟩ | ⟨i, rfl⟩ | ⟨p, xs, rfl, hp⟩ | ⟨p, xs, rfl, hp⟩
  · cases (show u = Value.none from rx)
    exact JsLow.refl_K (T := "NoneType") hr.units0 I.kIn J rfl rfl (hs _ (by simp)) JsLow.dec_none o.at_ o.fn fin
  · obtain ⟨t', rfl⟩ := (show ∃ t', u = Value.str z t' from rx)
    exact JsLow.refl_K (T := "str") hr.units0 I.kIn J (typeIs_str s z t') rfl (hs _ (by simp)) (JsLow.dec_str hx) o.at_ o.fn fin
  · obtain ⟨t', rfl⟩ := (show ∃ t', u = Value.int i t' from rx)
    exact JsLow.refl_K (T := "int") hr.units0 I.kIn J (typeIs_int s i t') rfl (hs _ (by simp)) (JsLow.dec_int hx) o.at_ o.fn fin
  · cases (show u = Value.ref p from rx)
    obtain ⟨us, _, ht, _⟩ := I.tuple hp
    exact JsLow.refl_K (T := "tuple") hr.units0 I.kIn J ht.typeIs rfl (hs _ (by simp)) (JsLow.dec_tup I.kIn J ht.typeIs (hs _ (by simp))) o.at_ o.fn fin
  · cases (show u = Value.ref p from rx)
    obtain ⟨us, _, ht, _⟩ := I.list hp
    exact JsLow.refl_K (T := "list") hr.units0 I.kIn J ht.isList.typeIs rfl (hs _ (by simp)) (JsLow.dec_lst I.kIn J ht.isList.typeIs (hs _ (by simp))) o.at_ o.fn fin
theorem OpR.or {f : Value → Value → Sem Value} {r r' : R2} (h : OpR X f r) (h' : OpR X f r') : OpR X f (fun x y H Q => r x y H Q ∨ r' x y H Q) := fun pins s σ H x y v u Q I rx ry q => q.elim (h pins s σ H x y v u Q I rx ry) (h' pins s σ H x y v u Q I rx ry)
end
section
variable {P : Program} {w : World} {K : PySem.W.Frag} {mg : Str → Option Value} {base : Heap} {C CP : Addr}
theorem ok_peqN {f : Addr} {fd : FuncData} (F : Fun K "__eq__" "Program.__eq__" sPEq f fd) (T : Txt K mg C) (TP : TxtP K mg CP) (SE : Spc P w K mg base C "__eq__" 2 ["self", "other"] (spEqT C)) : FnOk P w K mg base CX0 21 f fd ["self", "other"] (spEqN K CP) := by
  refine F.ok scPE (fun vs H Q E h => ?_) (fun cdv A outer s H vs Q E hr h => ?_)
  · obtain ⟨a, y, rfl, _⟩ := h
    rfl
  · obtain ⟨a, y, rfl, ⟨t, hty, hnf, hkt⟩, k⟩ := h
    refine ⟨_, pss_one (ps_ret (pe_and (pe_callB (r := rIsi K) call_isi (by rfl) T.isi PyProof.Rows.boot_isinstance (pa_cons (pv 1) (pa_cons (pe_glob (v := .ref CP) rfl TP.mgP rfl) pa_nil))) (pe_one (pe_cmpR (op_eqTl (eqT_rows SE 9).2.1 hr) (pe_fld (pv 0) rfl) (pe_fld (pv 1) rfl) (nomark _))))), ?_⟩
    exact ⟨_, rfl, _, _, _, _, false, rfl, ClsV.own CP, hty, hkt, false, rfl, iteF k⟩
end
end Js

set_option Elab.async false
set_option linter.all false
set_option maxRecDepth 100000
set_option maxHeartbeats 2000000
namespace Js
open PySem L2
section
open PyProof.Rows
variable {X : Cx} {C f : Addr} {k n : Nat} {fd : FuncData} {ps : List Str} {fs : List V → List (Str × V)} {ds : List Value} {dvs : List V} {p pos : Pos} {x : Str} {e : Expr} {es : List Expr} {t : TA}
theorem pe_objH (M : Mk X.K C f) (G : L2H.FnH X.prog X.w X.K X.mg X.base CX0 k f fd ps (spObj C fs n)) (hr : L2H.RoomH (k + 1) X.A) (hc : L2H.HotC X) (hg : Gl X x) (hm : X.mg x = some (.ref C)) (hb : Binds X.K fd ps ds) (hd : Vals dvs ds) (ha : PA X (e :: es) t)
    (hdb : (x == ("__debug__" : Str)) = false := by decide) (he : starEach (e :: es) X.env = (false, eval e X.env) :: starEach es X.env := by rfl) (hpl : (backTo pos (starEach es X.env)).any (·.1) = false := by rfl) : PE X (.Call (.Name x p) (e :: es) [] pos) (tObj C fs n dvs t) := by
  refine ⟨fun pins s σ H Q I h => ?_⟩
  refine wpAny_Call_Name_kw (ld_glob I hg hm ?_ hdb)
  refine PySem.W.callWith_K (h₀ := X.base) I.ok.mod.kin M.kp (thn (ha.run pos pins s σ H _ I h) fun us s1 ⟨vs, H1, I1, r, q⟩ => ⟨I1.kIn, ?_⟩) he hpl
  exact make_hot M G hr hc hb hd I1 r (mk_obj q.1 q.2)
end
/-! ### runs -/
theorem takesN {X : Cx} : L2N.Takes X (fun _ _ _ _ => False) := fun u s' x => by
  obtain ⟨_, _, _, _, _, _, _, _, _, _, _, _, _, _, _, _, h⟩ := x
  exact h.elim
section
variable {X : Cx} {C : Addr}
theorem mon_tg : MonT (DTh C) := fun x y r H H' s d => by
  obtain ⟨a, b, t, u, e1, e2, ha, hb, hz, e3⟩ := d
  exact ⟨a, b, t, u, e1, e2, ha.same s, hb.same s, hz, e3⟩
theorem eqT_tg (S : Spc X.prog X.w X.K X.mg X.base C "__eq__" 2 ["self", "other"] (spEqT C)) : EqT X 2 (DTh C) := by
  obtain ⟨f, fd, ow, F, hb⟩ := S
  refine eqT_own ow F hb (pass0) fun x y r H d => ?_
  obtain ⟨a, b, t, u, rfl, rfl, ha, hb', hz, rfl⟩ := d
  obtain ⟨dx, f1, g1, h1⟩ := ha.obj
  obtain ⟨dy, f2, g2, h2⟩ := hb'.obj
  refine ⟨a, b, dx, dy, _, _, rfl, rfl, h1, h2, fun e => ?_, a, b, t, u, rfl, ha, hb', hz, fun H' s => ⟨_, rfl, rfl, s⟩⟩
  subst e
  exact decide_eq_true (ha.inj hb')
/-- things, or nothing on both sides -/
theorem op_eqOT (S : Spc X.prog X.w X.K X.mg X.base C "__eq__" 2 ["self", "other"] (spEqT C)) (hr : Room 2 X.A) : OpR X (compareOp .Eq) (fun x y H Q => (x = .non ∧ y = .non ∧ Q (.bl true) H) ∨ rEqT C x y H Q) := by
  intro pins s σ H x y v u Q I rx ry h
  rcases h with ⟨rfl, rfl, q⟩ | h
  · exact op_eq pins s σ H _ _ v u Q I rx ry ⟨rfl, q⟩
  · exact op_eqT S hr pins s σ H x y v u Q I rx ry h
/-- two rows of things -/
def eqB (ts us : List Tr) : List Bool := (ts.zip us).map fun p => decide (p.1 = p.2)
theorem eqB_all : ∀ (ts us : List Tr), ts.length = us.length → (eqB ts us).all id = decide (ts = us)
  | [], [], _ => rfl
  | [], b :: us, h => by cases h
  | a :: ts, [], h => by cases h
  | a :: ts, b :: us, h => by
    have ih := eqB_all ts us (by simpa using h)
    have e : eqB (a :: ts) (b :: us) = decide (a = b) :: eqB ts us := rfl
    rw [e, List.all_cons, ih]
    by_cases h1 : a = b
    · by_cases h2 : ts = us <;> simp [h1, h2]
    · simp [h1]
theorem prs_tg {H : Hp} {xs ys : List V} {ts us : List Tr} (h1 : Paired (ThV C H) xs ts) (h2 : Paired (ThV C H) ys us) (hz : ∀ t ∈ ts, t.size ≤ 4000) : PrsT (DTh C) xs ys (eqB ts us) H := by
  have l1 := Paired.length h1
  have l2 := Paired.length h2
  refine ⟨by rw [eqB, List.length_map, List.length_zip, l1, l2], fun i x y b hx hy hb _ => ?_⟩
  obtain ⟨t, ht, a, rfl, hta⟩ := paired_get h1 hx
  obtain ⟨u, hu, c, rfl, huc⟩ := paired_get h2 hy
  have e : (eqB ts us)[i]? = some (decide (t = u)) := by
    rw [eqB, List.getElem?_map]
    have : (ts.zip us)[i]? = some (t, u) := by
      rw [List.getElem?_zip_eq_some]
      exact ⟨ht, hu⟩
    rw [this]
    rfl
  rw [e] at hb
  exact ⟨a, c, t, u, rfl, rfl, hta, huc, hz t (List.mem_of_getElem? ht), (Option.some.inj hb).symm⟩
theorem ttup_tg {H : Hp} {q q2 : Addr} {xs ys : List V} {ts us : List Tr} (hq : SqT X.K H q xs) (hq2 : SqT X.K H q2 ys) (h1 : Paired (ThV C H) xs ts) (h2 : Paired (ThV C H) ys us) (hl : ts.length = us.length) (hz : ∀ t ∈ ts, t.size ≤ 4000) : TTup X.K (DTh C) (.ref q) (.ref q2) (decide (ts = us)) H := by
  refine ⟨q, q2, xs, ys, eqB ts us, rfl, rfl, hq, hq2, prs_tg h1 h2 hz, ?_⟩
  unfold tells
  rw [eqB_all ts us hl, decide_eq_true (show xs.length = ys.length by rw [Paired.length h1, Paired.length h2, hl]), Bool.true_and]
end
def firstN (t : Tr) : List Tr := t :: List.replicate 9 .nil
theorem firstN_ok (t : Tr) (h : t.size ≤ 4000) : NsOk (firstN t) := by
  refine ⟨by simp [firstN], fun u hu => ?_⟩
  rcases List.mem_cons.mp hu with rfl | hu
  · exact h
  · rw [(List.mem_replicate.mp hu).2]
    exact Nat.zero_le _
end Js

set_option Elab.async false
set_option linter.all false
set_option maxRecDepth 100000
set_option maxHeartbeats 2000000
namespace Js
open PySem L2
open PySem.Spec PyProof.Rows
abbrev sIsCode : Stmt := top 38
theorem PgAt.okr {K : PySem.W.Frag} {C CP : Addr} {H : Hp} {a : Addr} {r : List Dd} (h : PgAt K C CP H a r) : okR r := by
  obtain ⟨_, _, _, _, _, ⟨vs, _, h2⟩, _, _⟩ := h.ex
  exact DsAt_ok r vs h2
def spIsCode (C : Addr) : Sp := fun vs H Q _ => ∃ y r, vs = [.ref y] ∧ Th C H y (codeR r) ∧ okR r ∧ deepR r ≤ 8 ∧ manyR r ≤ 4000 ∧ (codeR r).size ≤ 4000 ∧ ∀ H', Same H H' → Q (.bl true) H'
/-- is_code of any thing -/
def spIsCodeW (C : Addr) : Sp := fun vs H Q _ => ∃ y t, vs = [.ref y] ∧ Th C H y t ∧ t.size ≤ 4000 ∧ ∀ H', Same H H' → ((∃ r, t = codeR r ∧ okR r ∧ deepR r ≤ 8 ∧ manyR r ≤ 4000) → Q (.bl true) H') ∧ ((¬ ∃ r, okRow (rowW 8 t) 0 0 r) → Q (.bl false) H')
/-- what stands for a thing: a program, or none -/
theorem okRow_code {t : Tr} (hz : t.size ≤ 4000) {r : List Dd} (h : okRow (rowW 8 t) 0 0 r) : t = codeR r ∧ okR r ∧ deepR r ≤ 8 ∧ manyR r ≤ 4000 := by
  obtain ⟨h1, h2, h3⟩ := rowW_inv hz h.1
  exact ⟨h1, h2, h3, by have := h.2.2; omega⟩
section
variable {P : Program} {w : World} {K : PySem.W.Frag} {mg : Str → Option Value} {base : Heap} {C CP NP fPo : Addr} {fdPo : FuncData}
theorem scIc : FnScope ["thing"] ["thing"] (defScope sIsCode) := ⟨rfl, rfl, rfl, by decide +kernel, rfl, by decide +kernel, by decide +kernel⟩
theorem ok_isCode {f : Addr} {fd : FuncData} (F : Fun K "is_code" "is_code" sIsCode f fd) (mNP : mg "NoProgram" = some (.ref NP)) (DPo : Def P w K mg base "program_of" 34 ["thing"] (spProgOf K C CP)) : FnOk P w K mg base CX0 35 f fd ["thing"] (spIsCode C) := by
  refine F.ok scIc (fun vs H Q E h => ?_) (fun cdv A outer s H vs Q E hr h => ?_)
  · obtain ⟨y, r, rfl, _⟩ := h
    rfl
  · obtain ⟨y, r, rfl, hy, hok, hdp, hmn, hz, k⟩ := h
    have hr34 : Room 34 _ := hr
    refine ⟨_, pss_cons (ps_try_only (tb := fun _ => tDrop (tCall (spProgOf K C CP) [] E0 (tCons (tVar 0) tNil))) (ts := fun _ _ _ _ _ _ => False) (Wout := fun _ _ _ _ => False) rfl rfl ⟨rfl, by decide, Or.inl mNP⟩ takes0 (fun W pn xe tk _ => (pss_one (ps_expr (by exact (pe_def DPo hr34 rfl (by exact (pa_cons (pv 0) pa_nil))))))) (fun a oe cls d pn hz hf => pss_never)) (pss_one (ps_ret pe_bl)), ?_⟩
    exact ⟨_, rfl, y, r, rfl, hy, hok, hdp, hmn, hz, fun z H1 s1 _ _ => k H1 s1⟩
theorem ok_isCodeW {f : Addr} {fd : FuncData} (F : Fun K "is_code" "is_code" sIsCode f fd) (mNP : mg "NoProgram" = some (.ref NP)) (exNP : PySem.W.exmOne K (.ref NP) (.ref NP) = some true) (GPo : FnOk P w K mg base (L2N.CX P w) 34 fPo fdPo ["thing"] (spProgW K C CP NP)) (mgPo : mg "program_of" = some (.ref fPo)) (kPo : PySem.W.keepIn K (.ref fPo) = true) (bPo : Binds K fdPo ["thing"] []) : FnOk P w K mg base CX0 35 f fd ["thing"] (spIsCodeW C) := by
  refine F.ok scIc (fun vs H Q E h => ?_) (fun cdv A outer s H vs Q E hr h => ?_)
  · obtain ⟨y, t, rfl, _⟩ := h
    rfl
  · obtain ⟨y, t, rfl, hy, hz, k⟩ := h
    have hr34 : Room 34 _ := hr
    refine ⟨_, PSs.nox (pss_cons (L2N.ps_try_many (tb := fun W_ => tDrop (tCallS (spProgW K C CP NP) (WE W_) (tCons (tVar 0) tNil))) (l := [(.ref NP, fun _ _ _ => tRet (tC (.bl false)))]) (Wout := fun _ _ _ _ => False) rfl rfl takesN (fun W_ pn xe tk _ => (pss_one (ps_expr (by exact (pe_callS GPo hr34 rfl mgPo kPo bPo (fun σ => L2N.passAt tk σ) (by exact (pa_cons (pv 0) pa_nil))))))) (.cons ⟨rfl, by decide, Or.inl mNP⟩ (fun a oe cls d pn hz hf => (pss_one (ps_ret pe_bl))) .nil)) (pss_one (ps_ret pe_bl))), ?_⟩
    refine ⟨_, rfl, y, t, rfl, hy, hz, fun r hok z H1 s1 nz hz1 => ?_, fun hno m d H1 s1 hd => ?_⟩
    · exact (k H1 s1).1 ⟨r, okRow_code hz hok⟩
    · refine ⟨true, exNP, fun _ a0 _ => ?_, fun q => Bool.noConfusion q⟩
      exact (k H1 s1).2 hno
end
end Js

set_option Elab.async false
set_option linter.all false
set_option maxRecDepth 100000
set_option maxHeartbeats 2000000
namespace Js
open PySem L2
def cThing : List Nat := [84, 104, 105, 110, 103, 32]
theorem c_Thing : (("Thing " : Str)) = tx cThing := by decide +kernel
def spRepr (C : Addr) : Sp := fun vs H Q _ => ∃ a t, vs = [.ref a] ∧ Th C H a t ∧ t.size ≤ 4000 ∧ ∀ H', Same H H' → Q (.str (tx (cThing ++ t.codes))) H'
section
variable {P : Program} {w : World} {K : PySem.W.Frag} {mg : Str → Option Value} {base : Heap} {C fI : Addr} {fdI : FuncData}
theorem scRp : FnScope ["self"] ["self"] (defScope sRepr) := ⟨rfl, rfl, rfl, by decide +kernel, rfl, by decide +kernel, by decide +kernel⟩
theorem ok_repr {f : Addr} {fd : FuncData} (F : Fun K "__repr__" "Thing.__repr__" sRepr f fd) (B : Blt mg) (S : Spc P w K mg base C "__str__" 2 ["self"] (spStr C)) : FnOk P w K mg base CX0 5 f fd ["self"] (spRepr C) := by
  refine F.ok scRp (fun vs H Q E h => ?_) (fun cdv A outer s H vs Q E hr h => ?_)
  · obtain ⟨a, t, rfl, _⟩ := h
    rfl
  · obtain ⟨a, t, rfl, ha, hz, k⟩ := h
    refine ⟨_, pss_one (ps_ret (pe_joined (.cons pe_str (.cons (pe_fmt (pe_callTy (call_strT S hr) (by rfl) B.str PyProof.Rows.boot_str (pa_cons (pv 0) pa_nil))) .nil)))), ?_⟩
    have hsl := line4
    refine ⟨_, rfl, (by decide +kernel), _, rfl, a, t, rfl, ha, hz, fun H' s1 => .inl ⟨_, rfl, ?_, _, rfl, ?_, ?_⟩⟩
    · rw [Tr.text_len]
      omega
    · have e : Str.empty ++ ("Thing " : Str) = tx cThing := by decide +kernel
      rw [e, tx_text, tx_append, tx_len, List.length_append, Tr.codes_len]
      simp [cThing]
      omega
    · have e : Str.empty ++ ("Thing " : Str) = tx cThing := by decide +kernel
      have q := k H' s1
      show Q (.str (Str.empty ++ ("Thing " : Str) ++ t.text)) H'
      rw [e, tx_text, tx_append]
      exact q
end
section
open PyProof.Rows
variable {X : Cx} {C : Addr}
theorem call_reprT (S : Spc X.prog X.w X.K X.mg X.base C "__repr__" 5 ["self"] (spRepr C)) (hr : Room 6 X.A) : CallR X (.builtin "repr") (fun xs H Q => ∃ a t, xs = [.ref a] ∧ Th C H a t ∧ t.size ≤ 4000 ∧ ∀ H', Same H H' → Q (.str (tx (cThing ++ t.codes))) H') := by
  obtain ⟨f, fd, ow, F, hb⟩ := S
  refine CallR.imp (call_reprOwn ow F hb hr (pass0)) fun xs H Q h => ?_
  obtain ⟨a, t, rfl, ha, hz, q⟩ := h
  obtain ⟨dx, f1, g1, h1⟩ := ha.obj
  exact ⟨a, dx, _, rfl, h1, a, t, rfl, ha, hz, fun H' s => ⟨_, rfl, q H' s⟩⟩
/-- f(k = v, ..), no value by its place -/
theorem pe_callN0 {CX : CXT} {k : Nat} {f : Addr} {fd : FuncData} {ps ks : List Str} {sp : Sp} {E : XK} {x : Str} {p pos : Pos} {kws : List Keyword} {tk : TA} {g : List Value → List Value → List Value} {gV : List V → List V → List V}
    (F : FnOk X.prog X.w X.K X.mg X.base CX k f fd ps sp) (hr : Room k X.A) (hg : Gl X x) (hm : X.mg x = some (.ref f)) (hk : PySem.W.keepIn X.K (.ref f) = true) (hb : KBn X.K fd ps 0 ks g gV) (hx : Passes CX X E)
    (hkw : PK X kws tk) (hall : (backToKw pos (keywordEach kws X.env)).all (·.1.isSome) = true := by rfl) (hks : (backToKw pos (keywordEach kws X.env)).filterMap (·.1) = ks := by rfl)
    (hdb : (x == ("__debug__" : Str)) = false := by decide) (hpl : ((backTo pos (starEach [] X.env)).any (·.1) || (backToKw pos (keywordEach kws X.env)).any (·.1.isNone)) = false := by rfl) :
    PE X (.Call (.Name x p) [] kws pos) (tCallN 0 ks.length sp gV E tNil tk) := by
  refine ⟨fun pins s σ H Q I h => ?_⟩
  refine wpAny_Call_Name_kw (ld_glob I hg hm ?_ hdb)
  refine PySem.W.callWith_KW0 (h₀ := X.base) I.ok.mod.kin hk hall (thn (hkw.run pos pins s σ H _ I h) fun ws s2 hh => ?_) hpl
  obtain ⟨zs, H2, I2, rz, l1, l2, q2⟩ := hh
  refine ⟨I2.kIn, ?_⟩
  rw [hks]
  exact run_fnN (us := []) (vs := []) F hr hb hx I2 .nil rz l1 l2 q2
end
/-- a def that is called by one keyword -/
def DefK (P : Program) (w : World) (K : PySem.W.Frag) (mg : Str → Option Value) (base : Heap) (x : Str) (k : Nat) (ps ks : List Str) (sp : Sp) : Prop :=
  ∃ f fd, mg x = some (.ref f) ∧ PySem.W.keepIn K (.ref f) = true ∧ FnOk P w K mg base CX0 k f fd ps sp ∧ KBn K fd ps 0 ks (fun _ ws => ws) (fun _ zs => zs)
theorem pe_defK {X : Cx} {x : Str} {p pos : Pos} {k : Nat} {ps ks : List Str} {sp : Sp} {kws : List Keyword} {tk : TA} (D : DefK X.prog X.w X.K X.mg X.base x k ps ks sp) (hr : Room k X.A) (hg : Gl X x) (hkw : PK X kws tk)
    (hall : (backToKw pos (keywordEach kws X.env)).all (·.1.isSome) = true := by rfl) (hks : (backToKw pos (keywordEach kws X.env)).filterMap (·.1) = ks := by rfl)
    (hdb : (x == ("__debug__" : Str)) = false := by decide) (hpl : ((backTo pos (starEach [] X.env)).any (·.1) || (backToKw pos (keywordEach kws X.env)).any (·.1.isNone)) = false := by rfl) :
    PE X (.Call (.Name x p) [] kws pos) (tCallN 0 ks.length sp (fun _ zs => zs) E0 tNil tk) := by
  obtain ⟨f, fd, hm, hk, F, hb⟩ := D
  exact pe_callN0 F hr hg hm hk hb pass0 hkw hall hks hdb hpl
end Js

set_option Elab.async false
set_option linter.all false
set_option maxRecDepth 100000
set_option maxHeartbeats 2000000
/-! the words of a row by any depth, and the text of a program -/
namespace Js
open PySem L2
abbrev sPRepr : Stmt := inClass (top 22) 5
abbrev sPStr : Stmt := inClass (top 22) 4
def textR (r : List Dd) : Str := PySem.Txt.join (" " : Str) (wordsR r)
def sumR (r : List Dd) : Nat := ((wordsR r).map (·.length)).sum + (wordsR r).length
def spPStr (K : PySem.W.Frag) (C CP : Addr) : Sp := fun vs H Q _ => ∃ a r, vs = [.ref a] ∧ PgAt K C CP H a r ∧ sumR r ≤ 16777216 ∧ ∀ H', Same H H' → Q (.str (textR r)) H'
section
variable {P : Program} {w : World} {K : PySem.W.Frag} {mg : Str → Option Value} {base : Heap} {C CP : Addr}
theorem ok_words {f fD : Addr} {fd fdD : FuncData} {tL : Tok} (F : Fun K "row_words" "row_words" sRowW f fd) (mgr : mg "row_words" = some (.ref f)) (br : Binds K fd ["row"] []) (FD : Fun K "deed_words" "deed_words" sDeedW fD fdD) (mgd : mg "deed_words" = some (.ref fD)) (bd : Binds K fdD ["deed"] []) (B : Blt mg) (G : FrmC K w mg) (mL : mg "LETTERS" = some (.str "abcdefghij" tL)) (SS : Spc P w K mg base C "__str__" 2 ["self"] (spStr C)) (DN : Def P w K mg base "names_in" 1 ["deed"] (spNamesIn K C)) (DR : Def P w K mg base "rows_in" 1 ["deed"] (spRowsIn K C)) :
    ∀ n, FnOk P w K mg base CX0 (2 * n + 4) fD fdD ["deed"] (spDeedW K C n) ∧ FnOk P w K mg base CX0 (2 * n + 5) f fd ["row"] (spRowW K C n) := by
  intro n
  induction n with
  | zero =>
    have g : FnOk P w K mg base CX0 (2 * 0 + 4) fD fdD ["deed"] (spDeedW K C 0) := by
      refine FD.ok scDW (fun vs H Q E h => ?_) (fun cdv A outer s H vs Q E hr h => ?_)
      · obtain ⟨v, d, rfl, _⟩ := h
        rfl
      · obtain ⟨v, d, _, _, h, _⟩ := h
        exact absurd h (Nat.not_lt_zero _)
    exact ⟨g, ok_rowW F FD mgd bd _ _ g⟩
  | succ n ih =>
    have g := ok_deedW FD F mgr br B G mL SS DN DR (2 * n + 5) n (by omega) ih.2
    exact ⟨g, ok_rowW F FD mgd bd _ _ g⟩
theorem scPS : FnScope ["self"] ["self"] (defScope sPStr) := ⟨rfl, rfl, rfl, by decide +kernel, rfl, by decide +kernel, by decide +kernel⟩
theorem ok_pstr {f fR : Addr} {fd fdR : FuncData} (F : Fun K "__str__" "Program.__str__" sPStr f fd) (TP : TxtP K mg CP) (FR : Fun K "row_words" "row_words" sRowW fR fdR) (mgr : mg "row_words" = some (.ref fR)) (br : Binds K fdR ["row"] []) (GR : FnOk P w K mg base CX0 23 fR fdR ["row"] (spRowW K C 9)) : FnOk P w K mg base CX0 24 f fd ["self"] (spPStr K C CP) := by
  refine F.ok scPS (fun vs H Q E h => ?_) (fun cdv A outer s H vs Q E hr h => ?_)
  · obtain ⟨a, r, rfl, _⟩ := h
    rfl
  · obtain ⟨a, r, rfl, ha, hz, k⟩ := h
    refine ⟨_, pss_one (ps_ret (pe_join pe_str (pe_call GR hr rfl mgr FR.kp br .nil pass0 (pa_cons (pe_fld (pv 0) rfl) pa_nil)))), ?_⟩
    have hdp := ha.dp
    have hmn := ha.mn
    obtain ⟨dx, q, pl, ys, h1, h2, h3, h4⟩ := ha.ex
    refine ⟨⟨_, rfl⟩, _, rfl, _, _, _, _, _, rfl, h1, TP.cl, TP.nD, pf_deeds _ _, q, r, rfl, h2, by omega, hmn, fun p H' s1 np hp => ?_⟩
    refine ⟨_, p, wordsR r, rfl, rfl, .inl (SqL.of hp), ?_, k H' s1⟩
    rw [show ((" " : Str)).length = 1 from by decide +kernel, Nat.mul_one]
    exact hz
end
section
variable {X : Cx} {C CP : Addr}
theorem call_strP (S : Spc X.prog X.w X.K X.mg X.base CP "__str__" 24 ["self"] (spPStr X.K C CP)) (hr : Room 26 X.A) : CallR X (.type "str") (fun xs H Q => ∃ a r, xs = [.ref a] ∧ PgAt X.K C CP H a r ∧ sumR r ≤ 16777216 ∧ ∀ H', Same H H' → Q (.str (textR r)) H') := by
  obtain ⟨f, fd, ow, F, hb⟩ := S
  refine CallR.imp (call_strOwn ow F hb hr (pass0)) fun xs H Q h => ?_
  obtain ⟨a, r, rfl, ha, hz, q⟩ := h
  obtain ⟨dx, q1, pl, ys, h1, _⟩ := ha.ex
  exact ⟨a, dx, _, rfl, h1, a, r, rfl, ha, hz, fun H' s => ⟨_, rfl, q H' s⟩⟩
end
def spPRepr (K : PySem.W.Frag) (C CP : Addr) : Sp := fun vs H Q _ => ∃ a r, vs = [.ref a] ∧ PgAt K C CP H a r ∧ sumR r ≤ 16777216 ∧ (textR r).length + 8 ≤ 16777216 ∧ ∀ H', Same H H' → Q (.str (("Program " : Str) ++ textR r)) H'
section
variable {P : Program} {w : World} {K : PySem.W.Frag} {mg : Str → Option Value} {base : Heap} {C CP : Addr}
theorem scPR : FnScope ["self"] ["self"] (defScope sPRepr) := ⟨rfl, rfl, rfl, by decide +kernel, rfl, by decide +kernel, by decide +kernel⟩
theorem ok_prepr {f : Addr} {fd : FuncData} (F : Fun K "__repr__" "Program.__repr__" sPRepr f fd) (B : Blt mg) (S : Spc P w K mg base CP "__str__" 24 ["self"] (spPStr K C CP)) : FnOk P w K mg base CX0 27 f fd ["self"] (spPRepr K C CP) := by
  refine F.ok scPR (fun vs H Q E h => ?_) (fun cdv A outer s H vs Q E hr h => ?_)
  · obtain ⟨a, r, rfl, _⟩ := h
    rfl
  · obtain ⟨a, r, rfl, ha, hz, hy, k⟩ := h
    refine ⟨_, pss_one (ps_ret (pe_joined (.cons pe_str (.cons (pe_fmt (pe_callTy (call_strP S hr) (by rfl) B.str PyProof.Rows.boot_str (pa_cons (pv 0) pa_nil))) .nil)))), ?_⟩
    have hsl := sizeLine_eq
    have e : Str.empty ++ ("Program " : Str) = ("Program " : Str) := by decide +kernel
    have e8 : (("Program " : Str)).length = 8 := by decide +kernel
    refine ⟨_, rfl, (by decide +kernel), _, rfl, a, r, rfl, ha, hz, fun H' s1 => .inl ⟨_, rfl, ?_, _, rfl, ?_, ?_⟩⟩
    · omega
    · rw [e, Str.length_append, e8]
      omega
    · show Q (.str (Str.empty ++ ("Program " : Str) ++ textR r)) H'
      rw [e]
      exact k H' s1
end
end Js

set_option Elab.async false
set_option linter.all false
set_option maxRecDepth 100000
set_option maxHeartbeats 2000000
namespace Js
open PySem L2
/-! the texts of deeds by their signs: with a blank behind each word -/
def jC (ws : List Str) : List Nat := (ws.map fun x => x.cps.toList ++ [32]).flatten
theorem jC_nil : jC [] = [] := rfl
theorem jC_cons (x : Str) (ws : List Str) : jC (x :: ws) = x.cps.toList ++ [32] ++ jC ws := by simp [jC]
theorem jC_app (a b : List Str) : jC (a ++ b) = jC a ++ jC b := by simp [jC]
def lC (a : Nat) : List Nat := (letS a).cps.toList
mutual
def Dd.shC : Dd → List Nat
  | .told a t => lC a ++ [32, 61, 32] ++ t.codes
  | .take s a b => lC a ++ [32, 61, 32] ++ (takeS s).cps.toList ++ [32] ++ lC b
  | .two s a b c => lC a ++ [32, 61, 32] ++ (twoS s).cps.toList ++ [32] ++ (lC b ++ [32] ++ lC c)
  | .wh a r => [119, 104, 105, 108, 101, 32] ++ lC a ++ ([32, 91, 32] ++ txC r ++ [93])
  | .iff a r o => [105, 102, 32] ++ lC a ++ (([32, 91, 32] ++ txC r ++ [93]) ++ ([32, 91, 32] ++ txC o ++ [93]))
def txC : List Dd → List Nat
  | [] => []
  | d :: r => d.shC ++ ([32] ++ txD r)
def txD : List Dd → List Nat
  | [] => []
  | d :: r => [59, 32] ++ (d.shC ++ ([32] ++ txD r))
end
theorem txD_cons (d : Dd) (r : List Dd) : txD (d :: r) = [59, 32] ++ txC (d :: r) := by rw [txD, txC]
theorem k_eq : ((("=" : Str))).cps.toList = [61] := by decide +kernel
theorem k_semi : (((";" : Str))).cps.toList = [59] := by decide +kernel
theorem k_op : ((("[" : Str))).cps.toList = [91] := by decide +kernel
theorem k_cl : ((("]" : Str))).cps.toList = [93] := by decide +kernel
theorem k_wh : ((("while" : Str))).cps.toList = [119, 104, 105, 108, 101] := by decide +kernel
theorem k_if : ((("if" : Str))).cps.toList = [105, 102] := by decide +kernel
theorem k_told : ((("told" : Str))).cps.toList = [116, 111, 108, 100] := by decide +kernel
theorem txC_len0 : txC [] = [] := by rw [txC]
theorem jC_wT (r : List Dd) (h : jC (wordsT r) = txD r) : jC ((wordsT r).drop 1) = txC r := by
  cases r with
  | nil => rw [wordsT, List.drop_nil, txC]; rfl
  | cons d r =>
    rw [txD_cons, wordsT, jC_cons, k_semi] at h
    rw [wordsT, List.drop_succ_cons, List.drop_zero]
    exact List.append_cancel_left (as := [59, 32]) (by simpa using h)
mutual
theorem jC_words : ∀ d : Dd, jC d.words = d.shC ++ [32]
  | .told a t => by simp [Dd.words, jC_cons, jC_nil, k_eq, Dd.shC, lC, Tr.text_list]
  | .take s a b => by simp [Dd.words, jC_cons, jC_nil, k_eq, Dd.shC, lC]
  | .two s a b c => by simp [Dd.words, jC_cons, jC_nil, k_eq, Dd.shC, lC]
  | .wh a r => by
    have h := jC_wT r (jC_wordsT r)
    simp only [Dd.words, jC_app, jC_cons, jC_nil, k_wh, k_op, k_cl, h, Dd.shC, lC]
    simp
  | .iff a r o => by
    have h := jC_wT r (jC_wordsT r)
    have h' := jC_wT o (jC_wordsT o)
    simp only [Dd.words, jC_app, jC_cons, jC_nil, k_if, k_op, k_cl, h, h', Dd.shC, lC]
    simp
theorem jC_wordsT : ∀ r : List Dd, jC (wordsT r) = txD r
  | [] => by rw [wordsT, txD]; rfl
  | d :: r => by
    rw [wordsT, jC_cons, jC_app, jC_words d, jC_wordsT r, k_semi, txD]
    simp
end
theorem jC_wordsR (r : List Dd) : jC (wordsR r) = txC r := jC_wT r (jC_wordsT r)
theorem jC_len : ∀ ws : List Str, (jC ws).length = (ws.map (·.length)).sum + ws.length
  | [] => rfl
  | x :: ws => by
    have h := jC_len ws
    have e : x.cps.toList.length = x.length := by rw [Array.length_toList]; rfl
    rw [jC_cons, List.length_append, List.length_append, h, e, List.map_cons, List.sum_cons, List.length_cons]
    simp
    omega
theorem sumR_eq (r : List Dd) : sumR r = (txC r).length := by rw [sumR, ← jC_len, jC_wordsR]
theorem joinL_blank : ∀ ws : List (List Nat), ws ≠ [] → TL.joinL [32] ws ++ [32] = (ws.map fun x => x ++ [32]).flatten
  | [], h => absurd rfl h
  | [p], _ => by simp [TL.joinL]
  | p :: q :: r, _ => by
    have := joinL_blank (q :: r) (by simp)
    rw [TL.joinL, List.append_assoc, List.append_assoc, this]
    simp
theorem textR_sp (r : List Dd) (h : r ≠ []) : (textR r).cps.toList ++ [32] = txC r := by
  rw [← jC_wordsR, textR, TL.join_eq]
  have e : TL.tl (PySem.Str.join (" " : Str) (wordsR r)) = TL.joinL (TL.tl (" " : Str)) ((wordsR r).map TL.tl) := TL.tl_join _ _
  have e1 : TL.tl (" " : Str) = [32] := by decide +kernel
  rw [e1] at e
  have e2 := joinL_blank ((wordsR r).map TL.tl) (by
    intro z
    exact wordsR_ne r h (List.map_eq_nil_iff.mp z))
  show TL.tl _ ++ [32] = _
  rw [e, e2, List.map_map]
  rfl
theorem textR_nil : textR [] = tx [] := by
  rw [textR, wordsR_nil]
  decide +kernel
theorem textR_tx (r : List Dd) : textR r = tx (txC r).dropLast := by
  cases r with
  | nil => rw [textR_nil, txC]; rfl
  | cons d r =>
    have h := textR_sp (d :: r) (by simp)
    rw [← h, List.dropLast_concat, tx_of]
/-- the law's text -/
theorem law_text : ∀ r : List Dd, TL.joinL [32, 59, 32] (r.map Dd.shC) ++ (if r = [] then [] else [32]) = txC r
  | [] => by rw [txC]; rfl
  | [d] => by rw [txC, txD]; simp [TL.joinL]
  | d :: e :: r => by
    have h := law_text (e :: r)
    rw [if_neg (by simp)] at h ⊢
    rw [List.map_cons] at h
    rw [txC, txD_cons, ← h, List.map_cons, List.map_cons, TL.joinL]
    simp
theorem shC_pos : ∀ d : Dd, 4 ≤ d.shC.length
  | .told a t => by rw [Dd.shC]; simp only [List.length_append, List.length_cons, List.length_nil]; have := Tr.codes_len t; omega
  | .take s a b => by
    rw [Dd.shC]
    simp only [List.length_append, List.length_cons, List.length_nil]
    cases s <;> (simp only [takeS]; omega)
  | .two s a b c => by
    rw [Dd.shC]
    simp only [List.length_append, List.length_cons, List.length_nil]
    cases s <;> (simp only [twoS]; omega)
  | .wh a r => by rw [Dd.shC]; simp only [List.length_append, List.length_cons, List.length_nil]; omega
  | .iff a r o => by rw [Dd.shC]; simp only [List.length_append, List.length_cons, List.length_nil]; omega
theorem txC_cons_len (d : Dd) (r : List Dd) : (txC (d :: r)).length = d.shC.length + 1 + (txD r).length := by
  rw [txC]
  simp only [List.length_append, List.length_cons, List.length_nil]
  omega
theorem txD_len (r : List Dd) : (txC r).length ≤ (txD r).length := by
  cases r with
  | nil => rw [txC, txD]; exact Nat.le_refl _
  | cons d r => rw [txD_cons, List.length_append]; omega
theorem txC_mem : ∀ (r : List Dd) (d : Dd), d ∈ r → d.shC.length ≤ (txC r).length
  | e :: r, d, h => by
    rw [txC_cons_len]
    rcases List.mem_cons.mp h with rfl | h
    · omega
    · have := txC_mem r d h
      have := txD_len r
      omega
theorem txC_sum : ∀ (r : List Dd), ((r.map fun d => d.shC.length).sum) + r.length ≤ (txC r).length
  | [] => by rw [txC]; simp
  | d :: r => by
    have := txC_sum r
    have := txD_len r
    rw [txC_cons_len, List.map_cons, List.sum_cons, List.length_cons]
    omega
theorem lC_len (a : Nat) : (lC a).length = 1 := by
  unfold lC
  match a with
  | 0 => decide +kernel
  | 1 => decide +kernel
  | 2 => decide +kernel
  | 3 => decide +kernel
  | 4 => decide +kernel
  | 5 => decide +kernel
  | 6 => decide +kernel
  | 7 => decide +kernel
  | 8 => decide +kernel
  | n + 9 => exact (by decide +kernel : ((("j" : Str))).cps.toList.length = 1)
theorem takeS_len (s : Bool) : (takeS s).cps.toList.length ≤ 6 := by cases s <;> decide +kernel
theorem twoS_len (s : Bool) : (twoS s).cps.toList.length ≤ 6 := by cases s <;> decide +kernel
mutual
theorem shC_big {K : PySem.W.Frag} {C : Addr} {H : Hp} : ∀ (d : Dd) (v : V), DAt K C H v d → d.shC.length + 4 ≤ 12100 * d.many
  | .told a t, v, h => by
    obtain ⟨p, x, e, h1, h2, h3, h4⟩ := h
    have := Tr.codes_len t
    have := lC_len a
    rw [many_told, Dd.shC]
    simp only [List.length_append, List.length_cons, List.length_nil]
    omega
  | .take s a b, v, h => by
    have := lC_len a
    have := lC_len b
    have := takeS_len s
    rw [many_take, Dd.shC]
    simp only [List.length_append, List.length_cons, List.length_nil]
    omega
  | .two s a b c, v, h => by
    have := lC_len a
    have := lC_len b
    have := lC_len c
    have := twoS_len s
    rw [many_two, Dd.shC]
    simp only [List.length_append, List.length_cons, List.length_nil]
    omega
  | .wh a r, v, h => by
    obtain ⟨p, q, vs, e, h1, h2, h3, h4⟩ := h
    have := txC_big r vs h4
    have := lC_len a
    rw [many_wh, Dd.shC]
    simp only [List.length_append, List.length_cons, List.length_nil]
    omega
  | .iff a r o, v, h => by
    obtain ⟨p, q, vs, q2, vs2, e, h1, h2, h3, h4, h5, h6⟩ := h
    have := txC_big r vs h4
    have := txC_big o vs2 h6
    have := lC_len a
    rw [many_iff, Dd.shC]
    simp only [List.length_append, List.length_cons, List.length_nil]
    omega
theorem txC_big {K : PySem.W.Frag} {C : Addr} {H : Hp} : ∀ (r : List Dd) (vs : List V), DsAt K C H vs r → (txC r).length ≤ 12100 * manyR r
  | [], vs, h => by rw [txC]; exact Nat.zero_le _
  | d :: r, vs, h => by
    obtain ⟨v, us, e, h1, h2⟩ := h
    have := shC_big d v h1
    have := txD_big r us h2
    rw [txC_cons_len, many_cons]
    omega
theorem txD_big {K : PySem.W.Frag} {C : Addr} {H : Hp} : ∀ (r : List Dd) (vs : List V), DsAt K C H vs r → (txD r).length ≤ 12100 * manyR r
  | [], vs, h => by rw [txD]; exact Nat.zero_le _
  | d :: r, vs, h => by
    obtain ⟨v, us, e, h1, h2⟩ := h
    have := shC_big d v h1
    have := txD_big r us h2
    rw [txD, many_cons]
    simp only [List.length_append, List.length_cons, List.length_nil]
    omega
end
theorem RAt.big {K : PySem.W.Frag} {C : Addr} {H : Hp} {q : Addr} {r : List Dd} (h : RAt K C H q r) : (txC r).length ≤ 12100 * manyR r := by
  obtain ⟨vs, h1, h2⟩ := h
  exact txC_big r vs h2
def Pc.nms : Pc → List Nat
  | .nm b => [b]
  | _ => []
def nmsL (xs : List Pc) : List Nat := xs.flatMap Pc.nms
theorem nms_names : ∀ d : Dd, nmsL (.nm d.nm1 :: d.pcs) = d.names
  | .told _ _ => rfl
  | .take _ _ _ => rfl
  | .two _ _ _ _ => rfl
  | .wh _ _ => rfl
  | .iff _ _ _ => rfl
theorem nmsL_snoc (a : List Pc) (x : Pc) : nmsL (a ++ [x]) = nmsL a ++ x.nms := by simp [nmsL]
end Js

set_option Elab.async false
set_option linter.all false
set_option maxRecDepth 100000
set_option maxHeartbeats 2000000
/-! codes and texts tell one row of deeds -/
namespace Js
open PySem L2
theorem num_inj : ∀ {a b : Nat}, num a = num b → a = b
  | 0, 0, _ => rfl
  | 0, _ + 1, h => nomatch h
  | _ + 1, 0, h => nomatch h
  | a + 1, b + 1, h => by
    have e : num a = num b := by
      have h2 : Tr.pr .nil (num a) = Tr.pr .nil (num b) := h
      exact (Tr.pr.inj h2).2
    rw [num_inj e]
theorem rowT_inj : ∀ {a b : List Tr}, rowT a = rowT b → a = b
  | [], [], _ => rfl
  | [], _ :: _, h => nomatch h
  | _ :: _, [], h => nomatch h
  | x :: a, y :: b, h => by
    have h2 : Tr.pr x (rowT a) = Tr.pr y (rowT b) := h
    rw [(Tr.pr.inj h2).1, rowT_inj (Tr.pr.inj h2).2]
theorem kix_eq {d e : Dd} (h : d.code = e.code) : d.kix = e.kix ∧ d.prts = e.prts := by
  rw [code_parts d, code_parts e] at h
  have h2 := rowT_inj h
  exact ⟨num_inj (List.cons.inj h2).1, (List.cons.inj h2).2⟩
mutual
theorem code_inj : ∀ (d e : Dd), d.code = e.code → d = e
  | .told a t, e, h => by
    obtain ⟨k, p⟩ := kix_eq h
    cases e with
    | told b u =>
      simp only [Dd.prts, List.cons.injEq, and_true] at p
      rw [num_inj p.1, p.2]
    | take s b c => cases s <;> simp [Dd.kix] at k
    | two s b c d => cases s <;> simp [Dd.kix] at k
    | wh b r => simp [Dd.kix] at k
    | iff b r o => simp [Dd.kix] at k
  | .take s a b, e, h => by
    obtain ⟨k, p⟩ := kix_eq h
    cases e with
    | told b u => cases s <;> simp [Dd.kix] at k
    | take s' c d =>
      simp only [Dd.prts, List.cons.injEq, and_true] at p
      rw [num_inj p.1, num_inj p.2]
      cases s <;> cases s' <;> simp [Dd.kix] at k <;> rfl
    | two s' b c d => cases s <;> cases s' <;> simp [Dd.kix] at k
    | wh b r => cases s <;> simp [Dd.kix] at k
    | iff b r o => cases s <;> simp [Dd.kix] at k
  | .two s a b c, e, h => by
    obtain ⟨k, p⟩ := kix_eq h
    cases e with
    | told b u => cases s <;> simp [Dd.kix] at k
    | take s' c d => cases s <;> cases s' <;> simp [Dd.kix] at k
    | two s' a' b' c' =>
      simp only [Dd.prts, List.cons.injEq, and_true] at p
      rw [num_inj p.1, num_inj p.2.1, num_inj p.2.2]
      cases s <;> cases s' <;> simp [Dd.kix] at k <;> rfl
    | wh b r => cases s <;> simp [Dd.kix] at k
    | iff b r o => cases s <;> simp [Dd.kix] at k
  | .wh a r, e, h => by
    obtain ⟨k, p⟩ := kix_eq h
    cases e with
    | told b u => simp [Dd.kix] at k
    | take s' c d => cases s' <;> simp [Dd.kix] at k
    | two s' a' b' c' => cases s' <;> simp [Dd.kix] at k
    | wh b q =>
      simp only [Dd.prts, List.cons.injEq, and_true] at p
      rw [num_inj p.1, codeR_inj r q p.2]
    | iff b r o => simp [Dd.kix] at k
  | .iff a r o, e, h => by
    obtain ⟨k, p⟩ := kix_eq h
    cases e with
    | told b u => simp [Dd.kix] at k
    | take s' c d => cases s' <;> simp [Dd.kix] at k
    | two s' a' b' c' => cases s' <;> simp [Dd.kix] at k
    | wh b q => simp [Dd.kix] at k
    | iff b q u =>
      simp only [Dd.prts, List.cons.injEq, and_true] at p
      rw [num_inj p.1, codeR_inj r q p.2.1, codeR_inj o u p.2.2]
/-- codes tell one row of deeds -/
theorem codeR_inj : ∀ (r q : List Dd), codeR r = codeR q → r = q
  | [], [], _ => rfl
  | [], _ :: _, h => by rw [codeR, codeR] at h; cases h
  | _ :: _, [], h => by rw [codeR, codeR] at h; cases h
  | d :: r, e :: q, h => by
    rw [codeR, codeR] at h
    obtain ⟨h1, h2⟩ := Tr.pr.inj h
    rw [code_inj d e h1, codeR_inj r q h2]
end
/-! ### texts -/
theorem lC_eq {a : Nat} (h : a < 10) : lC a = [97 + a] := by
  match a, h with
  | 0, _ => decide +kernel
  | 1, _ => decide +kernel
  | 2, _ => decide +kernel
  | 3, _ => decide +kernel
  | 4, _ => decide +kernel
  | 5, _ => decide +kernel
  | 6, _ => decide +kernel
  | 7, _ => decide +kernel
  | 8, _ => decide +kernel
  | 9, _ => decide +kernel
  | n + 10, h => exact absurd h (by omega)
theorem tk_f : (takeS false).cps.toList = [102, 105, 114, 115, 116] := by decide +kernel
theorem tk_t : (takeS true).cps.toList = [115, 101, 99, 111, 110, 100] := by decide +kernel
theorem tw_f : (twoS false).cps.toList = [112, 97, 105, 114] := by decide +kernel
theorem tw_t : (twoS true).cps.toList = [115, 97, 109, 101] := by decide +kernel
theorem codes_hd : ∀ t : Tr, ∃ c cs, t.codes = c :: cs ∧ (c = 46 ∨ c = 40)
  | .nil => ⟨46, [], rfl, .inl rfl⟩
  | .pr l r => ⟨40, _, rfl, .inr rfl⟩
/-- what may stand behind a row: nothing, or a bracket that shuts it -/
def shut : List Nat → Prop
  | [] => True
  | c :: _ => c = 93
theorem txC_hd (d : Dd) (r : List Dd) (X : List Nat) (h : d.ok) : ∃ c cs, txC (d :: r) ++ X = c :: cs ∧ 97 ≤ c := by
  rw [txC]
  cases d with
  | told a t => rw [Dd.shC, lC_eq h.1]; exact ⟨_, _, rfl, by omega⟩
  | take s a b => rw [Dd.shC, lC_eq h.1]; exact ⟨_, _, rfl, by omega⟩
  | two s a b c => rw [Dd.shC, lC_eq h.1]; exact ⟨_, _, rfl, by omega⟩
  | wh a r => rw [Dd.shC]; exact ⟨_, _, rfl, by omega⟩
  | iff a r o => rw [Dd.shC]; exact ⟨_, _, rfl, by omega⟩
theorem add97 {a b : Nat} (h : 97 + a = 97 + b) : a = b := by omega
mutual
theorem sh_pre : ∀ (d e : Dd) (X Y : List Nat), d.ok → e.ok → d.shC ++ (32 :: X) = e.shC ++ (32 :: Y) → d = e ∧ X = Y
  | .told a t, e, X, Y, hd, he, h => by
    obtain ⟨c, cs, e1, e2⟩ := codes_hd t
    cases e with
    | told b u =>
      simp only [Dd.shC, lC_eq hd.1, lC_eq he.1, List.cons_append, List.nil_append, List.append_assoc, List.cons.injEq, true_and] at h
      obtain ⟨h1, h2⟩ := Tr.codes_pre t u _ _ h.2
      rw [add97 h.1, h1]
      exact ⟨rfl, (List.cons.inj h2).2⟩
    | take s b k =>
      cases s <;> simp only [Dd.shC, lC_eq hd.1, lC_eq he.1, tk_f, tk_t, e1, List.cons_append, List.nil_append, List.append_assoc, List.cons.injEq, true_and] at h <;> omega
    | two s b k l =>
      cases s <;> simp only [Dd.shC, lC_eq hd.1, lC_eq he.1, tw_f, tw_t, e1, List.cons_append, List.nil_append, List.append_assoc, List.cons.injEq, true_and] at h <;> omega
    | wh b r =>
      simp only [Dd.shC, lC_eq hd.1, List.cons_append, List.nil_append, List.append_assoc, List.cons.injEq, true_and] at h
      omega
    | iff b r o =>
      simp only [Dd.shC, lC_eq hd.1, List.cons_append, List.nil_append, List.append_assoc, List.cons.injEq, true_and] at h
      omega
  | .take s a b, e, X, Y, hd, he, h => by
    cases e with
    | told b' u =>
      obtain ⟨c, cs, e1, e2⟩ := codes_hd u
      cases s <;> simp only [Dd.shC, lC_eq hd.1, lC_eq he.1, tk_f, tk_t, e1, List.cons_append, List.nil_append, List.append_assoc, List.cons.injEq, true_and] at h <;> omega
    | take s' a' b' =>
      cases s <;> cases s' <;> simp only [Dd.shC, lC_eq hd.1, lC_eq he.1, lC_eq hd.2, lC_eq he.2, tk_f, tk_t, List.cons_append, List.nil_append, List.append_assoc, List.cons.injEq, true_and] at h
      · rw [add97 h.1, add97 h.2.1]; exact ⟨rfl, h.2.2⟩
      · omega
      · omega
      · rw [add97 h.1, add97 h.2.1]; exact ⟨rfl, h.2.2⟩
    | two s' a' b' c' =>
      cases s <;> cases s' <;> simp only [Dd.shC, lC_eq hd.1, lC_eq he.1, lC_eq hd.2, lC_eq he.2.1, lC_eq he.2.2, tk_f, tk_t, tw_f, tw_t, List.cons_append, List.nil_append, List.append_assoc, List.cons.injEq, true_and] at h <;> omega
    | wh b' r =>
      simp only [Dd.shC, lC_eq hd.1, List.cons_append, List.nil_append, List.append_assoc, List.cons.injEq, true_and] at h
      omega
    | iff b' r o =>
      simp only [Dd.shC, lC_eq hd.1, List.cons_append, List.nil_append, List.append_assoc, List.cons.injEq, true_and] at h
      omega
  | .two s a b c, e, X, Y, hd, he, h => by
    cases e with
    | told b' u =>
      obtain ⟨c', cs, e1, e2⟩ := codes_hd u
      cases s <;> simp only [Dd.shC, lC_eq hd.1, lC_eq he.1, tw_f, tw_t, e1, List.cons_append, List.nil_append, List.append_assoc, List.cons.injEq, true_and] at h <;> omega
    | take s' a' b' =>
      cases s <;> cases s' <;> simp only [Dd.shC, lC_eq hd.1, lC_eq he.1, lC_eq hd.2.1, lC_eq hd.2.2, lC_eq he.2, tk_f, tk_t, tw_f, tw_t, List.cons_append, List.nil_append, List.append_assoc, List.cons.injEq, true_and] at h <;> omega
    | two s' a' b' c' =>
      cases s <;> cases s' <;> simp only [Dd.shC, lC_eq hd.1, lC_eq he.1, lC_eq hd.2.1, lC_eq hd.2.2, lC_eq he.2.1, lC_eq he.2.2, tw_f, tw_t, List.cons_append, List.nil_append, List.append_assoc, List.cons.injEq, true_and] at h
      · rw [add97 h.1, add97 h.2.1, add97 h.2.2.1]; exact ⟨rfl, h.2.2.2⟩
      · omega
      · omega
      · rw [add97 h.1, add97 h.2.1, add97 h.2.2.1]; exact ⟨rfl, h.2.2.2⟩
    | wh b' r =>
      simp only [Dd.shC, lC_eq hd.1, List.cons_append, List.nil_append, List.append_assoc, List.cons.injEq, true_and] at h
      omega
    | iff b' r o =>
      simp only [Dd.shC, lC_eq hd.1, List.cons_append, List.nil_append, List.append_assoc, List.cons.injEq, true_and] at h
      omega
  | .wh a r, e, X, Y, hd, he, h => by
    cases e with
    | told b' u =>
      simp only [Dd.shC, lC_eq he.1, List.cons_append, List.nil_append, List.append_assoc, List.cons.injEq, true_and] at h
      omega
    | take s' a' b' =>
      simp only [Dd.shC, lC_eq he.1, List.cons_append, List.nil_append, List.append_assoc, List.cons.injEq, true_and] at h
      omega
    | two s' a' b' c' =>
      simp only [Dd.shC, lC_eq he.1, List.cons_append, List.nil_append, List.append_assoc, List.cons.injEq, true_and] at h
      omega
    | wh b q =>
      simp only [Dd.shC, lC_eq hd.1, lC_eq he.1, List.cons_append, List.nil_append, List.append_assoc, List.cons.injEq, true_and] at h
      obtain ⟨h1, h2⟩ := tx_pre r q (93 :: 32 :: X) (93 :: 32 :: Y) hd.2 he.2 rfl rfl h.2
      rw [add97 h.1, h1]
      simp only [List.cons.injEq, true_and] at h2
      exact ⟨rfl, h2⟩
    | iff b q o =>
      simp only [Dd.shC, List.cons_append, List.nil_append, List.append_assoc, List.cons.injEq, true_and] at h
      omega
  | .iff a r o, e, X, Y, hd, he, h => by
    cases e with
    | told b' u =>
      simp only [Dd.shC, lC_eq he.1, List.cons_append, List.nil_append, List.append_assoc, List.cons.injEq, true_and] at h
      omega
    | take s' a' b' =>
      simp only [Dd.shC, lC_eq he.1, List.cons_append, List.nil_append, List.append_assoc, List.cons.injEq, true_and] at h
      omega
    | two s' a' b' c' =>
      simp only [Dd.shC, lC_eq he.1, List.cons_append, List.nil_append, List.append_assoc, List.cons.injEq, true_and] at h
      omega
    | wh b q =>
      simp only [Dd.shC, List.cons_append, List.nil_append, List.append_assoc, List.cons.injEq, true_and] at h
      omega
    | iff b q u =>
      simp only [Dd.shC, lC_eq hd.1, lC_eq he.1, List.cons_append, List.nil_append, List.append_assoc, List.cons.injEq, true_and] at h
      obtain ⟨h1, h2⟩ := tx_pre r q (93 :: 32 :: 91 :: 32 :: (txC o ++ (93 :: 32 :: X))) (93 :: 32 :: 91 :: 32 :: (txC u ++ (93 :: 32 :: Y))) hd.2.1 he.2.1 rfl rfl h.2
      simp only [List.cons.injEq, true_and] at h2
      obtain ⟨h3, h4⟩ := tx_pre o u (93 :: 32 :: X) (93 :: 32 :: Y) hd.2.2 he.2.2 rfl rfl h2
      rw [add97 h.1, h1, h3]
      simp only [List.cons.injEq, true_and] at h4
      exact ⟨rfl, h4⟩
/-- rows are read in one way -/
theorem tx_pre : ∀ (r q : List Dd) (X Y : List Nat), okR r → okR q → shut X → shut Y → txC r ++ X = txC q ++ Y → r = q ∧ X = Y
  | [], [], X, Y, _, _, _, _, h => by
    rw [txC] at h
    exact ⟨rfl, h⟩
  | [], e :: q, X, Y, _, hq, hX, _, h => by
    obtain ⟨c, cs, e1, e2⟩ := txC_hd e q Y hq.1
    rw [e1, txC, List.nil_append] at h
    rw [h] at hX
    have : c = 93 := hX
    omega
  | d :: r, [], X, Y, hr, _, _, hY, h => by
    obtain ⟨c, cs, e1, e2⟩ := txC_hd d r X hr.1
    rw [e1, txC, List.nil_append] at h
    rw [← h] at hY
    have : c = 93 := hY
    omega
  | d :: r, e :: q, X, Y, hr, hq, hX, hY, h => by
    rw [txC, txC] at h
    simp only [List.append_assoc, List.cons_append, List.nil_append] at h
    obtain ⟨h1, h2⟩ := sh_pre d e _ _ hr.1 hq.1 h
    obtain ⟨h3, h4⟩ := td_pre r q X Y hr.2 hq.2 hX hY h2
    rw [h1, h3]
    exact ⟨rfl, h4⟩
theorem td_pre : ∀ (r q : List Dd) (X Y : List Nat), okR r → okR q → shut X → shut Y → txD r ++ X = txD q ++ Y → r = q ∧ X = Y
  | [], [], X, Y, _, _, _, _, h => by
    rw [txD] at h
    exact ⟨rfl, h⟩
  | [], e :: q, X, Y, _, _, hX, _, h => by
    rw [txD, txD] at h
    simp only [List.append_assoc, List.cons_append, List.nil_append] at h
    rw [h] at hX
    have : 59 = 93 := hX
    omega
  | d :: r, [], X, Y, _, _, _, hY, h => by
    rw [txD, txD] at h
    simp only [List.append_assoc, List.cons_append, List.nil_append] at h
    rw [← h] at hY
    have : 59 = 93 := hY
    omega
  | d :: r, e :: q, X, Y, hr, hq, hX, hY, h => by
    rw [txD, txD] at h
    simp only [List.append_assoc, List.cons_append, List.nil_append, List.cons.injEq, true_and] at h
    obtain ⟨h1, h2⟩ := sh_pre d e _ _ hr.1 hq.1 h
    obtain ⟨h3, h4⟩ := td_pre r q X Y hr.2 hq.2 hX hY h2
    rw [h1, h3]
    exact ⟨rfl, h4⟩
end
/-- texts tell one row of deeds -/
theorem textR_inj {r q : List Dd} (hr : okR r) (hq : okR q) (h : textR r = textR q) : r = q := by
  have e : ∀ (d : Dd) (u : List Dd), (txC (d :: u)).dropLast ≠ [] := by
    intro d u z
    have h1 := congrArg List.length z
    rw [List.length_dropLast, txC_cons_len] at h1
    have := shC_pos d
    simp only [List.length_nil] at h1
    omega
  rw [textR_tx, textR_tx] at h
  have h2 := tx_inj h
  cases r with
  | nil =>
    cases q with
    | nil => rfl
    | cons d u => rw [txC] at h2; exact absurd h2.symm (e d u)
  | cons d u =>
    cases q with
    | nil => rw [txC_len0] at h2; exact absurd h2 (e d u)
    | cons d' u' =>
      have h3 := textR_sp (d :: u) (by simp)
      have h4 := textR_sp (d' :: u') (by simp)
      rw [textR_tx, tx_list] at h3 h4
      have h5 : txC (d :: u) = txC (d' :: u') := by rw [← h3, ← h4, h2]
      exact (tx_pre _ _ [] [] hr hq trivial trivial (by rw [h5])).1
end Js

set_option Elab.async false
set_option linter.all false
set_option maxRecDepth 100000
set_option maxHeartbeats 2000000
namespace Js
open PySem L2
open PySem.Spec PyProof.Rows
abbrev sRdP : Stmt := top 57
theorem rows_split : ∀ (rs : List (List Dd)) (i : Nat) (r : List Dd), rs[i]? = some r → wordsL rs = wordsL (rs.take i) ++ (("[" : Str) :: (wordsR r ++ (("]" : Str) :: wordsL (rs.drop (i + 1))))) ∧ wordsL (rs.take (i + 1)) = wordsL (rs.take i) ++ (("[" : Str) :: (wordsR r ++ [("]" : Str)])) ∧ manyL (rs.take (i + 1)) = manyL (rs.take i) + manyR r
  | [], i, r, h => by rw [List.getElem?_nil] at h; cases h
  | x :: rs, 0, r, h => by
    cases Option.some.inj h
    refine ⟨?_, ?_, ?_⟩
    · simp [wordsL]
    · simp [wordsL]
    · simp [manyL]
  | x :: rs, i + 1, r, h => by
    obtain ⟨h1, h2, h3⟩ := rows_split rs i r h
    have e : ∀ ys : List (List Dd), wordsL (x :: ys) = (("[" : Str) :: (wordsR x ++ [("]" : Str)])) ++ wordsL ys := fun ys => by simp [wordsL]
    refine ⟨?_, ?_, ?_⟩
    · rw [List.take_succ_cons, List.drop_succ_cons, e, e, h1, List.append_assoc]
    · rw [List.take_succ_cons, List.take_succ_cons, e, e, h2, List.append_assoc]
    · rw [List.take_succ_cons, List.take_succ_cons, manyL, manyL, h3]
      omega
theorem ok_rows (d : Dd) (h : d.ok) : ∀ r ∈ d.rows, okR r := by
  cases d with
  | wh a r =>
    intro x hx
    rw [Dd.rows, List.mem_singleton] at hx
    rw [hx]
    exact h.2
  | iff a r o =>
    intro x hx
    simp only [Dd.rows, List.mem_cons, List.not_mem_nil, or_false] at hx
    rcases hx with rfl | rfl
    · exact h.2.1
    · exact h.2.2
  | _ => intro x hx; cases hx
theorem ok_nm1 (d : Dd) (h : d.ok) : d.nm1 < 10 := by
  cases d <;> exact h.1
def RwP (K : PySem.W.Frag) (C : Addr) (H : Hp) (v : V) (r : List Dd) : Prop := ∃ q, v = .ref q ∧ RAt K C H q r
theorem rwps_same {K : PySem.W.Frag} {C : Addr} {H H' : Hp} (s : Same H H') : ∀ {us : List V} {rs : List (List Dd)}, Paired (RwP K C H) us rs → Paired (RwP K C H') us rs
  | _, _, .nil => .nil
  | _, _, .cons ⟨q, e, h⟩ t => .cons ⟨q, e, h.same s⟩ (rwps_same s t)
theorem rwps_kt {K : PySem.W.Frag} {C : Addr} {H H' : Hp} (s : KT H H') : ∀ {us : List V} {rs : List (List Dd)}, Paired (RwP K C H) us rs → Paired (RwP K C H') us rs
  | _, _, .nil => .nil
  | _, _, .cons ⟨q, e, h⟩ t => .cons ⟨q, e, h.kt s⟩ (rwps_kt s t)
theorem form_look (d : Dd) (h : d.rows ≠ []) : (cutS (formOf d) (some 1) none).cps.size = d.rows.length ∧ (formOf d).length ≤ 3 := by
  cases d with
  | wh a r =>
    show (cutS ("nr" : Str) (some 1) none).cps.size = 1 ∧ ("nr" : Str).length ≤ 3
    exact ⟨by decide +kernel, by decide +kernel⟩
  | iff a r o =>
    show (cutS ("nrr" : Str) (some 1) none).cps.size = 2 ∧ ("nrr" : Str).length ≤ 3
    exact ⟨by decide +kernel, by decide +kernel⟩
  | _ => exact absurd rfl h
theorem look_at {K : PySem.W.Frag} {C : Addr} {H : Hp} (d : Dd) (hr : d.rows ≠ []) (h : d.ok) {us : List V} (hu : Paired (RwP K C H) us d.rows) {p : Addr} (hp : SqT K H p (.str (kindOf d) :: .int ((d.nm1 : Nat) : Int) :: us)) : DAt K C H (.ref p) d := by
  cases d with
  | wh a r =>
    cases hu with
    | cons h1 t =>
      cases t
      obtain ⟨q, rfl, vs, h2, h3⟩ := h1
      exact ⟨p, q, vs, rfl, hp, h.1, h2, h3⟩
  | iff a r o =>
    cases hu with
    | cons h1 t =>
      cases t with
      | cons h4 t =>
        cases t
        obtain ⟨q, rfl, vs, h2, h3⟩ := h1
        obtain ⟨q2, rfl, vs2, h5, h6⟩ := h4
        exact ⟨p, q, vs, q2, vs2, rfl, hp, h.1, h2, h3, h5, h6⟩
  | _ => exact absurd rfl hr
/-! ### no blank in a word -/
theorem let_nb (a : Nat) : 32 ∉ (letS a).cps.toList := by
  match a with
  | 0 => decide +kernel
  | 1 => decide +kernel
  | 2 => decide +kernel
  | 3 => decide +kernel
  | 4 => decide +kernel
  | 5 => decide +kernel
  | 6 => decide +kernel
  | 7 => decide +kernel
  | 8 => decide +kernel
  | n + 9 => exact (by decide +kernel : 32 ∉ (("j" : Str)).cps.toList)
theorem text_nb (t : Tr) : 32 ∉ t.text.cps.toList := by
  rw [Tr.text_list]
  intro h
  rcases codes_sign t 32 h with e | e | e <;> cases e
mutual
theorem words_nb : ∀ (d : Dd), ∀ x ∈ d.words, 32 ∉ x.cps.toList
  | .told a t, x, h => by
    simp only [Dd.words, List.mem_cons, List.not_mem_nil, or_false] at h
    rcases h with rfl | rfl | rfl
    · exact let_nb a
    · decide +kernel
    · exact text_nb t
  | .take s a b, x, h => by
    simp only [Dd.words, List.mem_cons, List.not_mem_nil, or_false] at h
    rcases h with rfl | rfl | rfl | rfl
    · exact let_nb a
    · decide +kernel
    · cases s <;> decide +kernel
    · exact let_nb b
  | .two s a b c, x, h => by
    simp only [Dd.words, List.mem_cons, List.not_mem_nil, or_false] at h
    rcases h with rfl | rfl | rfl | rfl | rfl
    · exact let_nb a
    · decide +kernel
    · cases s <;> decide +kernel
    · exact let_nb b
    · exact let_nb c
  | .wh a r, x, h => by
    have ih := wordsT_nb r
    simp only [Dd.words, List.mem_cons, List.mem_append, List.not_mem_nil, or_false] at h
    rcases h with (rfl | rfl) | rfl | h | rfl
    · decide +kernel
    · exact let_nb a
    · decide +kernel
    · exact ih x (List.mem_of_mem_drop h)
    · decide +kernel
  | .iff a r o, x, h => by
    have ih := wordsT_nb r
    have ih2 := wordsT_nb o
    simp only [Dd.words, List.mem_cons, List.mem_append, List.not_mem_nil, or_false] at h
    rcases h with ((rfl | rfl) | rfl | h | rfl) | rfl | h | rfl
    · decide +kernel
    · exact let_nb a
    · decide +kernel
    · exact ih x (List.mem_of_mem_drop h)
    · decide +kernel
    · decide +kernel
    · exact ih2 x (List.mem_of_mem_drop h)
    · decide +kernel
theorem wordsT_nb : ∀ (r : List Dd), ∀ x ∈ wordsT r, 32 ∉ x.cps.toList
  | [], x, h => by rw [wordsT] at h; cases h
  | d :: r, x, h => by
    rw [wordsT, List.mem_cons, List.mem_append] at h
    rcases h with rfl | h | h
    · decide +kernel
    · exact words_nb d x h
    · exact wordsT_nb r x h
end
theorem split_textR (r : List Dd) (h : r ≠ []) : PySem.Txt.split (textR r) (" " : Str) = wordsR r :=
  TL.split_join (s := 32) (S := []) (by decide +kernel) (by decide +kernel) (wordsR_ne r h) fun p hp => wordsT_nb r p (List.mem_of_mem_drop hp)
theorem wordsR_cons (d : Dd) (r : List Dd) : wordsR (d :: r) = d.words ++ wordsT r := rfl
theorem okR_get : ∀ (r : List Dd) (i : Nat) (d : Dd), okR r → r[i]? = some d → d.ok
  | [], i, d, _, h => by rw [List.getElem?_nil] at h; cases h
  | x :: r, 0, d, o, h => by cases Option.some.inj h; exact o.1
  | x :: r, i + 1, d, o, h => okR_get r i d o.2 h
def spRdP (K : PySem.W.Frag) (C CP : Addr) : Sp := fun vs H Q _ => ∃ r, vs = [.str (textR r)] ∧ okR r ∧ deepR r ≤ 8 ∧ manyR r ≤ 4000 ∧ (textR r).length + 2 ≤ 16777216 ∧ ∀ z H', Same H H' → H z = none → PgAt K C CP H' z r → Q (.ref z) H'
section
variable {P : Program} {w : World} {K : PySem.W.Frag} {mg : Str → Option Value} {base : Heap} {C CP CD fI fP fDI : Addr} {fdI fdP fdDI : FuncData}
theorem scRp2 : FnScope ["text", "reader", "deeds"] ["text"] (defScope sRdP) := ⟨rfl, rfl, rfl, by decide +kernel, rfl, by decide +kernel, by decide +kernel⟩
theorem ok_rdL {f fR : Addr} {fd fdR : FuncData} {n : Nat} (F : Fun K "read_look" "read_look" sRdL f fd) (R : RdC K mg) (G : FrmC K w mg) (DT : Def P w K mg base "take" 2 ["reader", "right"] (spTk2 K CD)) (DN : Def P w K mg base "read_name" 3 ["reader"] (spRdN CD))
    (GR : FnOk P w K mg base CX0 (3 * n + 7) fR fdR ["reader", "floors"] (spRdR K C CD n)) (mgr : mg "read_row" = some (.ref fR)) (kr : PySem.W.keepIn K (.ref fR) = true) (br : Binds K fdR ["reader", "floors"] []) : FnOk P w K mg base CX0 (3 * (n + 1) + 5) f fd ["reader", "kind", "floors"] (spRdL K C CD (n + 1)) := by
  obtain ⟨dF, es, nF, mF, kd, hk⟩ := G.ex
  refine F.ok scLo2 (fun vs H Q E h => ?_) (fun cdv A outer s H vs Q E hr h => ?_)
  · obtain ⟨rd, wl, ws, a, b, fl, d, post, rfl, _⟩ := h
    rfl
  · obtain ⟨rd, wl, ws, a, b, fl, d, post, rfl, hrd, hrw, hok, hdp, hfl, hmn, hws, k⟩ := h
    have hr2 : Room 2 _ := hr.mono (by omega)
    have hr3 : Room 3 _ := hr.mono (by omega)
    refine ⟨_, pss_cons (ps_set (i := 3) scLo2.nd rfl (Or.inl rfl) (pe_def DN hr3 rfl (pa_cons (pv 0) pa_nil))) (pss_cons (ps_set (i := 4) scLo2.nd rfl (Or.inl rfl) (pe_lst pa_nil)) (pss_cons (ps_for PassesOwn.never rfl (pi_str (pe_slice sl_str (pe_ix (r := rIxD K w) ix_kdict (pe_glob (v := .ref dF) rfl mF rfl) (pv 1) (fun _ _ => rfl)) (po_some pe_int) po_none)) (pg_name (i := 5) scLo2.nd rfl (Or.inl rfl)) (pss_cons (ps_expr (pe_def DT hr2 rfl (pa_cons (pv 0) (pa_cons (pe_tup (pa_cons pe_str pa_nil)) pa_nil)))) (pss_cons (ps_expr (pe_bm PySem.F.plainAttrs_list PySem.F.slot_list_append PySem.F.type_list_append mt_append (pv 4) (pa_cons (pe_call GR hr rfl mgr kr br .nil pass0 (pa_cons (pv 0) (pa_cons (pe_op op_add (pv 2) pe_int) pa_nil))) pa_nil))) (pss_one (ps_expr (pe_def DT hr2 rfl (pa_cons (pv 0) (pa_cons (pe_tup (pa_cons pe_str pa_nil)) pa_nil)))))))) (pss_one (ps_ret (pe_tup (pa_cons (pv 1) (pa_cons (pv 3) (StX.pa_star (pv 4) pa_nil)))))))), ?_⟩
    have hsl := sizeLine_eq
    have hdr := deep_rows d hrw
    obtain ⟨hcut, hfm⟩ := form_look d hrw
    have hw1 := dr_one hws
    have hrl : d.rows.length ≤ 2 := by cases d <;> simp [Dd.rows]
    refine ⟨_, rfl, rd, wl, ws, a, b, d.nm1, rfl, hrd, ok_nm1 d hok, dr_at hws, fun H1 kb1 hrd1 => ?_⟩
    refine ⟨Nat.zero_le _, fun L nL => ?_⟩
    have sL := Same.new nL (o := .lst [])
    have eL : (upd H1 L (.lst [])) L = some (.lst []) := upd_same
    have hLw : wl ≠ L := fun z => by
      obtain ⟨_, q2, _⟩ := hrd1
      rw [z, nL] at q2
      cases q2
    have hLr : L ≠ rd := fun z => by
      obtain ⟨⟨dx, q1⟩, _⟩ := hrd1
      rw [z, q1] at nL
      cases nL
    have nLH : ∀ o, H L = some o → False := fun o ho => by
      have := kb1 _ _ hLr ho
      rw [nL] at this
      cases this
    revert sL eL
    generalize upd H1 L (.lst []) = H2
    intro sL eL
    obtain ⟨tkf, hkf⟩ := hk _ (form_in d)
    refine ⟨_, rfl, dF, _, .str (formOf d), rfl, rfl, ⟨es, nF, _, kd.at_, kd.lit, hkf, ⟨_, rfl⟩⟩, _, rfl, formOf d, rfl, by omega, _, rfl, for_it walk_str (fun i σ H' => ∃ (x5 : Option V) (us : List V), σ = [some (.ref rd), some (.str (kindOf d)), some (.int ((fl : Nat) : Int)), some (.int ((d.nm1 : Nat) : Int)), some (.ref L), x5] ∧ KB rd H H' ∧ H' L = some (.lst us) ∧ Paired (RwP K C (del H' rd)) us (d.rows.take i) ∧ RdAt CD H' rd wl ws (a + 1 + (wordsL (d.rows.take i)).length) (b + manyL (d.rows.take i))) ⟨none, [], rfl, kb1.trans (KB.of sL), eL, by rw [List.take_zero]; exact .nil, by rw [List.take_zero]; exact hrd1.same sL⟩ (fun _ _ _ _ _ => trivial) ?_ ?_⟩
    · rintro i y σ Hx H3 hi ⟨x5, us, rfl, kb3, hL3, hus, hrd3⟩ ⟨rfl, cc, hcc, rfl⟩
      rw [hcut] at hi
      obtain ⟨r, hrr⟩ : ∃ r, d.rows[i]? = some r := ⟨_, List.getElem?_eq_getElem hi⟩
      have hmem := List.mem_of_getElem? hrr
      have hdl := deepL_mem d.rows r hmem
      have hml := manyL_take d.rows i r hrr
      obtain ⟨e1, e2, e3⟩ := rows_split d.rows i r hrr
      have hokr := ok_rows d hok r hmem
      have hul := Paired.length hus
      rw [List.length_take] at hul
      obtain ⟨at0, hat0⟩ : ∃ at0, a + 1 + (wordsL (d.rows.take i)).length = at0 := ⟨_, rfl⟩
      obtain ⟨bg0, hbg0⟩ : ∃ bg0, b + manyL (d.rows.take i) = bg0 := ⟨_, rfl⟩
      rw [hat0, hbg0] at hrd3
      have hwa : ws.drop at0 = ("[" : Str) :: (wordsR r ++ (("]" : Str) :: (wordsL (d.rows.drop (i + 1)) ++ post))) := by
        rw [← hat0]
        rw [e1, List.append_assoc] at hw1
        have := dr_on hw1
        rw [this]
        simp
      dsimp only [gName]
      refine ⟨_, rfl, by show 1 ≤ sizeLine; decide, fun T1 nT1 => ?_⟩
      have s5 := Same.new nT1 (o := .tup [V.str "["])
      have e5 : (upd H3 T1 (.tup [V.str "["])) T1 = some (.tup [V.str "["]) := upd_same
      revert s5 e5
      generalize upd H3 T1 (.tup [V.str "["]) = H5
      intro s5 e5
      refine ⟨rd, wl, ws, at0, bg0, T1, [("[" : Str)], ("[" : Str), rfl, hrd3.same s5, .inr (SqT.of e5), dr_at hwa, List.mem_singleton.mpr rfl, fun H6 kb6 hrd6 => ?_⟩
      have kb36 := (KB.of s5).trans kb6
      have hwb := dr_one hwa
      have hL6 := kb36 _ _ hLr hL3
      refine ⟨_, rfl, .inl ⟨rfl, _, SqL.of hL6⟩, ?_⟩
      refine ⟨_, rfl, _, rfl, _, _, rfl, rfl, rd, wl, ws, at0 + 1, bg0, fl + 1, r, _, congrArg (fun z => [V.ref rd, V.int z]) (show ((fl : Nat) : Int) + 1 = ((fl + 1 : Nat) : Int) by omega), hrd6, hokr, by omega, by omega, by omega, hwb, .inr ⟨_, rfl⟩, fun q H7 kb7 hrd7 hq => ?_⟩
      have kb37 := kb36.trans kb7
      have hL7 := kb7 _ _ hLr hL6
      refine ⟨L, _, _, rfl, rfl, hL7, by omega, ?_⟩
      have hL8 : (upd H7 L (.lst (us ++ [V.ref q]))) L = some (.lst (us ++ [V.ref q])) := upd_same
      have hrd8 : RdAt CD (upd H7 L (.lst (us ++ [V.ref q]))) rd wl ws (at0 + 1 + (wordsR r).length) (bg0 + manyR r) := by
        obtain ⟨⟨dx, q1⟩, q2, q3⟩ := hrd7
        exact ⟨⟨dx, by rw [upd_ne hLr.symm]; exact q1⟩, by rw [upd_ne hLw]; exact q2, q3⟩
      have kt8 : KT (del H7 rd) (del (upd H7 L (.lst (us ++ [V.ref q]))) rd) := fun x o hx hno => by
        by_cases ex : x = rd
        · rw [ex, del, if_pos rfl] at hx
          cases hx
        · rw [del_ne ex] at hx ⊢
          rw [upd_ne (fun z => by rw [z, hL7] at hx; cases hx; exact hno _ rfl)]
          exact hx
      have kb08 : KB rd H (upd H7 L (.lst (us ++ [V.ref q]))) := fun x o hx ho => by
        rw [upd_ne (fun z => by rw [z] at ho; exact nLH _ ho)]
        exact kb37 _ _ hx (kb3 _ _ hx ho)
      have hus8 : Paired (RwP K C (del (upd H7 L (.lst (us ++ [V.ref q]))) rd)) (us ++ [V.ref q]) (d.rows.take (i + 1)) := by
        have e9 : d.rows.take (i + 1) = d.rows.take i ++ [r] := by
          rw [List.take_succ_eq_append_getElem hi, (List.getElem?_eq_some_iff.mp hrr).2]
        rw [e9]
        refine paired_app (rwps_kt kt8 (rwps_same (kb_del kb37) hus)) (.cons ⟨q, rfl, hq.kt kt8⟩ .nil)
      revert hL8 hrd8 kb08 hus8
      generalize upd H7 L (.lst (us ++ [V.ref q])) = H8
      intro hL8 hrd8 kb08 hus8
      have hwc := dr_on hwb
      refine ⟨_, rfl, by show 1 ≤ sizeLine; decide, fun T2 nT2 => ?_⟩
      have s9 := Same.new nT2 (o := .tup [V.str "]"])
      have e9 : (upd H8 T2 (.tup [V.str "]"])) T2 = some (.tup [V.str "]"]) := upd_same
      revert s9 e9
      generalize upd H8 T2 (.tup [V.str "]"]) = H9
      intro s9 e9
      refine ⟨rd, wl, ws, at0 + 1 + (wordsR r).length, bg0 + manyR r, T2, [("]" : Str)], ("]" : Str), rfl, hrd8.same s9, .inr (SqT.of e9), dr_at hwc, List.mem_singleton.mpr rfl, fun H10 kb10 hrd10 => ?_⟩
      have kb810 := (KB.of s9).trans kb10
      refine ⟨_, us ++ [V.ref q], rfl, kb08.trans kb810, kb810 _ _ hLr hL8, rwps_same (kb_del kb810) hus8, ?_⟩
      have ea : a + 1 + (wordsL (d.rows.take (i + 1))).length = at0 + 1 + (wordsR r).length + 1 := by
        rw [e2, List.length_append, List.length_cons, List.length_append, List.length_singleton]
        omega
      have eb : b + manyL (d.rows.take (i + 1)) = bg0 + manyR r := by
        rw [e3]
        omega
      rw [ea, eb]
      exact hrd10
    · rintro σ H3 ⟨x5, us, rfl, kb3, hL3, hus, hrd3⟩
      rw [hcut, List.take_length] at hus hrd3
      have hul := Paired.length hus
      refine ⟨_, rfl, _, rfl, _, rfl, L, _, rfl, .inr (SqL.of hL3), by rw [List.append_nil, List.length_cons, List.length_cons]; omega, fun T2 nT2 => ?_⟩
      rw [List.append_nil]
      have s10 := Same.new nT2 (o := .tup (V.str (kindOf d) :: V.int ((d.nm1 : Nat) : Int) :: us))
      have e10 : (upd H3 T2 (.tup (V.str (kindOf d) :: V.int ((d.nm1 : Nat) : Int) :: us))) T2 = some (.tup (V.str (kindOf d) :: V.int ((d.nm1 : Nat) : Int) :: us)) := upd_same
      revert s10 e10
      generalize upd H3 T2 (.tup (V.str (kindOf d) :: V.int ((d.nm1 : Nat) : Int) :: us)) = H10
      intro s10 e10
      have hrd10 := hrd3.same s10
      exact k (.ref T2) H10 (kb3.trans (KB.of s10)) hrd10 (look_at d hrw hok (rwps_same (kb_del (KB.of s10)) hus) (SqT.of (del_at e10 (rd_ne hrd10 e10))))
end
end Js

set_option Elab.async false
set_option linter.all false
set_option maxRecDepth 100000
set_option maxHeartbeats 2000000
namespace Js
open PySem L2
open PySem.Spec PyProof.Rows
theorem DsAt_sn {K : PySem.W.Frag} {C : Addr} {H : Hp} {v : V} {d : Dd} (hd : DAt K C H v d) : ∀ (r : List Dd) (vs : List V), DsAt K C H vs r → DsAt K C H (vs ++ [v]) (r ++ [d])
  | [], vs, h => by
    have e : vs = [] := h
    subst e
    exact ⟨v, [], rfl, hd, rfl⟩
  | x :: r, vs, h => by
    obtain ⟨u, us, rfl, h1, h2⟩ := h
    exact ⟨u, us ++ [v], rfl, h1, DsAt_sn hd r us h2⟩
theorem inV_non (xs : List Str) : inV .non (strV xs) = false := by
  unfold inV strV
  rw [List.any_map, List.any_eq_false]
  intro y _
  simp [eqV]
theorem aft_fw {ws : List Str} {a : Nat} {post : List Str} (h : ws.drop a = post) (hp : Aft post) (fl : Nat) : flatV (wdV ws a) = true ∧ inV (wdV ws a) (strV (fwS fl)) = false ∧ decide (wdV ws a = V.str (";" : Str)) = false ∧ scal (wdV ws a) (V.str (";" : Str)) = true := by
  rcases hp with rfl | ⟨p, rfl⟩
  · rw [wdV_none (dr_none h)]
    exact ⟨rfl, inV_non _, decide_eq_false (fun z => nomatch z), rfl⟩
  · rw [wdV_some (dr_at h)]
    refine ⟨rfl, ?_, by decide +kernel, rfl⟩
    rw [inV_strV]
    exact decide_eq_false (fw_cl fl)
theorem len_le_many : ∀ r : List Dd, r.length ≤ manyR r
  | [] => Nat.zero_le _
  | d :: r => by
    have h1 := len_le_many r
    have h2 := many_pos d
    rw [many_cons, List.length_cons]
    omega
theorem many_dr (r : List Dd) (i : Nat) (e : Dd) (h : r[i]? = some e) : wordsT r = wordsT (r.take i) ++ (((";" : Str)) :: (e.words ++ wordsT (r.drop (i + 1)))) ∧ wordsT (r.take (i + 1)) = wordsT (r.take i) ++ (((";" : Str)) :: e.words) ∧ manyR (r.take (i + 1)) = manyR (r.take i) + e.many ∧ manyR (r.take i) + e.many ≤ manyR r ∧ e.deep ≤ deepR r := by
  have hi := (List.getElem?_eq_some_iff.mp h).1
  have eg := (List.getElem?_eq_some_iff.mp h).2
  have e1 : r = r.take i ++ (e :: r.drop (i + 1)) := by
    conv => lhs; rw [← List.take_append_drop i r]
    rw [List.drop_eq_getElem_cons hi, eg]
  have e2 : r.take (i + 1) = r.take i ++ [e] := by rw [List.take_succ_eq_append_getElem hi, eg]
  refine ⟨?_, ?_, ?_, ?_, deepR_mem r e (List.mem_of_getElem? h)⟩
  · conv => lhs; rw [e1]
    rw [wordsT_app]
    rfl
  · rw [e2, wordsT_app, wordsT_one]
  · rw [e2, manyR_app, many_cons, many_nil]
    omega
  · conv => rhs; rw [e1]
    rw [manyR_app, many_cons]
    omega
section
variable {P : Program} {w : World} {K : PySem.W.Frag} {mg : Str → Option Value} {base : Heap} {C CP CD fI fP fDI : Addr} {fdI fdP fdDI : FuncData}
theorem ok_rdR {f fE : Addr} {fd fdE : FuncData} {n : Nat} (F : Fun K "read_row" "read_row" sRdR f fd) (R : RdC K mg) (G : FrmC K w mg) (TD : TxtD K mg CD) (DA : Def P w K mg base "ahead" 1 ["reader"] (spAhead CD)) (DF : Def P w K mg base "first_words" 1 ["floors"] spFw)
    (GD : FnOk P w K mg base CX0 (3 * n + 6) fE fdE ["reader", "floors"] (spRdD K C CD n)) (mgd : mg "read_deed" = some (.ref fE)) (kd : PySem.W.keepIn K (.ref fE) = true) (bd : Binds K fdE ["reader", "floors"] []) : FnOk P w K mg base CX0 (3 * n + 7) f fd ["reader", "floors"] (spRdR K C CD n) := by
  obtain ⟨tD, mD⟩ := G.mD
  refine F.ok scRw (fun vs H Q E h => ?_) (fun cdv A outer s H vs Q E hr h => ?_)
  · obtain ⟨rd, wl, ws, a, b, fl, r, post, rfl, _⟩ := h
    rfl
  · obtain ⟨rd, wl, ws, a, b, fl, r, post, rfl, hrd, hok, hdp, hfl, hmn, hws, hpost, k⟩ := h
    have hr1 : Room 1 _ := hr.mono (by omega)
    refine ⟨_, pss_cons (ps_if (PW.pt (pw_or (pt_cmpR op_eq (pe_fld (pv 0) rfl) (pe_glob (v := .int 4000) rfl mD ⟨_, rfl⟩) (nomark _)) (pw_or1 (pt_cmpR op_notIn_seq (pe_def DA hr1 rfl (pa_cons (pv 0) pa_nil)) (pe_def DF hr1 rfl (pa_cons (pv 1) pa_nil)) rfl)))) (pss_one (ps_ret (pe_tup pa_nil))) pss_nil) (pss_cons (ps_set (i := 2) scRw.nd rfl (Or.inl rfl) (pe_lst (pa_cons (pe_call GD hr rfl mgd kd bd .nil pass0 (pa_cons (pv 0) (pa_cons (pv 1) pa_nil))) pa_nil))) (pss_cons (ps_while PassesOwn.never (PW.pt (pw_and (pt_cmpR op_eq (pe_def DA hr1 rfl (pa_cons (pv 0) pa_nil)) pe_str (nomark _)) (pw_and1 (pt_cmpR op_lt (pe_fld (pv 0) rfl) (pe_glob (v := .int 4000) rfl mD ⟨_, rfl⟩) (nomark _))))) (pss_cons (ps_fldaug (pv 0) pe_int in_add) (pss_one (ps_expr (pe_bm PySem.F.plainAttrs_list PySem.F.slot_list_append PySem.F.type_list_append mt_append (pv 2) (pa_cons (pe_call GD hr rfl mgd kd bd .nil pass0 (pa_cons (pv 0) (pa_cons (pv 1) pa_nil))) pa_nil)))))) (pss_one (ps_ret (pe_callTy call_tuple_of (by rfl) G.mt PyProof.Rows.boot_tuple (pa_cons (pv 2) pa_nil)))))), ?_⟩
    have hsl := sizeLine_eq
    obtain ⟨⟨dx, h1⟩, h2, h3⟩ := id hrd
    refine ⟨_, rfl, _, _, _, _, _, rfl, h1, TD.cl, TD.nB, rd_begun _ _ _, rfl, _, rfl, ?_⟩
    cases r with
    | nil =>
      have hw0 : wordsR [] = [] := wordsR_nil
      rw [hw0, List.nil_append] at hws
      rw [hw0, many_nil, List.length_nil, Nat.add_zero, Nat.add_zero] at k
      have fin : ∀ H1 T, Same H H1 → H1 T = none → Q (.ref T) (upd H1 T (.tup [])) := fun H1 T s1 nT => by
        have sT := s1.trans (Same.new nT (o := .tup []))
        have hrd1 := hrd.same sT
        exact k T _ (KB.of sT) hrd1 ⟨[], SqT.of (del_at upd_same (rd_ne hrd1 upd_same)), rfl⟩
      by_cases hb : b = 4000
      · rw [decide_eq_true (show V.int ((b : Nat) : Int) = V.int 4000 by rw [hb]; rfl)]
        exact iteT (iteT ⟨Nat.zero_le _, fun T nT => fin H T (Same.refl H) nT⟩)
      · rw [decide_eq_false (show ¬ V.int ((b : Nat) : Int) = V.int 4000 from fun z => hb (by have := V.int.inj z; omega))]
        refine iteF ?_
        obtain ⟨q1, q2, _, _⟩ := aft_fw hws hpost fl
        refine ⟨_, rfl, rd, wl, ws, a, b, rfl, hrd, _, rfl, fl, rfl, fun l H1 s1 _ hl => ⟨l, _, rfl, .inl (SqL.of hl), q1, strV_flat _, _, rfl, ?_⟩⟩
        rw [if_pos rfl, q2]
        exact iteT ⟨Nat.zero_le _, fun T nT => fin H1 T s1 nT⟩
    | cons d r =>
      rw [wordsR_cons, List.append_assoc] at hws
      have hmd := many_pos d
      rw [many_cons] at hmn
      have hdd : d.deep ≤ deepR (d :: r) := by rw [deepR]; omega
      have hdr : deepR r ≤ deepR (d :: r) := by rw [deepR]; omega
      obtain ⟨hokd, hokr⟩ := hok
      obtain ⟨x, xs, hx, hxf⟩ : ∃ x xs, d.words = x :: xs ∧ x ∈ fwS fl := by
        cases d with
        | told a t => exact ⟨_, _, rfl, fw_let fl a hokd.1⟩
        | take s a b => exact ⟨_, _, rfl, fw_let fl a hokd.1⟩
        | two s a b c => exact ⟨_, _, rfl, fw_let fl a hokd.1⟩
        | wh a r =>
          rw [Dd.deep] at hdd
          exact ⟨_, _, rfl, fw_look (by omega) (by decide +kernel)⟩
        | iff a r o2 =>
          rw [Dd.deep] at hdd
          exact ⟨_, _, rfl, fw_look (by omega) (by decide +kernel)⟩
      rw [decide_eq_false (show ¬ V.int ((b : Nat) : Int) = V.int 4000 from fun z => by have := V.int.inj z; omega)]
      refine iteF ?_
      have hx0 : ws[a]? = some x := by
        rw [hx, List.cons_append] at hws
        exact dr_at hws
      refine ⟨_, rfl, rd, wl, ws, a, b, rfl, hrd, _, rfl, fl, rfl, fun l H1 s1 _ hl => ?_⟩
      rw [wdV_some hx0]
      refine ⟨l, _, rfl, .inl (SqL.of hl), rfl, strV_flat _, _, rfl, ?_⟩
      rw [if_pos rfl, inV_strV, decide_eq_true hxf]
      refine iteF ?_
      refine ⟨_, rfl, _, rfl, rd, wl, ws, a, b, fl, d, wordsT r ++ post, rfl, hrd.same s1, hokd, by omega, by omega, by omega, hws, fun v H2 kb2 hrd2 hv => ⟨by show 1 ≤ sizeLine; decide, fun L nL => ?_⟩⟩
      have sL := Same.new nL (o := .lst [v])
      have eL : (upd H2 L (.lst [v])) L = some (.lst [v]) := upd_same
      have hLw : wl ≠ L := fun z => by
        obtain ⟨_, q2, _⟩ := hrd2
        rw [z, nL] at q2
        cases q2
      have hLr : L ≠ rd := fun z => by
        obtain ⟨⟨dx, q1⟩, _⟩ := hrd2
        rw [z, q1] at nL
        cases nL
      have kb02 := (KB.of s1).trans kb2
      have nLH : ∀ o, H L = some o → False := fun o ho => by
        have := kb02 _ _ hLr ho
        rw [nL] at this
        cases this
      revert sL eL
      generalize upd H2 L (.lst [v]) = H3
      intro sL eL
      have hw1 := dr_on hws
      refine ⟨fun m σ H' => ∃ (i : Nat) (us : List V), i ≤ r.length ∧ σ = [some (.ref rd), some (.int ((fl : Nat) : Int)), some (.ref L)] ∧ KB rd H H' ∧ H' L = some (.lst us) ∧ DsAt K C (del H' rd) us (d :: r.take i) ∧ RdAt CD H' rd wl ws (a + d.words.length + (wordsT (r.take i)).length) (b + d.many + manyR (r.take i)) ∧ r.length - i = m,
        ⟨_, 0, [v], Nat.zero_le _, rfl, kb02.trans (KB.of sL), eL, ⟨v, [], rfl, DAt_kt (KT.of (kb_del (KB.of sL))) d v hv, rfl⟩, by rw [List.take_zero]; exact hrd2.same sL, rfl⟩, ?_⟩
      rintro m σ H4 ⟨i, us, hi, rfl, kb4, hL4, hus, hrd4, rfl⟩
      obtain ⟨at0, hat0⟩ : ∃ at0, a + d.words.length + (wordsT (r.take i)).length = at0 := ⟨_, rfl⟩
      obtain ⟨bg0, hbg0⟩ : ∃ bg0, b + d.many + manyR (r.take i) = bg0 := ⟨_, rfl⟩
      rw [hat0, hbg0] at hrd4
      have hul := DsAt.length _ us hus
      rw [List.length_cons, List.length_take] at hul
      by_cases hlt : i < r.length
      · obtain ⟨e, he⟩ : ∃ e, r[i]? = some e := ⟨_, List.getElem?_eq_getElem hlt⟩
        obtain ⟨g1, g2, g3, g4, g5⟩ := many_dr r i e he
        have hmp := many_pos e
        have hwa : ws.drop at0 = ((";" : Str)) :: (e.words ++ (wordsT (r.drop (i + 1)) ++ post)) := by
          rw [g1, List.append_assoc] at hw1
          have := dr_on hw1
          rw [← hat0, this]
          simp
        refine ⟨_, rfl, rd, wl, ws, at0, bg0, rfl, hrd4, ?_⟩
        rw [wdV_some (dr_at hwa)]
        refine ⟨rfl, _, rfl, ?_⟩
        rw [decide_eq_true rfl]
        refine iteT ?_
        have hne4 := hrd4.ne
        obtain ⟨⟨dx4, h41⟩, h42, h43⟩ := id hrd4
        refine ⟨_, rfl, _, _, _, _, _, rfl, h41, TD.cl, TD.nB, rd_begun _ _ _, _, _, rfl, rfl, _, rfl, ?_⟩
        rw [decide_eq_true (show ((bg0 : Nat) : Int) < 4000 by omega)]
        refine iteT ⟨fun σ' H5 => ∃ m', m' < r.length - i ∧ _, fun σ' H5 z => z, ?_⟩
        refine ⟨_, rfl, rd, _, _, _, _, rfl, h41, TD.cl, TD.nA, rd_at _ _ _, _, _, rfl, rfl, dx4, _, h41, (by show 3 < 1000; decide), ?_⟩
        have hrd5 : RdAt CD (upd H4 rd (.ins CD dx4 (putF "at" (.int (((at0 : Nat) : Int) + 1)) (rdF wl at0 bg0)))) rd wl ws (at0 + 1) bg0 := rd_on hne4 h42 h43
        have kb45 : KB rd H4 (upd H4 rd (.ins CD dx4 (putF "at" (.int (((at0 : Nat) : Int) + 1)) (rdF wl at0 bg0)))) := KB.set
        revert hrd5 kb45
        generalize upd H4 rd (.ins CD dx4 (putF "at" (.int (((at0 : Nat) : Int) + 1)) (rdF wl at0 bg0))) = H5
        intro hrd5 kb45
        have hwb := dr_one hwa
        have hL5 := kb45 _ _ hLr hL4
        refine ⟨_, rfl, .inl ⟨rfl, _, SqL.of hL5⟩, ?_⟩
        have hoke := okR_get r i e hokr he
        refine ⟨_, rfl, _, rfl, rd, wl, ws, at0 + 1, bg0, fl, e, _, rfl, hrd5, hoke, by omega, by omega, by omega, hwb, fun v6 H6 kb6 hrd6 hv6 => ?_⟩
        have kb46 := kb45.trans kb6
        have hL6 := kb6 _ _ hLr hL5
        have hmr : manyR r ≤ 4000 := by omega
        have hlr := len_le_many r
        refine ⟨L, _, _, rfl, rfl, hL6, by omega, ?_⟩
        have kt7 : KT (del H6 rd) (del (upd H6 L (.lst (us ++ [v6]))) rd) := fun x o hx hno => by
          by_cases ex : x = rd
          · rw [ex, del, if_pos rfl] at hx
            cases hx
          · rw [del_ne ex] at hx ⊢
            rw [upd_ne (fun z => by rw [z, hL6] at hx; cases hx; exact hno _ rfl)]
            exact hx
        refine ⟨r.length - (i + 1), by omega, i + 1, us ++ [v6], hlt, rfl, fun x o hx ho => ?_, upd_same, ?_, ?_, rfl⟩
        · rw [upd_ne (fun z => by rw [z] at ho; exact nLH _ ho)]
          exact kb46 _ _ hx (kb4 _ _ hx ho)
        · have e9 : d :: r.take (i + 1) = (d :: r.take i) ++ [e] := by
            rw [List.take_succ_eq_append_getElem hlt, (List.getElem?_eq_some_iff.mp he).2]
            rfl
          rw [e9]
          exact DsAt_sn (DAt_kt kt7 e v6 hv6) _ us (DsAt_kt kt7 _ _ (DsAt_kt (KT.of (kb_del kb46)) _ _ hus))
        · have ea : a + d.words.length + (wordsT (r.take (i + 1))).length = at0 + 1 + e.words.length := by
            rw [g2, List.length_append, List.length_cons]
            omega
          have eb : b + d.many + manyR (r.take (i + 1)) = bg0 + e.many := by
            rw [g3]
            omega
          rw [ea, eb]
          obtain ⟨⟨dx, q1⟩, q2, q3⟩ := hrd6
          exact ⟨⟨dx, by rw [upd_ne hLr.symm]; exact q1⟩, by rw [upd_ne hLw]; exact q2, q3⟩
      · have hie : i = r.length := by omega
        subst hie
        rw [List.take_length] at hus hat0 hbg0
        have hwa : ws.drop at0 = post := by
          rw [← hat0]
          exact dr_on hw1
        obtain ⟨_, _, q3, q4⟩ := aft_fw hwa hpost fl
        refine ⟨_, rfl, rd, wl, ws, at0, bg0, rfl, hrd4, q4, _, rfl, ?_⟩
        rw [q3]
        refine iteF (iteF ?_)
        refine ⟨_, rfl, L, us, rfl, .inl ⟨SqL.of hL4, fun q nq => ?_⟩⟩
        have sq := Same.new nq (o := .tup us)
        have hrd5 := hrd4.same sq
        refine k q _ (kb4.trans (KB.of sq)) ?_ ⟨us, SqT.of (del_at upd_same (rd_ne hrd5 upd_same)), DsAt_kt (KT.of (kb_del (KB.of sq))) _ _ hus⟩
        have ea : a + (wordsR (d :: r)).length = at0 := by
          rw [wordsR_cons, List.length_append]
          omega
        have eb : b + manyR (d :: r) = bg0 := by
          rw [many_cons]
          omega
        rw [ea, eb]
        exact hrd5
end
end Js

set_option Elab.async false
set_option linter.all false
set_option maxRecDepth 100000
set_option maxHeartbeats 2000000
namespace Js
open PySem L2
open PySem.Spec PyProof.Rows
theorem seq_obj1 {C : Addr} {fs : List V → List (Str × V)} {dvs : List V} {ta : TE} {g : TG} {rest : TS} {D : Ends} {σ : L2.St} {H : Hp} (P : V → Hp → Prop) (h : ∀ R : VK, (∀ v H1, P v H1 → R v H1) → ta σ H R)
    (k : ∀ v H1, P v H1 → ([v] ++ dvs).length = 1 ∧ ∀ z dx H', Same H1 H' → H1 z = none → H' z = some (.ins C dx (fs ([v] ++ dvs))) → g (.ref z) σ H' (rest D)) : tSeq (tAsg (tObj C fs 1 dvs (tCons ta tNil)) g) rest D σ H := h _ k
theorem textR_pos (r : List Dd) (h : r ≠ []) : 0 < (textR r).length := by
  have h1 := textR_sp r h
  have h2 : (txC r).length = (textR r).length + 1 := by
    rw [← h1, List.length_append, Array.length_toList]
    rfl
  cases r with
  | nil => exact absurd rfl h
  | cons d r =>
    have h3 := shC_pos d
    have h4 := txC_mem (d :: r) d (List.mem_cons_self ..)
    omega
theorem words_le (r : List Dd) (h : r ≠ []) : (wordsR r).length ≤ (textR r).length + 1 := by
  have h1 := sumR_eq r
  have h2 := textR_sp r h
  have h3 : (txC r).length = (textR r).length + 1 := by
    rw [← h2, List.length_append, Array.length_toList]
    rfl
  unfold sumR at h1
  omega
section
variable {P : Program} {w : World} {K : PySem.W.Frag} {mg : Str → Option Value} {base : Heap} {C CP CD fI fP fDI fRw fDd fLk : Addr} {fdI fdP fdDI fdRw fdDd fdLk : FuncData}
theorem ok_rdL0 {f : Addr} {fd : FuncData} (F : Fun K "read_look" "read_look" sRdL f fd) : FnOk P w K mg base CX0 (3 * 0 + 5) f fd ["reader", "kind", "floors"] (spRdL K C CD 0) := by
  refine F.ok scLo2 (fun vs H Q E h => ?_) (fun cdv A outer s H vs Q E hr h => ?_)
  · obtain ⟨rd, wl, ws, a, b, fl, d, post, rfl, _⟩ := h
    rfl
  · obtain ⟨rd, wl, ws, a, b, fl, d, post, _, _, _, _, h, _⟩ := h
    exact absurd h (Nat.not_lt_zero _)
theorem ok_rdAll (FR : Fun K "read_row" "read_row" sRdR fRw fdRw) (FD : Fun K "read_deed" "read_deed" sRdD fDd fdDd) (FL : Fun K "read_look" "read_look" sRdL fLk fdLk) (R : RdC K mg) (G : FrmC K w mg) (TD : TxtD K mg CD) (hCD : C ≠ CD) (DA : Def P w K mg base "ahead" 1 ["reader"] (spAhead CD)) (DT : Def P w K mg base "take" 2 ["reader", "right"] (spTk2 K CD)) (DF : Def P w K mg base "first_words" 1 ["floors"] spFw) (DN : Def P w K mg base "read_name" 3 ["reader"] (spRdN CD)) (DTd : Def P w K mg base "read_told" 5 ["reader"] (spRdT C CD))
    (mgr : mg "read_row" = some (.ref fRw)) (br : Binds K fdRw ["reader", "floors"] []) (mgd : mg "read_deed" = some (.ref fDd)) (bd : Binds K fdDd ["reader", "floors"] []) (mgl : mg "read_look" = some (.ref fLk)) (bl : Binds K fdLk ["reader", "kind", "floors"] []) : ∀ n, FnOk P w K mg base CX0 (3 * n + 5) fLk fdLk ["reader", "kind", "floors"] (spRdL K C CD n) ∧ FnOk P w K mg base CX0 (3 * n + 7) fRw fdRw ["reader", "floors"] (spRdR K C CD n) := by
  intro n
  have row : ∀ n, FnOk P w K mg base CX0 (3 * n + 5) fLk fdLk ["reader", "kind", "floors"] (spRdL K C CD n) → FnOk P w K mg base CX0 (3 * n + 7) fRw fdRw ["reader", "floors"] (spRdR K C CD n) := fun n GL =>
    ok_rdR FR R G TD DA DF (ok_rdD FD R G TD hCD DA DT DF DN DTd GL mgl FL.kp bl) mgd FD.kp bd
  induction n with
  | zero => exact ⟨ok_rdL0 FL, row 0 (ok_rdL0 FL)⟩
  | succ n ih =>
    have GL := ok_rdL FL R G DT DN ih.2 mgr FR.kp br
    exact ⟨GL, row (n + 1) GL⟩
theorem ok_rdP {f : Addr} {fd : FuncData} (F : Fun K "read_program" "read_program" sRdP f fd) (B : Blt mg) (TD : TxtD K mg CD) (MD : MkO P w K mg base "Reader" CD fDI fdDI ["self", "words"] rdL 1) (MP : MakerP P w K mg base C CP fP fdP) (DRw : Def P w K mg base "read_row" 34 ["reader", "floors"] (spRdR K C CD 9)) : FnOk P w K mg base CX0 35 f fd ["text"] (spRdP K C CP) := by
  refine F.ok scRp2 (fun vs H Q E h => ?_) (fun cdv A outer s H vs Q E hr h => ?_)
  · obtain ⟨r, rfl, _⟩ := h
    rfl
  · obtain ⟨r, rfl, hok, hdp, hmn, hlen, k⟩ := h
    have hr2 : Room 2 _ := hr.mono (by decide)
    have hr15 : Room 15 _ := hr.mono (by decide)
    have hrR : Room 34 _ := hr
    refine ⟨_, pss_cons (ps_set (i := 1) scRp2.nd rfl (Or.inl rfl) (pe_obj (n := 1) (fs := rdL) MD.M MD.G hr2 rfl MD.mgc MD.b .nil (pa_cons (pe_ifExp (pt_truth (pv 0) (by intro _; rfl)) (pe_split (pv 0) pe_str) (pe_lst pa_nil)) pa_nil))) (pss_cons (ps_set (i := 2) scRp2.nd rfl (Or.inl rfl) (pe_def DRw hrR rfl (pa_cons (pv 1) (pa_cons pe_int pa_nil)))) (pss_cons (ps_if (pt_cmpR op_lt (pe_fld (pv 1) rfl) (pe_callB call_len_seq (by rfl) B.len PySem.boot_len (pa_cons (pe_fld (pv 1) rfl) pa_nil)) (nomark _)) (pss_one ps_never) pss_nil) (pss_one (ps_ret (pe_P MP hr15 rfl (pa_cons (pv 2) pa_nil)))))), ?_⟩
    have hsl := sizeLine_eq
    refine seq_obj1 (fun v H1 => ∃ wl, v = .ref wl ∧ Same H H1 ∧ H1 wl = some (.lst (strV (wordsR r)))) (fun R hR => ?_) (fun v H1 hv => ?_)
    · by_cases h0 : r = []
      · subst h0
        have e0 : (textR []).length = 0 := by rw [textR_nil]; rfl
        refine ⟨_, rfl, false, ⟨by omega, by rw [e0]; rfl⟩, iteF ⟨Nat.zero_le _, fun p np => hR _ _ ⟨p, rfl, Same.new np, ?_⟩⟩⟩
        rw [upd_same, wordsR_nil]
        rfl
      · have hp := textR_pos r h0
        refine ⟨_, rfl, true, ⟨by omega, ?_⟩, iteT ?_⟩
        · have : (textR r).length ≠ 0 := by omega
          simp [this]
        · refine ⟨_, rfl, ⟨_, rfl⟩, _, _, rfl, rfl, by decide +kernel, by omega, fun p np => hR _ _ ⟨p, rfl, Same.new np, ?_⟩⟩
          rw [upd_same, split_textR r h0]
          rfl
    obtain ⟨wl, rfl, s1, hwl⟩ := hv
    refine ⟨rfl, fun rd dx H2 s2 nrd hrd0 => ?_⟩
    have hwn : (wordsR r).length ≤ 10000000 := by
      have := wordsR_len r
      omega
    have hrd2 : RdAt CD H2 rd wl (wordsR r) 0 0 := ⟨⟨dx, hrd0⟩, s2 _ _ hwl, hwn⟩
    have nrH : H rd = none := s1.free nrd
    refine ⟨_, rfl, rd, wl, wordsR r, 0, 0, 0, r, [], rfl, hrd2, hok, by omega, by omega, by omega, by rw [List.drop_zero, List.append_nil], .inl rfl, fun q H3 kb3 hrd3 hq => ?_⟩
    have s03 : Same H H3 := fun x o hx => kb3 _ _ (ne_of_none hx nrH) (s2 _ _ (s1 _ _ hx))
    obtain ⟨⟨dx3, h31⟩, h32, h33⟩ := hrd3
    refine ⟨_, rfl, _, _, _, _, _, rfl, h31, TD.cl, TD.nA, rd_at _ _ _, _, rfl, _, _, _, _, _, rfl, h31, TD.cl, TD.nW, rd_words _ _ _, wl, _, rfl, .inl (SqL.of h32), _, _, rfl, rfl, _, rfl, ?_⟩
    rw [strV_len, decide_eq_false (show ¬ ((0 + (wordsR r).length : Nat) : Int) < (((wordsR r).length : Nat) : Int) by omega)]
    refine iteF ?_
    exact ⟨_, rfl, q, r, rfl, hq.same (del_up H3 rd), hdp, hmn, fun z H4 s4 nz hz => k z H4 (s03.trans s4) (s03.free nz) hz⟩
end
end Js

set_option Elab.async false
set_option linter.all false
set_option maxRecDepth 100000
set_option maxHeartbeats 2000000
namespace Js
open PySem L2
abbrev sName : Stmt := top 70
abbrev sDeed : Stmt := top 71
abbrev sDeeds : Stmt := top 72
abbrev sTop : Stmt := top 73
/-! told things are small -/
mutual
def Dd.sm : Dd → Prop
  | .told _ t => t.size ≤ 3
  | .take _ _ _ => True
  | .two _ _ _ _ => True
  | .wh _ r => smR r
  | .iff _ r o => smR r ∧ smR o
def smR : List Dd → Prop
  | [] => True
  | d :: r => d.sm ∧ smR r
end
theorem smR_app : ∀ (a b : List Dd), smR a → smR b → smR (a ++ b)
  | [], _, _, h => h
  | _ :: a, b, h, h2 => ⟨h.1, smR_app a b h.2 h2⟩
theorem smR_tk : ∀ (n : Nat) (a : List Dd), smR a → smR (a.take n)
  | 0, a, _ => by rw [List.take_zero]; trivial
  | n + 1, [], _ => trivial
  | n + 1, d :: a, h => ⟨h.1, smR_tk n a h.2⟩
/-- all but what stands at p and f stays -/
def KC (p f : Addr) (H H' : Hp) : Prop := ∀ a o, a ≠ p → a ≠ f → H a = some o → H' a = some o
theorem KC.refl (p f : Addr) (H : Hp) : KC p f H H := fun _ _ _ _ h => h
theorem KC.of {p f : Addr} {H H' : Hp} (s : Same H H') : KC p f H H' := fun _ _ _ _ h => s _ _ h
theorem KC.kb {p f : Addr} {H H' : Hp} (k : KB p H H') : KC p f H H' := fun _ _ n _ h => k _ _ n h
theorem KC.trans {p f : Addr} {H H1 H2 : Hp} (a : KC p f H H1) (b : KC p f H1 H2) : KC p f H H2 := fun x o n m h => b x o n m (a x o n m h)
theorem KC.set {p f : Addr} {H : Hp} {o : HO} : KC p f H (upd H f o) := fun x u _ m h => by rw [upd_ne m]; exact h
theorem KC.kt {p f : Addr} {H H' : Hp} (k : KC p f H H') {xs ys : List V} (hp : H p = some (.lst xs)) (hf : H f = some (.lst ys)) : KT H H' := fun a o h n => k a o (fun z => by subst z; exact n _ (Option.some.inj (h.symm.trans hp))) (fun z => by subst z; exact n _ (Option.some.inj (h.symm.trans hf))) h
/-- how many deeds are left -/
def Lf (H : Hp) (f : Addr) (l : Nat) : Prop := H f = some (.lst [.int (l : Nat)])
def spName : Sp := fun vs H Q _ => ∃ p, vs = [.ref p] ∧ BagOk H p ∧ ∀ (a : Nat) H', KB p H H' → BagOk H' p → a < 10 → Q (.int (a : Nat)) H'
def spDeed (K : PySem.W.Frag) (C : Addr) (m : Nat) : Sp := fun vs H Q _ => ∃ (p f : Addr) (dp l : Nat), vs = [.ref p, .ref f, .int (dp : Nat)] ∧ BagOk H p ∧ Lf H f l ∧ p ≠ f ∧ dp + m = 5 ∧ l ≤ 1000 ∧
  ∀ v d l' H', KC p f H H' → BagOk H' p → Lf H' f l' → l' ≤ l → DAt K C H' v d → d.deep ≤ m → d.many ≤ 2 * (l - l') + 2 → d.sm → Q v H'
def spDeeds (K : PySem.W.Frag) (C : Addr) (m : Nat) : Sp := fun vs H Q _ => ∃ (p f : Addr) (dp l : Nat), vs = [.ref p, .ref f, .int (dp : Nat)] ∧ BagOk H p ∧ Lf H f l ∧ p ≠ f ∧ dp + m = 6 ∧ 1 ≤ m ∧ l ≤ 1000 ∧
  ∀ q r l' H', KC p f H H' → BagOk H' p → Lf H' f l' → l' ≤ l → RAt K C H' q r → deepR r + 1 ≤ m → manyR r ≤ 2 * (l - l') → smR r → Q (.ref q) H'
theorem name_at (d : Int) (h0 : 0 ≤ d) (h1 : d < 8) : ∃ a : Nat, atI [V.int 0, V.int 0, V.int 0, V.int 1, V.int 1, V.int 2, V.int 2, V.int 3] d = some (.int (a : Nat)) ∧ a < 10 := by
  obtain ⟨n, rfl⟩ := Int.eq_ofNat_of_zero_le h0
  match n, h1 with
  | 0, _ => exact ⟨0, rfl, by decide⟩
  | 1, _ => exact ⟨0, rfl, by decide⟩
  | 2, _ => exact ⟨0, rfl, by decide⟩
  | 3, _ => exact ⟨1, rfl, by decide⟩
  | 4, _ => exact ⟨1, rfl, by decide⟩
  | 5, _ => exact ⟨2, rfl, by decide⟩
  | 6, _ => exact ⟨2, rfl, by decide⟩
  | 7, _ => exact ⟨3, rfl, by decide⟩
  | n + 8, h => exact absurd h (by omega)
/-- one of the four short kinds -/
theorem kind_at (d : Int) (h0 : 0 ≤ d) (h1 : d < 6) : ∃ k : Str, atI [V.str "first", V.str "second", V.str "second", V.str "pair", V.str "pair", V.str "same"] d = some (.str k) ∧ ((∃ s, k = takeS s) ∨ ∃ s, k = twoS s) := by
  obtain ⟨n, rfl⟩ := Int.eq_ofNat_of_zero_le h0
  match n, h1 with
  | 0, _ => exact ⟨_, rfl, .inl ⟨false, rfl⟩⟩
  | 1, _ => exact ⟨_, rfl, .inl ⟨true, rfl⟩⟩
  | 2, _ => exact ⟨_, rfl, .inl ⟨true, rfl⟩⟩
  | 3, _ => exact ⟨_, rfl, .inr ⟨false, rfl⟩⟩
  | 4, _ => exact ⟨_, rfl, .inr ⟨false, rfl⟩⟩
  | 5, _ => exact ⟨_, rfl, .inr ⟨true, rfl⟩⟩
  | n + 6, h => exact absurd h (by omega)
theorem in_take (s : Bool) : inV (.str (takeS s)) [V.str "pair", V.str "same"] = false := by cases s <;> decide +kernel
theorem in_two (s : Bool) : inV (.str (twoS s)) [V.str "pair", V.str "same"] = true := by cases s <;> decide +kernel
theorem DsAt_snoc {K : PySem.W.Frag} {C : Addr} {H : Hp} {v : V} {d : Dd} (hd : DAt K C H v d) : ∀ (r : List Dd) (vs : List V), DsAt K C H vs r → DsAt K C H (vs ++ [v]) (r ++ [d])
  | [], vs, h => by
    have e : vs = [] := h
    subst e
    exact ⟨v, [], rfl, hd, rfl⟩
  | e :: r, vs, h => by
    obtain ⟨u, us, rfl, h1, h2⟩ := h
    exact ⟨u, us ++ [v], rfl, h1, DsAt_snoc hd r us h2⟩
theorem DsAt_app {K : PySem.W.Frag} {C : Addr} {H : Hp} : ∀ (r u : List Dd) (vs us : List V), DsAt K C H vs r → DsAt K C H us u → DsAt K C H (vs ++ us) (r ++ u)
  | [], u, vs, us, h, g => by
    have e : vs = [] := h
    subst e
    exact g
  | e :: r, u, vs, us, h, g => by
    obtain ⟨v, ws, rfl, h1, h2⟩ := h
    exact ⟨v, ws ++ us, rfl, h1, DsAt_app r u ws us h2 g⟩
theorem deepR_app : ∀ (a b : List Dd), deepR (a ++ b) = max (deepR a) (deepR b)
  | [], b => by rw [List.nil_append, deepR, Nat.max_eq_right (Nat.zero_le _)]
  | d :: a, b => by rw [List.cons_append, deepR, deepR_app a b, deepR, Nat.max_assoc]
theorem len_many : ∀ r : List Dd, r.length ≤ manyR r
  | [] => Nat.zero_le _
  | d :: r => by
    have := len_many r
    have := many_pos d
    rw [List.length_cons, many_cons]
    omega
theorem deepR_one (d : Dd) : deepR [d] = d.deep := by rw [deepR, deepR, Nat.max_eq_left (Nat.zero_le _)]
section
variable {P : Program} {w : World} {K : PySem.W.Frag} {mg : Str → Option Value} {base : Heap} {C : Addr}
theorem scNa : FnScope ["_law_bag_here"] ["_law_bag_here"] (defScope sName) := ⟨rfl, rfl, rfl, by decide +kernel, rfl, by decide +kernel, by decide +kernel⟩
theorem ok_name {f : Addr} {fd : FuncData} (F : Fun K "_law_name" "_law_name" sName f fd) (DTk : Def P w K mg base "_law_take" 1 ["_law_bag_here", "_law_many"] spTake) : FnOk P w K mg base CX0 2 f fd ["_law_bag_here"] spName := by
  refine F.ok scNa (fun vs H Q E h => ?_) (fun cdv A outer s H vs Q E hr h => ?_)
  · obtain ⟨p, rfl, _⟩ := h
    rfl
  · obtain ⟨p, rfl, hb, k⟩ := h
    have hr1 : Room 1 _ := hr
    refine ⟨_, pss_cons (ps_if (pt_cmpR op_eq (pe_def DTk hr1 rfl (pa_cons (pv 0) (pa_cons pe_int pa_nil))) pe_int (nomark _)) (pss_one (ps_ret (pe_def DTk hr1 rfl (pa_cons (pv 0) (pa_cons pe_int pa_nil))))) pss_nil) (pss_one (ps_ret (pe_ix (r := rIxL K) ix_list (pe_lst (pa_cons pe_int (pa_cons pe_int (pa_cons pe_int (pa_cons pe_int (pa_cons pe_int (pa_cons pe_int (pa_cons pe_int (pa_cons pe_int pa_nil))))))))) (pe_def DTk hr1 rfl (pa_cons (pv 0) (pa_cons pe_int pa_nil))) (fun _ _ => rfl)))), ?_⟩
    refine ⟨_, rfl, p, 12, rfl, hb, by decide, by decide, fun d H1 k1 b1 h0 h1 => ?_⟩
    refine ⟨rfl, _, rfl, ?_⟩
    by_cases hd : d = 0
    · rw [decide_eq_true (show V.int d = V.int 0 by rw [hd])]
      refine iteT ?_
      refine ⟨_, rfl, p, 10, rfl, b1, by decide, by decide, fun d2 H2 k2 b2 h20 h21 => ?_⟩
      obtain ⟨n, rfl⟩ := Int.eq_ofNat_of_zero_le h20
      exact k n H2 (k1.trans k2) b2 (by omega)
    · rw [decide_eq_false (show ¬ V.int d = V.int 0 from fun z => hd (V.int.inj z))]
      refine iteF ?_
      refine ⟨by show 8 ≤ sizeLine; decide, fun L nL => ?_⟩
      have hLp : L ≠ p := fun z => by
        obtain ⟨bx, hbx⟩ := b1.some
        rw [z, hbx] at nL
        cases nL
      have sL := Same.new nL (o := .lst [V.int 0, V.int 0, V.int 0, V.int 1, V.int 1, V.int 2, V.int 2, V.int 3])
      refine ⟨_, rfl, p, 8, rfl, b1.same sL, by decide, by decide, fun d2 H2 k2 b2 h20 h21 => ?_⟩
      obtain ⟨a, ha, ha10⟩ := name_at d2 h20 h21
      exact ⟨L, _, _, _, rfl, rfl, SqL.of (k2 _ _ hLp upd_same), ha, k a H2 ((k1.trans (KB.of sL)).trans k2) b2 ha10⟩
theorem scDe : FnScope ["_law_bag_here", "_law_left", "_law_deep", "_law_way", "_law_a", "_law_b", "_law_c", "_law_kind", "_law_inner"] ["_law_bag_here", "_law_left", "_law_deep"] (defScope sDeed) := ⟨rfl, rfl, rfl, by decide +kernel, rfl, by decide +kernel, by decide +kernel⟩
theorem ok_deed {f fs : Addr} {fd fds : FuncData} {m : Nat} (F : Fun K "_law_deed" "_law_deed" sDeed f fd) (B : Blt mg) (DTk : Def P w K mg base "_law_take" 1 ["_law_bag_here", "_law_many"] spTake) (DNm : Def P w K mg base "_law_name" 2 ["_law_bag_here"] spName) (DTh : Def P w K mg base "_law_thing" 4 ["_law_bag_here", "_law_many"] (spThing C))
    (Gs : FnOk P w K mg base CX0 (2 * m + 4) fs fds ["_law_bag_here", "_law_left", "_law_deep"] (spDeeds K C m)) (mgs : mg "_law_deeds" = some (.ref fs)) (ks : PySem.W.keepIn K (.ref fs) = true) (bs : Binds K fds ["_law_bag_here", "_law_left", "_law_deep"] []) : FnOk P w K mg base CX0 (2 * m + 5) f fd ["_law_bag_here", "_law_left", "_law_deep"] (spDeed K C m) := by
  refine F.ok scDe (fun vs H Q E h => ?_) (fun cdv A outer s H vs Q E hr h => ?_)
  · obtain ⟨p, f, dp, l, rfl, _⟩ := h
    rfl
  · obtain ⟨p, f, dp, l, rfl, hb, hl, hpf, hdm, hll, k⟩ := h
    have hr1 : Room 1 _ := hr.mono (by omega)
    have hr2 : Room 2 _ := hr.mono (by omega)
    have hr4 : Room 4 _ := hr.mono (by omega)
    refine ⟨_, pss_cons (ps_set (i := 3) scDe.nd rfl (Or.inl rfl) (pe_def DTk hr1 rfl (pa_cons (pv 0) (pa_cons pe_int pa_nil)))) (pss_cons (ps_par3 (i := 4) (j := 5) (l := 6) (by rfl) scDe.nd rfl rfl rfl (by decide) (by decide) (by decide) rfl rfl rfl (pa_cons (pe_def DNm hr2 rfl (pa_cons (pv 0) pa_nil)) (pa_cons (pe_def DNm hr2 rfl (pa_cons (pv 0) pa_nil)) (pa_cons (pe_def DNm hr2 rfl (pa_cons (pv 0) pa_nil)) pa_nil))) (by rfl)) (pss_cons (ps_if (pt_cmpR op_lt (pv 3) pe_int (nomark _)) (pss_one (ps_ret (pe_tup (pa_cons pe_str (pa_cons (pv 4) (pa_cons (pe_def DTh hr4 rfl (pa_cons (pv 0) (pa_cons (pe_def DTk hr1 rfl (pa_cons (pv 0) (pa_cons pe_int pa_nil))) pa_nil))) pa_nil)))))) pss_nil) (pss_cons (ps_if (PW.pt (pw_or (pt_cmpR op_lt (pv 3) pe_int (nomark _)) (pw_or1 (pt_cmpR op_gt (pv 2) pe_int (nomark _))))) (pss_cons (ps_set (i := 7) scDe.nd rfl (Or.inl rfl) (pe_ix (r := rIxL K) ix_list (pe_lst (pa_cons pe_str (pa_cons pe_str (pa_cons pe_str (pa_cons pe_str (pa_cons pe_str (pa_cons pe_str pa_nil))))))) (pe_op op_mod (pv 3) pe_int) (fun _ _ => rfl))) (pss_one (ps_ret (pe_slice sl_tupA (pe_tup (pa_cons (pv 7) (pa_cons (pv 4) (pa_cons (pv 5) (pa_cons (pv 6) pa_nil))))) po_none (po_some (pe_op op_add pe_int (pe_callTy call_int1 (by rfl) B.int PyProof.Rows.boot_int (pa_cons (pe_cmpR op_in_seq (pv 7) (pe_tup (pa_cons pe_str (pa_cons pe_str pa_nil))) rfl) pa_nil)))))))) pss_nil) (pss_cons (ps_set (i := 8) scDe.nd rfl (Or.inl rfl) (pe_call Gs hr rfl mgs ks bs .nil pass0 (pa_cons (pv 0) (pa_cons (pv 1) (pa_cons (pe_op op_add (pv 2) pe_int) pa_nil))))) (pss_cons (ps_if (pt_cmpR op_lt (pv 3) pe_int (nomark _)) (pss_cons (ps_if (pt_cmpR op_gt (pe_def DTk hr1 rfl (pa_cons (pv 0) (pa_cons pe_int pa_nil))) pe_int (nomark _)) (pss_one (ps_set (i := 8) scDe.nd rfl (Or.inl rfl) (pe_op op_catA (pv 8) (pe_tup (pa_cons (pe_tup (pa_cons pe_str (pa_cons (pv 4) (pa_cons (pv 4) pa_nil)))) pa_nil))))) pss_nil) (pss_one (ps_ret (pe_tup (pa_cons pe_str (pa_cons (pv 4) (pa_cons (pv 8) pa_nil))))))) pss_nil) (pss_one (ps_ret (pe_tup (pa_cons pe_str (pa_cons (pv 4) (pa_cons (pv 8) (pa_cons (pe_call Gs hr rfl mgs ks bs .nil pass0 (pa_cons (pv 0) (pa_cons (pv 1) (pa_cons (pe_op op_add (pv 2) pe_int) pa_nil)))) pa_nil)))))))))))), ?_⟩
    have hsl := line4
    refine ⟨_, rfl, p, 12, rfl, hb, by decide, by decide, fun wy H1 k1 b1 h0 h1 => ?_⟩
    refine ⟨_, rfl, p, rfl, b1, fun a H2 k2 b2 ha => ?_⟩
    refine ⟨_, rfl, p, rfl, b2, fun bb H3 k3 b3 hbb => ?_⟩
    refine ⟨_, rfl, p, rfl, b3, fun c H4 k4 b4 hc => ?_⟩
    refine ⟨_, _, _, rfl, ?_⟩
    have kb4 : KB p H H4 := ((k1.trans k2).trans k3).trans k4
    have l4 : Lf H4 f l := kb4 _ _ (Ne.symm hpf) hl
    refine ⟨_, rfl, _, _, rfl, rfl, _, rfl, ?_⟩
    by_cases w2 : wy < 2
    · rw [decide_eq_true w2]
      refine iteT ?_
      refine ⟨_, rfl, _, rfl, _, rfl, p, 4, rfl, b4, by decide, by decide, fun tz H5 k5 b5 t0 t1 => ?_⟩
      obtain ⟨n, rfl⟩ := Int.eq_ofNat_of_zero_le t0
      refine ⟨p, n, rfl, b5, by omega, fun x t H6 k6 b6 hx hxs => ?_⟩
      refine ⟨by show 3 ≤ sizeLine; decide, fun T nT => ?_⟩
      have sT := Same.new nT (o := .tup [.str "told", .int (a : Nat), .ref x])
      have kb6 : KB p H4 H6 := k5.trans k6
      refine k (.ref T) (.told a t) l _ ((KC.kb (kb4.trans kb6)).trans (KC.of sT)) (b6.same sT) (sT _ _ (kb6 _ _ (Ne.symm hpf) l4)) (Nat.le_refl _) ⟨T, x, rfl, SqT.of upd_same, ha, hx.same sT, by omega⟩ (Nat.zero_le _) (by rw [many_told]; omega) (by show t.size ≤ 3; omega)
    · rw [decide_eq_false w2]
      refine iteF ?_
      refine ⟨_, rfl, _, _, rfl, rfl, _, rfl, ?_⟩
      by_cases w8 : wy < 8
      · rw [decide_eq_true w8]
        refine iteT (iteT ?_)
        obtain ⟨kk, hkk, hk2⟩ := kind_at (wy % 6) (by omega) (by omega)
        refine ⟨by show 6 ≤ sizeLine; decide, fun L nL => ?_⟩
        have sL := Same.new nL (o := .lst [V.str "first", V.str "second", V.str "second", V.str "pair", V.str "pair", V.str "same"])
        refine ⟨_, rfl, _, _, rfl, rfl, (show (0 : Int) < 6 by decide), L, _, _, _, rfl, rfl, SqL.of upd_same, hkk, ?_⟩
        revert sL
        generalize upd H4 L (.lst [V.str "first", V.str "second", V.str "second", V.str "pair", V.str "pair", V.str "same"]) = H5
        intro sL
        refine ⟨_, rfl, _, rfl, _, rfl, _, rfl, by show 4 ≤ sizeLine; decide, fun T nT => ?_⟩
        have sT := Same.new nT (o := .tup [.str kk, .int (a : Nat), .int (bb : Nat), .int (c : Nat)])
        have hT : (upd H5 T (.tup [.str kk, .int (a : Nat), .int (bb : Nat), .int (c : Nat)])) T = some (.tup [.str kk, .int (a : Nat), .int (bb : Nat), .int (c : Nat)]) := upd_same
        revert sT hT
        generalize upd H5 T (.tup [.str kk, .int (a : Nat), .int (bb : Nat), .int (c : Nat)]) = H6
        intro sT hT
        refine ⟨_, rfl, by show 2 ≤ sizeLine; decide, fun U nU => ?_⟩
        have sU := Same.new nU (o := .tup [V.str "pair", V.str "same"])
        refine ⟨U, _, rfl, .inr (SqT.of upd_same), rfl, rfl, .inr ⟨_, rfl, _, _, rfl, rfl, _, rfl, T, _, rfl, SqT.of (sU _ _ hT), ?_⟩⟩
        have s47 := (sL.trans sT).trans sU
        have kc7 : KC p f H (upd H6 U (.tup [V.str "pair", V.str "same"])) := (KC.kb kb4).trans (KC.of s47)
        have l7 := s47 _ _ l4
        have b7 := b4.same s47
        rcases hk2 with ⟨s, rfl⟩ | ⟨s, rfl⟩
        · rw [show (if false = true then !inV (.str (takeS s)) [V.str "pair", V.str "same"] else inV (.str (takeS s)) [V.str "pair", V.str "same"]) = false from in_take s]
          refine ⟨fun ⟨_, h2⟩ => absurd h2 (show ¬ ((3 : Nat) = 4) by decide), fun _ z nz => ?_⟩
          have sz := Same.new nz (o := .tup [.str (takeS s), .int (a : Nat), .int (bb : Nat)])
          exact k (.ref z) (.take s a bb) l _ (kc7.trans (KC.of sz)) (b7.same sz) (sz _ _ l7) (Nat.le_refl _) ⟨z, rfl, SqT.of upd_same, ha, hbb⟩ (Nat.zero_le _) (by rw [many_take]; omega) trivial
        · rw [show (if false = true then !inV (.str (twoS s)) [V.str "pair", V.str "same"] else inV (.str (twoS s)) [V.str "pair", V.str "same"]) = true from in_two s]
          refine ⟨fun _ => ?_, fun hn => absurd ⟨rfl, rfl⟩ hn⟩
          exact k (.ref T) (.two s a bb c) l _ kc7 b7 l7 (Nat.le_refl _) ⟨T, rfl, SqT.of (sU _ _ hT), ha, hbb, hc⟩ (Nat.zero_le _) (by rw [many_two]; omega) trivial
      · rw [decide_eq_false w8]
        refine iteF ?_
        refine ⟨_, rfl, _, _, rfl, rfl, _, rfl, ?_⟩
        by_cases w4 : 4 < dp
        · rw [decide_eq_true (show (4 : Int) < ((dp : Nat) : Int) by omega)]
          refine iteT ?_
          obtain ⟨kk, hkk, hk2⟩ := kind_at (wy % 6) (by omega) (by omega)
          refine ⟨by show 6 ≤ sizeLine; decide, fun L nL => ?_⟩
          have sL := Same.new nL (o := .lst [V.str "first", V.str "second", V.str "second", V.str "pair", V.str "pair", V.str "same"])
          refine ⟨_, rfl, _, _, rfl, rfl, (show (0 : Int) < 6 by decide), L, _, _, _, rfl, rfl, SqL.of upd_same, hkk, ?_⟩
          revert sL
          generalize upd H4 L (.lst [V.str "first", V.str "second", V.str "second", V.str "pair", V.str "pair", V.str "same"]) = H5
          intro sL
          refine ⟨_, rfl, _, rfl, _, rfl, _, rfl, by show 4 ≤ sizeLine; decide, fun T nT => ?_⟩
          have sT := Same.new nT (o := .tup [.str kk, .int (a : Nat), .int (bb : Nat), .int (c : Nat)])
          have hT : (upd H5 T (.tup [.str kk, .int (a : Nat), .int (bb : Nat), .int (c : Nat)])) T = some (.tup [.str kk, .int (a : Nat), .int (bb : Nat), .int (c : Nat)]) := upd_same
          revert sT hT
          generalize upd H5 T (.tup [.str kk, .int (a : Nat), .int (bb : Nat), .int (c : Nat)]) = H6
          intro sT hT
          refine ⟨_, rfl, by show 2 ≤ sizeLine; decide, fun U nU => ?_⟩
          have sU := Same.new nU (o := .tup [V.str "pair", V.str "same"])
          refine ⟨U, _, rfl, .inr (SqT.of upd_same), rfl, rfl, .inr ⟨_, rfl, _, _, rfl, rfl, _, rfl, T, _, rfl, SqT.of (sU _ _ hT), ?_⟩⟩
          have s47 := (sL.trans sT).trans sU
          have kc7 : KC p f H (upd H6 U (.tup [V.str "pair", V.str "same"])) := (KC.kb kb4).trans (KC.of s47)
          have l7 := s47 _ _ l4
          have b7 := b4.same s47
          rcases hk2 with ⟨s, rfl⟩ | ⟨s, rfl⟩
          · rw [show (if false = true then !inV (.str (takeS s)) [V.str "pair", V.str "same"] else inV (.str (takeS s)) [V.str "pair", V.str "same"]) = false from in_take s]
            refine ⟨fun ⟨_, h2⟩ => absurd h2 (show ¬ ((3 : Nat) = 4) by decide), fun _ z nz => ?_⟩
            have sz := Same.new nz (o := .tup [.str (takeS s), .int (a : Nat), .int (bb : Nat)])
            exact k (.ref z) (.take s a bb) l _ (kc7.trans (KC.of sz)) (b7.same sz) (sz _ _ l7) (Nat.le_refl _) ⟨z, rfl, SqT.of upd_same, ha, hbb⟩ (Nat.zero_le _) (by rw [many_take]; omega) trivial
          · rw [show (if false = true then !inV (.str (twoS s)) [V.str "pair", V.str "same"] else inV (.str (twoS s)) [V.str "pair", V.str "same"]) = true from in_two s]
            refine ⟨fun _ => ?_, fun hn => absurd ⟨rfl, rfl⟩ hn⟩
            exact k (.ref T) (.two s a bb c) l _ kc7 b7 l7 (Nat.le_refl _) ⟨T, rfl, SqT.of (sU _ _ hT), ha, hbb, hc⟩ (Nat.zero_le _) (by rw [many_two]; omega) trivial
        · rw [decide_eq_false (show ¬ (4 : Int) < ((dp : Nat) : Int) by omega)]
          refine iteF ?_
          refine ⟨_, rfl, _, rfl, _, rfl, _, _, rfl, rfl, p, f, dp + 1, l, rfl, b4, l4, hpf, by omega, by omega, hll, fun q r l1 H5 kc5 b5 lf5 hl5 hr5 hd5 hm5 hs5 => ?_⟩
          have kc45 : KC p f H H5 := (KC.kb kb4).trans kc5
          refine ⟨_, rfl, _, _, rfl, rfl, _, rfl, ?_⟩
          by_cases w10 : wy < 10
          · rw [decide_eq_true w10]
            refine iteT ?_
            refine ⟨_, rfl, p, 5, rfl, b5, by decide, by decide, fun d5 H6 k6 b6 d50 d51 => ?_⟩
            refine ⟨_, _, rfl, rfl, _, rfl, ?_⟩
            obtain ⟨bx, hbx⟩ := b5.some
            have hr6 : RAt K C H6 q r := hr5.kt (k6.kt hbx)
            have lf6 : Lf H6 f l1 := k6 _ _ (Ne.symm hpf) lf5
            have kc6 : KC p f H H6 := kc45.trans (KC.kb k6)
            by_cases h5 : 0 < d5
            · rw [decide_eq_true h5]
              refine iteT ?_
              obtain ⟨vs, hq, hvs⟩ := hr6
              refine ⟨_, rfl, _, rfl, _, rfl, by show 3 ≤ sizeLine; decide, fun T1 n1 => ?_⟩
              have s7 := Same.new n1 (o := .tup [V.str "second", .int (a : Nat), .int (a : Nat)])
              have hT1 : (upd H6 T1 (.tup [V.str "second", .int (a : Nat), .int (a : Nat)])) T1 = some (.tup [V.str "second", .int (a : Nat), .int (a : Nat)]) := upd_same
              revert s7 hT1
              generalize upd H6 T1 (.tup [V.str "second", .int (a : Nat), .int (a : Nat)]) = H7
              intro s7 hT1
              refine ⟨by show 1 ≤ sizeLine; decide, fun T2 n2 => ?_⟩
              have s8 := Same.new n2 (o := .tup [V.ref T1])
              have hT2 : (upd H7 T2 (.tup [V.ref T1])) T2 = some (.tup [V.ref T1]) := upd_same
              revert s8 hT2
              generalize upd H7 T2 (.tup [V.ref T1]) = H8
              intro s8 hT2
              have s68 := s7.trans s8
              have dsec : DAt K C H8 (.ref T1) (.take true a a) := ⟨T1, rfl, SqT.of (s8 _ _ hT1), ha, ha⟩
              have hvs8 := DsAt_kt (KT.of s68) r vs hvs
              have hq8 := sqt_kt (KT.of s68) hq
              have lr := len_many r
              have lv := DsAt.length r vs hvs
              have cont : ∀ (q2 : Addr) (H9 : Hp), Same H8 H9 → RAt K C H9 q2 (r ++ [.take true a a]) → (tRet (tTup (tCons (tC (.str "while")) (tCons (tVar 4) (tCons (tVar 8) tNil)))) { nx := fun _ H' => Q .non H', rt := Q } [some (.ref p), some (.ref f), some (.int (dp : Nat)), some (.int wy), some (.int (a : Nat)), some (.int (bb : Nat)), some (.int (c : Nat)), none, some (.ref q2)] H9) := by
                intro q2 H9 s9 hr9
                refine ⟨_, rfl, _, rfl, by show 3 ≤ sizeLine; decide, fun T3 n3 => ?_⟩
                have sT := Same.new n3 (o := .tup [V.str "while", .int (a : Nat), .ref q2])
                have s69 := (s68.trans s9).trans sT
                obtain ⟨vs9, h91, h92⟩ := hr9.same sT
                refine k (.ref T3) (.wh a (r ++ [.take true a a])) l1 _ (kc6.trans (KC.of s69)) (b6.same s69) (s69 _ _ lf6) hl5 ⟨T3, q2, vs9, rfl, SqT.of upd_same, ha, h91, h92⟩ ?_ ?_ (by exact smR_app r [.take true a a] hs5 ⟨trivial, trivial⟩)
                · rw [Dd.deep, deepR_app, deepR_one]
                  have : max (deepR r) (Dd.take true a a).deep = deepR r := Nat.max_eq_left (Nat.zero_le _)
                  omega
                · rw [many_wh, manyR_app, manyR_one, many_take]
                  omega
              refine ⟨q, T2, vs, _, rfl, rfl, hq8, SqT.of hT2, by simp only [List.length_cons, List.length_nil]; omega, fun e0 => ?_, fun _ e1 => (by cases e1), fun _ _ U nU => ?_⟩
              · subst e0
                have er : r = [] := List.length_eq_zero_iff.mp lv.symm
                refine cont T2 H8 (Same.refl H8) ?_
                rw [er]
                exact ⟨_, SqT.of hT2, _, _, rfl, dsec, rfl⟩
              · have sU := Same.new nU (o := .tup (vs ++ [V.ref T1]))
                exact cont U _ sU ⟨_, SqT.of upd_same, DsAt_snoc (DAt_kt (KT.of sU) _ _ dsec) r vs (DsAt_kt (KT.of sU) r vs hvs8)⟩
            · rw [decide_eq_false h5]
              refine iteF ?_
              refine ⟨_, rfl, _, rfl, by show 3 ≤ sizeLine; decide, fun T3 n3 => ?_⟩
              have sT := Same.new n3 (o := .tup [V.str "while", .int (a : Nat), .ref q])
              obtain ⟨vs9, h91, h92⟩ := hr6.same sT
              refine k (.ref T3) (.wh a r) l1 _ (kc6.trans (KC.of sT)) (b6.same sT) (sT _ _ lf6) hl5 ⟨T3, q, vs9, rfl, SqT.of upd_same, ha, h91, h92⟩ (by rw [Dd.deep]; omega) (by rw [many_wh]; omega) hs5
          · rw [decide_eq_false w10]
            refine iteF ?_
            refine ⟨_, rfl, _, rfl, _, rfl, _, rfl, _, rfl, _, _, rfl, rfl, p, f, dp + 1, l1, rfl, b5, lf5, hpf, by omega, by omega, by omega, fun q2 r2 l2 H6 kc6 b6 lf6 hl6 hr6 hd6 hm6 hs6 => ?_⟩
            refine ⟨by show 4 ≤ sizeLine; decide, fun T3 n3 => ?_⟩
            have sT := Same.new n3 (o := .tup [V.str "if", .int (a : Nat), .ref q, .ref q2])
            obtain ⟨bx, hbx⟩ := b5.some
            obtain ⟨vs9, h91, h92⟩ := (hr5.kt (kc6.kt hbx lf5)).same sT
            obtain ⟨vs8, h81, h82⟩ := hr6.same sT
            refine k (.ref T3) (.iff a r r2) l2 _ ((kc45.trans kc6).trans (KC.of sT)) (b6.same sT) (sT _ _ lf6) (Nat.le_trans hl6 hl5) ⟨T3, q, vs9, q2, vs8, rfl, SqT.of upd_same, ha, h91, h92, h81, h82⟩ ?_ ?_ ⟨hs5, hs6⟩
            · rw [Dd.deep]
              have : max (deepR r) (deepR r2) ≤ m - 1 := Nat.max_le.mpr ⟨by omega, by omega⟩
              omega
            · rw [many_iff]
              omega
theorem scDs : FnScope ["_law_bag_here", "_law_left", "_law_deep", "_law_found", "_law_turn"] ["_law_bag_here", "_law_left", "_law_deep"] (defScope sDeeds) := ⟨rfl, rfl, rfl, by decide +kernel, rfl, by decide +kernel, by decide +kernel⟩
theorem ok_deedsS {f fe : Addr} {fd fde : FuncData} {m : Nat} (F : Fun K "_law_deeds" "_law_deeds" sDeeds f fd) (B : Blt mg) (G : FrmC K w mg) (DTk : Def P w K mg base "_law_take" 1 ["_law_bag_here", "_law_many"] spTake)
    (Gd : FnOk P w K mg base CX0 (2 * m + 5) fe fde ["_law_bag_here", "_law_left", "_law_deep"] (spDeed K C m)) (mgd : mg "_law_deed" = some (.ref fe)) (kd : PySem.W.keepIn K (.ref fe) = true) (bd : Binds K fde ["_law_bag_here", "_law_left", "_law_deep"] []) : FnOk P w K mg base CX0 (2 * m + 6) f fd ["_law_bag_here", "_law_left", "_law_deep"] (spDeeds K C (m + 1)) := by
  refine F.ok scDs (fun vs H Q E h => ?_) (fun cdv A outer s H vs Q E hr h => ?_)
  · obtain ⟨p, f, dp, l, rfl, _⟩ := h
    rfl
  · obtain ⟨p, f, dp, l, rfl, hb, hl, hpf, hdm, _, hll, k⟩ := h
    have hr1 : Room 1 _ := hr.mono (by omega)
    refine ⟨_, pss_cons (ps_set (i := 3) scDs.nd rfl (Or.inl rfl) (pe_lst pa_nil)) (pss_cons (ps_for PassesOwn.never rfl (pi_range1 rfl B.range (pa_cons (pe_def DTk hr1 rfl (pa_cons (pv 0) (pa_cons pe_int pa_nil))) pa_nil)) (pg_name (i := 4) scDs.nd rfl (Or.inl rfl)) (pss_one (ps_if (pt_cmpR op_gt (pe_ix (r := rIxL K) ix_list (pv 1) pe_int (fun _ _ => rfl)) pe_int (nomark _)) (pss_cons (ps_asg (pe_op op_sub (pe_ix (r := rIxL K) ix_list (pv 1) pe_int (fun _ _ => rfl)) pe_int) (pg_sub (pv 1) pe_int set_list)) (pss_one (ps_expr (pe_bm PySem.F.plainAttrs_list PySem.F.slot_list_append PySem.F.type_list_append mt_append (pv 3) (pa_cons (pe_call Gd hr rfl mgd kd bd .nil pass0 (pa_cons (pv 0) (pa_cons (pv 1) (pa_cons (pv 2) pa_nil)))) pa_nil))))) pss_nil))) (pss_one (ps_ret (pe_callTy call_tuple_of (by rfl) G.mt PyProof.Rows.boot_tuple (pa_cons (pv 3) pa_nil))))), ?_⟩
    have hsl := line4
    refine ⟨Nat.zero_le _, fun fl nfl => ?_⟩
    have s1 : Same H (upd H fl (.lst [])) := Same.new nfl
    have hfl1 : (upd H fl (.lst [])) fl = some (.lst []) := upd_same
    have hflp : fl ≠ p := fun z => by
      obtain ⟨bx, hbx⟩ := hb.some
      rw [z, hbx] at nfl
      cases nfl
    have hflf : fl ≠ f := fun z => by
      rw [z] at nfl
      have := nfl.symm.trans hl
      cases this
    revert s1 hfl1
    generalize upd H fl (.lst []) = H1
    intro s1 hfl1
    refine ⟨_, rfl, p, 6, rfl, hb.same s1, by decide, by decide, fun n6 H2 k2 b2 n0 n1 => ?_⟩
    have kc2 : KC p f H H2 := (KC.of s1).trans (KC.kb k2)
    refine ⟨n6, rfl, by omega, by omega, for_range (n := n6.toNat) (fun i σ H' => ∃ (x4 : Option V) (us : List V) (r : List Dd) (l' : Nat), σ = [some (.ref p), some (.ref f), some (.int (dp : Nat)), some (.ref fl), x4] ∧ KC p f H H' ∧ BagOk H' p ∧ Lf H' f l' ∧ l' ≤ l ∧ H' fl = some (.lst us) ∧ DsAt K C H' us r ∧ deepR r ≤ m ∧ manyR r ≤ 2 * (l - l') ∧ r.length ≤ i ∧ smR r)
      ⟨none, [], [], l, rfl, kc2, b2, k2 _ _ (Ne.symm hpf) (s1 _ _ hl), Nat.le_refl _, k2 _ _ hflp hfl1, rfl, Nat.zero_le _, by rw [many_nil]; omega, Nat.le_refl _, trivial⟩ ?_ ?_⟩
    · rintro i σ H3 hi ⟨x4, us, r, l1, rfl, kc3, b3, lf3, hl3, hfl3, hus, hdr, hmr, hri, hsm⟩
      refine ⟨_, rfl, f, _, _, _, rfl, rfl, SqL.of lf3, at0 _ _, _, _, rfl, rfl, _, rfl, ?_⟩
      by_cases h1 : 0 < l1
      · rw [decide_eq_true (show (0 : Int) < ((l1 : Nat) : Int) by omega)]
        refine iteT ?_
        refine ⟨_, rfl, f, _, _, _, rfl, rfl, SqL.of lf3, at0 _ _, _, _, rfl, rfl, _, rfl, f, _, _, 0, rfl, rfl, lf3, rfl, ?_⟩
        have e4 : [V.int ((l1 : Nat) : Int)].set 0 (V.int (((l1 : Nat) : Int) - 1)) = [V.int (((l1 - 1 : Nat)) : Int)] := by
          rw [show (((l1 - 1 : Nat)) : Int) = ((l1 : Nat) : Int) - 1 by omega]
          rfl
        rw [e4]
        have lf4 : Lf (upd H3 f (.lst [V.int (((l1 - 1 : Nat)) : Int)])) f (l1 - 1) := upd_same
        have kc4 : KC p f H3 (upd H3 f (.lst [V.int (((l1 - 1 : Nat)) : Int)])) := KC.set
        obtain ⟨bx, hbx⟩ := b3.some
        have kt4 : KT H3 (upd H3 f (.lst [V.int (((l1 - 1 : Nat)) : Int)])) := kc4.kt hbx lf3
        have b4 : BagOk (upd H3 f (.lst [V.int (((l1 - 1 : Nat)) : Int)])) p := by
          obtain ⟨x0, x1', pr, x3', hx, rest⟩ := b3.ex
          exact ⟨⟨x0, x1', pr, x3', by rw [upd_ne hpf]; exact hx, rest⟩⟩
        have hfl4 : (upd H3 f (.lst [V.int (((l1 - 1 : Nat)) : Int)])) fl = some (.lst us) := by rw [upd_ne hflf]; exact hfl3
        revert lf4 kc4 kt4 b4 hfl4
        generalize upd H3 f (.lst [V.int (((l1 - 1 : Nat)) : Int)]) = H4
        intro lf4 kc4 kt4 b4 hfl4
        refine ⟨_, rfl, .inl ⟨rfl, _, SqL.of hfl4⟩, _, rfl, _, rfl, _, rfl, p, f, dp, l1 - 1, rfl, b4, lf4, hpf, by omega, by omega, fun v d l2 H5 kc5 b5 lf5 hl5 hdv hdd hdm2 hds => ?_⟩
        have hfl5 := kc5 _ _ hflp hflf hfl4
        have lus := DsAt.length r us hus
        refine ⟨fl, _, _, rfl, rfl, hfl5, by omega, ?_⟩
        obtain ⟨by_, hby⟩ := b4.some
        have kt5 : KT H4 H5 := kc5.kt hby lf4
        have kt6 : KT H5 (upd H5 fl (.lst (us ++ [v]))) := KT.lst hfl5
        refine ⟨_, us ++ [v], r ++ [d], l2, rfl, fun a o na nf ha => ?_, ?_, ?_, by omega, upd_same, DsAt_snoc (DAt_kt kt6 d v hdv) r us (DsAt_kt kt6 r us (DsAt_kt kt5 r us (DsAt_kt kt4 r us hus))), ?_, ?_, (by rw [List.length_append]; simp only [List.length_cons, List.length_nil]; omega), smR_app r [d] hsm ⟨hds, trivial⟩⟩
        · rw [upd_ne (ne_of_none ha nfl)]
          exact kc5 _ _ na nf (kc4 _ _ na nf (kc3 _ _ na nf ha))
        · obtain ⟨x0, x1', pr, x3', hx, rest⟩ := b5.ex
          exact ⟨⟨x0, x1', pr, x3', by rw [upd_ne (Ne.symm hflp)]; exact hx, rest⟩⟩
        · show (upd H5 fl (.lst (us ++ [v]))) f = _
          rw [upd_ne (Ne.symm hflf)]
          exact lf5
        · rw [deepR_app, deepR_one]
          exact Nat.max_le.mpr ⟨hdr, hdd⟩
        · rw [manyR_app, manyR_one]
          omega
      · rw [decide_eq_false (show ¬ (0 : Int) < ((l1 : Nat) : Int) by omega)]
        refine iteF ?_
        exact ⟨_, us, r, l1, rfl, kc3, b3, lf3, hl3, hfl3, hus, hdr, hmr, by omega, hsm⟩
    · rintro σ H3 ⟨x4, us, r, l1, rfl, kc3, b3, lf3, hl3, hfl3, hus, hdr, hmr, hri, hsm⟩
      refine ⟨_, rfl, fl, _, rfl, .inl ⟨SqL.of hfl3, fun q nq => ?_⟩⟩
      have sq := Same.new nq (o := .tup us)
      exact k q r l1 _ (kc3.trans (KC.of sq)) (b3.same sq) (sq _ _ lf3) hl3 ⟨us, SqT.of upd_same, DsAt_kt (KT.of sq) r us hus⟩ (by omega) hmr hsm
theorem ok_deeds0 {f : Addr} {fd : FuncData} (F : Fun K "_law_deeds" "_law_deeds" sDeeds f fd) : FnOk P w K mg base CX0 4 f fd ["_law_bag_here", "_law_left", "_law_deep"] (spDeeds K C 0) := by
  refine F.ok scDs (fun vs H Q E h => ?_) (fun cdv A outer s H vs Q E hr h => ?_)
  · obtain ⟨p, f, dp, l, rfl, _⟩ := h
    rfl
  · obtain ⟨p, f, dp, l, _, _, _, _, _, h, _⟩ := h
    exact absurd h (Nat.not_succ_le_zero _)
theorem ok_deeds {f fe : Addr} {fd fde : FuncData} (F : Fun K "_law_deeds" "_law_deeds" sDeeds f fd) (Fe : Fun K "_law_deed" "_law_deed" sDeed fe fde) (B : Blt mg) (G : FrmC K w mg) (DTk : Def P w K mg base "_law_take" 1 ["_law_bag_here", "_law_many"] spTake) (DNm : Def P w K mg base "_law_name" 2 ["_law_bag_here"] spName) (DTh : Def P w K mg base "_law_thing" 4 ["_law_bag_here", "_law_many"] (spThing C))
    (mgf : mg "_law_deeds" = some (.ref f)) (bf : Binds K fd ["_law_bag_here", "_law_left", "_law_deep"] []) (mge : mg "_law_deed" = some (.ref fe)) (be : Binds K fde ["_law_bag_here", "_law_left", "_law_deep"] []) : ∀ m, FnOk P w K mg base CX0 (2 * m + 4) f fd ["_law_bag_here", "_law_left", "_law_deep"] (spDeeds K C m)
  | 0 => ok_deeds0 F
  | m + 1 => ok_deedsS F B G DTk (ok_deed Fe B DTk DNm DTh (ok_deeds F Fe B G DTk DNm DTh mgf bf mge be m) mgf F.kp bf) mge Fe.kp be
def spTop (K : PySem.W.Frag) (C : Addr) : Sp := fun vs H Q _ => ∃ (p : Addr) (n : Nat), vs = [.ref p, .int (n : Nat)] ∧ BagOk H p ∧ n ≤ 1000 ∧ ∀ q r H', KB p H H' → BagOk H' p → RAt K C H' q r → deepR r ≤ 4 → manyR r ≤ 2 * n → smR r → Q (.ref q) H'
theorem scTo : FnScope ["_law_bag_here", "_law_many", "_law_left"] ["_law_bag_here", "_law_many"] (defScope sTop) := ⟨rfl, rfl, rfl, by decide +kernel, rfl, by decide +kernel, by decide +kernel⟩
theorem ok_top {f : Addr} {fd : FuncData} (F : Fun K "_law_top" "_law_top" sTop f fd) (DDs : Def P w K mg base "_law_deeds" 14 ["_law_bag_here", "_law_left", "_law_deep"] (spDeeds K C 5)) : FnOk P w K mg base CX0 15 f fd ["_law_bag_here", "_law_many"] (spTop K C) := by
  refine F.ok scTo (fun vs H Q E h => ?_) (fun cdv A outer s H vs Q E hr h => ?_)
  · obtain ⟨p, n, rfl, _⟩ := h
    rfl
  · obtain ⟨p, n, rfl, hb, hn, k⟩ := h
    refine ⟨_, pss_cons (ps_set (i := 2) scTo.nd rfl (Or.inl rfl) (pe_lst (pa_cons (pv 1) pa_nil))) (pss_one (ps_ret (pe_op op_catA (pe_def (k := 14) DDs hr rfl (pa_cons (pv 0) (pa_cons (pv 2) (pa_cons pe_int pa_nil)))) (pe_def (k := 14) DDs hr rfl (pa_cons (pv 0) (pa_cons (pv 2) (pa_cons pe_int pa_nil))))))), ?_⟩
    have hsl := line4
    refine ⟨_, rfl, by show 1 ≤ sizeLine; decide, fun f nf => ?_⟩
    have hpf : p ≠ f := fun z => by
      obtain ⟨bx, hbx⟩ := hb.some
      rw [← z, hbx] at nf
      cases nf
    have s1 : Same H (upd H f (.lst [.int (n : Nat)])) := Same.new nf
    have l1 : Lf (upd H f (.lst [.int (n : Nat)])) f n := upd_same
    revert s1 l1
    generalize upd H f (.lst [.int (n : Nat)]) = H1
    intro s1 l1
    refine ⟨_, rfl, _, rfl, p, f, 1, n, rfl, hb.same s1, l1, hpf, rfl, by decide, hn, fun q r m1 H2 kc2 b2 l2 hl2 hr2 hd2 hm2 hs2 => ?_⟩
    refine ⟨_, rfl, _, rfl, p, f, 1, m1, rfl, b2, l2, hpf, rfl, by decide, by omega, fun q2 r2 m2 H3 kc3 b3 l3 hl3 hr3 hd3 hm3 hs3 => ?_⟩
    obtain ⟨bx, hbx⟩ := b2.some
    obtain ⟨vs, h1, h2⟩ := hr2.kt (kc3.kt hbx l2)
    obtain ⟨us, g1, g2⟩ := hr3
    have kb3 : KB p H H3 := fun a o na ha => kc3 _ _ na (ne_of_none ha nf) (kc2 _ _ na (ne_of_none ha nf) (s1 _ _ ha))
    have lv := DsAt.length r vs h2
    have lu := DsAt.length r2 us g2
    have lr := len_many r
    have lr2 := len_many r2
    have hdd : deepR (r ++ r2) ≤ 4 := by
      rw [deepR_app]
      exact Nat.max_le.mpr ⟨by omega, by omega⟩
    have hmm : manyR (r ++ r2) ≤ 2 * n := by
      rw [manyR_app]
      omega
    refine ⟨q, q2, vs, us, rfl, rfl, h1, g1, by omega, fun e0 => ?_, fun _ e1 => ?_, fun _ _ U nU => ?_⟩
    · subst e0
      have er : r = [] := List.length_eq_zero_iff.mp lv.symm
      subst er
      exact k q2 r2 H3 kb3 b3 ⟨us, g1, g2⟩ (by simpa using hdd) (by simpa using hmm) hs3
    · subst e1
      have er : r2 = [] := List.length_eq_zero_iff.mp lu.symm
      subst er
      exact k q r H3 kb3 b3 ⟨vs, h1, h2⟩ (by simpa using hdd) (by simpa using hmm) hs2
    · have sU := Same.new nU (o := .tup (vs ++ us))
      exact k U (r ++ r2) _ (kb3.trans (KB.of sU)) (b3.same sU) ⟨_, SqT.of upd_same, DsAt_app r r2 vs us (DsAt_kt (KT.of sU) r vs h2) (DsAt_kt (KT.of sU) r2 us g2)⟩ hdd hmm (smR_app r r2 hs2 hs3)
end
end Js

set_option Elab.async false
set_option linter.all false
set_option maxRecDepth 100000
set_option maxHeartbeats 2000000
namespace Js
open PySem L2
section
variable {X : Cx} {C : Addr}
/-- a row behind a row -/
theorem op_catR : OpR X (binaryOp .Add) (fun x y H Q => ∃ q q2 r u, x = .ref q ∧ y = .ref q2 ∧ RAt X.K C H q r ∧ RAt X.K C H q2 u ∧ r.length + u.length ≤ 100000 ∧ ∀ q' H', Same H H' → RAt X.K C H' q' (r ++ u) → Q (.ref q') H') :=
  OpR.imp op_catA fun x y H Q h => by
    obtain ⟨q, q2, r, u, rfl, rfl, ⟨vs, h1, h2⟩, ⟨us, g1, g2⟩, hl, k⟩ := h
    have lv := DsAt.length r vs h2
    have lu := DsAt.length u us g2
    have hsl := line4
    refine ⟨q, q2, vs, us, rfl, rfl, h1, g1, by omega, fun e0 => ?_, fun _ e1 => ?_, fun _ _ U nU => ?_⟩
    · subst e0
      have er : r = [] := List.length_eq_zero_iff.mp lv.symm
      subst er
      exact k q2 H (Same.refl H) ⟨us, g1, g2⟩
    · subst e1
      have er : u = [] := List.length_eq_zero_iff.mp lu.symm
      subst er
      exact k q H (Same.refl H) (by rw [List.append_nil]; exact ⟨vs, h1, h2⟩)
    · have sU := Same.new nU (o := .tup (vs ++ us))
      exact k U _ sU ⟨_, SqT.of upd_same, DsAt_app r u vs us (DsAt_kt (KT.of sU) r vs h2) (DsAt_kt (KT.of sU) u us g2)⟩
end
end Js

set_option Elab.async false
set_option linter.all false
set_option maxRecDepth 100000
set_option maxHeartbeats 2000000
/-! the first deeds of a row, and the rest of it -/
namespace Js
open PySem PySem.Spec PyProof.Rows L2
theorem DsAt_tkP {K : PySem.W.Frag} {C : Addr} {H : Hp} : ∀ (n : Nat) (r : List Dd) (vs : List V), DsAt K C H vs r → DsAt K C H (vs.take n) (r.take n)
  | 0, r, vs, _ => by rw [List.take_zero, List.take_zero]; rfl
  | n + 1, [], vs, h => by
    have e : vs = [] := h
    subst e
    rfl
  | n + 1, d :: r, vs, h => by
    obtain ⟨v, us, rfl, h1, h2⟩ := h
    exact ⟨v, us.take n, rfl, h1, DsAt_tkP n r us h2⟩
theorem DsAt_drP {K : PySem.W.Frag} {C : Addr} {H : Hp} : ∀ (n : Nat) (r : List Dd) (vs : List V), DsAt K C H vs r → DsAt K C H (vs.drop n) (r.drop n)
  | 0, r, vs, h => by rw [List.drop_zero, List.drop_zero]; exact h
  | n + 1, [], vs, h => by
    have e : vs = [] := h
    subst e
    rfl
  | n + 1, d :: r, vs, h => by
    obtain ⟨v, us, rfl, h1, h2⟩ := h
    exact DsAt_drP n r us h2
theorem tk_leP : ∀ (n : Nat) (r : List Dd), deepR (r.take n) ≤ deepR r ∧ manyR (r.take n) ≤ manyR r
  | 0, r => by rw [List.take_zero, deepR, many_nil]; exact ⟨Nat.zero_le _, Nat.zero_le _⟩
  | n + 1, [] => ⟨Nat.le_refl _, Nat.le_refl _⟩
  | n + 1, d :: r => by
    have h := tk_leP n r
    rw [List.take_succ_cons, deepR, deepR, many_cons, many_cons]
    omega
theorem dr_leP : ∀ (n : Nat) (r : List Dd), deepR (r.drop n) ≤ deepR r ∧ manyR (r.take n) + manyR (r.drop n) = manyR r
  | 0, r => by rw [List.take_zero, List.drop_zero, many_nil]; exact ⟨Nat.le_refl _, by omega⟩
  | n + 1, [] => ⟨Nat.le_refl _, rfl⟩
  | n + 1, d :: r => by
    have h := dr_leP n r
    rw [List.take_succ_cons, List.drop_succ_cons, deepR, many_cons, many_cons]
    omega
theorem dr_leP1 : ∀ (n : Nat) (r : List Dd), manyR (r.drop (n + 1)) ≤ manyR (r.drop n)
  | 0, [] => Nat.le_refl _
  | 0, d :: r => by rw [List.drop_succ_cons, List.drop_zero, List.drop_zero, many_cons]; omega
  | n + 1, [] => Nat.le_refl _
  | n + 1, d :: r => by rw [List.drop_succ_cons, List.drop_succ_cons]; exact dr_leP1 n r
section
variable {X : Cx} {C : Addr}
/-- r[:n] -/
theorem sl_tkP : SlR X (fun x lo hi H Q => ∃ q r, ∃ n : Nat, x = .ref q ∧ lo = none ∧ hi = some (n : Int) ∧ RAt X.K C H q r ∧ ∀ q' H', Same H H' → RAt X.K C H' q' (r.take n) → Q (.ref q') H') := by
  intro pins s σ H x v vl vu lo hi sl Q I rx hs pl pu h
  obtain ⟨q, r, n, rfl, rfl, rfl, ⟨vs, h1, h2⟩, k⟩ := h
  have lv := DsAt.length r vs h2
  have eh : HT.sIx vs.length vs.length (some (n : Int)) = min n vs.length := HT.sIx_nat _ _ _
  refine sl_tupA pins s σ H _ v vl vu _ _ sl Q I rx hs pl pu ⟨q, vs, rfl, h1, fun hw => ?_, fun _ p np => ?_⟩
  · rw [eh] at hw
    refine k q H (Same.refl H) ?_
    rw [List.take_of_length_le (by omega)]
    exact ⟨vs, h1, h2⟩
  · have sn := Same.new np (o := .tup (cutV vs none (some (n : Int))))
    refine k p _ sn ⟨_, SqT.of upd_same, ?_⟩
    have ec : cutV vs none (some (n : Int)) = vs.take n := by
      unfold cutV
      rw [eh, HT.sIx_none, Nat.sub_zero, List.drop_zero, List.take_eq_take_iff]
      omega
    rw [ec] at sn ⊢
    exact DsAt_kt (KT.of sn) _ _ (DsAt_tkP n r vs h2)
/-- r[n:] -/
theorem sl_drP : SlR X (fun x lo hi H Q => ∃ q r, ∃ n : Nat, x = .ref q ∧ lo = some (n : Int) ∧ hi = none ∧ RAt X.K C H q r ∧ ∀ q' H', Same H H' → RAt X.K C H' q' (r.drop n) → Q (.ref q') H') := by
  intro pins s σ H x v vl vu lo hi sl Q I rx hs pl pu h
  obtain ⟨q, r, n, rfl, rfl, rfl, ⟨vs, h1, h2⟩, k⟩ := h
  have lv := DsAt.length r vs h2
  have eh : HT.sIx vs.length 0 (some (n : Int)) = min n vs.length := HT.sIx_nat _ _ _
  refine sl_tupA pins s σ H _ v vl vu _ _ sl Q I rx hs pl pu ⟨q, vs, rfl, h1, fun hw => ?_, fun _ p np => ?_⟩
  · rw [eh] at hw
    refine k q H (Same.refl H) ?_
    by_cases hn : n = 0
    · rw [hn, List.drop_zero]
      exact ⟨vs, h1, h2⟩
    · have hx : vs.length = 0 := by omega
      have e1 : vs = [] := List.length_eq_zero_iff.mp hx
      have e2 : r = [] := List.length_eq_zero_iff.mp (by omega)
      subst e2
      rw [List.drop_nil]
      exact ⟨vs, h1, h2⟩
  · have sn := Same.new np (o := .tup (cutV vs (some (n : Int)) none))
    refine k p _ sn ⟨_, SqT.of upd_same, ?_⟩
    have ec : cutV vs (some (n : Int)) none = vs.drop n := by
      unfold cutV
      rw [eh, HT.sIx_none]
      by_cases hn : n ≤ vs.length
      · rw [Nat.min_eq_left hn, List.take_of_length_le (by rw [List.length_drop]; omega)]
      · rw [Nat.min_eq_right (by omega), List.drop_of_length_le (Nat.le_refl _), List.drop_of_length_le (by omega), List.take_nil]
    rw [ec] at sn ⊢
    exact DsAt_kt (KT.of sn) _ _ (DsAt_drP n r vs h2)
end
end Js

set_option Elab.async false
set_option linter.all false
set_option maxRecDepth 100000
set_option maxHeartbeats 2000000
namespace Js
open PySem L2
open PySem.Spec PyProof.Rows
abbrev sOne : Stmt := top 74
abbrev sTwo : Stmt := top 75
abbrev sLike : Stmt := top 76
theorem sz_pr3 (a b : Tr) : (Tr.pr a b).size = 1 + a.size + b.size := rfl
mutual
theorem code_sizeB : ∀ d : Dd, d.ok → d.sm → d.code.size + 1 ≤ 36 * d.many
  | .told a t, h, s => by
    have h1 := h.1
    have h2 : t.size ≤ 3 := s
    rw [Dd.code, many_told]
    show 1 + (num 0).size + (1 + (num a).size + (1 + t.size + 0)) + 1 ≤ 36 * 1
    rw [num_size, num_size]
    omega
  | .take b x y, h, _ => by
    have h1 := h.1
    have h2 := h.2
    rw [Dd.code, many_take]
    show 1 + (num (if b then 2 else 1)).size + (1 + (num x).size + (1 + (num y).size + 0)) + 1 ≤ 36 * 1
    rw [num_size, num_size, num_size]
    cases b <;> simp <;> omega
  | .two b x y z, h, _ => by
    have h1 := h.1
    have h2 := h.2.1
    have h3 := h.2.2
    rw [Dd.code, many_two]
    show 1 + (num (if b then 4 else 3)).size + (1 + (num x).size + (1 + (num y).size + (1 + (num z).size + 0))) + 1 ≤ 36 * 1
    rw [num_size, num_size, num_size, num_size]
    cases b <;> simp <;> omega
  | .wh a r, h, s => by
    have h1 := h.1
    have h2 := codeR_sizeB r h.2 s
    rw [Dd.code, many_wh]
    show 1 + (num 5).size + (1 + (num a).size + (1 + (codeR r).size + 0)) + 1 ≤ 36 * (manyR r + 1)
    rw [num_size, num_size]
    omega
  | .iff a r o, h, s => by
    have h1 := h.1
    have h2 := codeR_sizeB r h.2.1 s.1
    have h3 := codeR_sizeB o h.2.2 s.2
    rw [Dd.code, many_iff]
    show 1 + (num 6).size + (1 + (num a).size + (1 + (codeR r).size + (1 + (codeR o).size + 0))) + 1 ≤ 36 * (manyR r + manyR o + 1)
    rw [num_size, num_size]
    omega
theorem codeR_sizeB : ∀ r : List Dd, okR r → smR r → (codeR r).size ≤ 36 * manyR r
  | [], _, _ => by rw [codeR]; exact Nat.zero_le _
  | d :: r, h, s => by
    have h1 := code_sizeB d h.1 s.1
    have h2 := codeR_sizeB r h.2 s.2
    rw [codeR, many_cons, sz_pr3]
    omega
end
theorem smR_dr : ∀ (n : Nat) (a : List Dd), smR a → smR (a.drop n)
  | 0, a, h => by rw [List.drop_zero]; exact h
  | n + 1, [], _ => trivial
  | n + 1, d :: a, h => smR_dr n a h.2
/-- a program that fits the law: of few deeds, small ones -/
structure PgS (K : PySem.W.Frag) (C CP : Addr) (H : Hp) (a : Addr) (r : List Dd) : Prop where
  at_ : PgAt K C CP H a r
  mn : manyR r ≤ 90
  sm : smR r
theorem PgS.same {K : PySem.W.Frag} {C CP : Addr} {H H' : Hp} (s : Same H H') {a : Addr} {r : List Dd} (h : PgS K C CP H a r) : PgS K C CP H' a r := ⟨h.at_.same s, h.mn, h.sm⟩
theorem PgS.csz {K : PySem.W.Frag} {C CP : Addr} {H : Hp} {a : Addr} {r : List Dd} (h : PgS K C CP H a r) : (codeR r).size ≤ 36 * manyR r := codeR_sizeB r h.at_.okr h.sm
theorem PgS.big {K : PySem.W.Frag} {C CP : Addr} {H : Hp} {a : Addr} {r : List Dd} (h : PgS K C CP H a r) : (txC r).length ≤ 12100 * manyR r := by
  obtain ⟨_, q, _, _, _, h2, _⟩ := h.at_.ex
  exact h2.big
theorem textR_le (r : List Dd) : (textR r).length ≤ (txC r).length := by
  rw [textR_tx, tx_len, List.length_dropLast]
  omega
theorem at1k (x y : V) (xs : List V) : atI (x :: y :: xs) 1 = some y := by
  have h : atI (x :: y :: xs) ((1 : Nat) : Int) = some y := atI_nat rfl
  exact h
def spOne (K : PySem.W.Frag) (C CP : Addr) : Sp := fun vs H Q _ => ∃ a r, vs = [.ref a] ∧ PgS K C CP H a r ∧ ∀ H', Same H H' → Q (.bl true) H'
def spTwo (K : PySem.W.Frag) (C CP : Addr) : Sp := fun vs H Q _ => ∃ a b r u, vs = [.ref a, .ref b] ∧ PgS K C CP H a r ∧ PgS K C CP H b u ∧ manyR r + manyR u ≤ 90 ∧ ∀ H', Same H H' → Q (.bl true) H'
def spLike (K : PySem.W.Frag) (C : Addr) : Sp := fun vs H Q _ => ∃ p q r, vs = [.ref p, .ref q] ∧ BagOk H p ∧ RAt K C H q r ∧ manyR r ≤ 80 ∧ smR r ∧ ∀ q' r' H', KB p H H' → BagOk H' p → RAt K C H' q' r' → deepR r' ≤ deepR r → manyR r' ≤ manyR r + 1 → smR r' → Q (.ref q') H'
theorem rowT_app (a b : List Tr) : (rowT (a ++ b)).size = (rowT a).size + (rowT b).size := by
  induction a with
  | nil => rw [List.nil_append]; show _ = 0 + _; omega
  | cons x a ih =>
    rw [List.cons_append]
    show 1 + x.size + (rowT (a ++ b)).size = 1 + x.size + (rowT a).size + _
    rw [ih]
    omega
section
variable {P : Program} {w : World} {K : PySem.W.Frag} {mg : Str → Option Value} {base : Heap} {C CP CR fI fP : Addr} {fdI fdP : FuncData}
theorem scLone : FnScope ["_law_program", "_law_code", "_law_text"] ["_law_program"] (defScope sOne) := ⟨rfl, rfl, rfl, by decide +kernel, rfl, by decide +kernel, by decide +kernel⟩
theorem scLtwo : FnScope ["_law_one_here", "_law_other", "_law_alike", "_law_both"] ["_law_one_here", "_law_other"] (defScope sTwo) := ⟨rfl, rfl, rfl, by decide +kernel, rfl, by decide +kernel, by decide +kernel⟩
theorem scLlike : FnScope ["_law_bag_here", "_law_deeds_here", "_law_at", "_law_deed_here"] ["_law_bag_here", "_law_deeds_here"] (defScope sLike) := ⟨rfl, rfl, rfl, by decide +kernel, rfl, by decide +kernel, by decide +kernel⟩
theorem ok_one {f : Addr} {fd : FuncData} (F : Fun K "_law_one" "_law_one" sOne f fd) (B : Blt mg) (T : Txt K mg C) (TP : TxtP K mg CP) (SE : Spc P w K mg base C "__eq__" 2 ["self", "other"] (spEqT C)) (SPE : Spc P w K mg base CP "__eq__" 21 ["self", "other"] (spPEq K C CP)) (SPS : Spc P w K mg base CP "__str__" 24 ["self"] (spPStr K C CP))
    (DCo : Def P w K mg base "code_of" 33 ["program"] (spCodeOf K C CP)) (DPo : Def P w K mg base "program_of" 34 ["thing"] (spProgOf K C CP)) (DIc : Def P w K mg base "is_code" 35 ["thing"] (spIsCode C)) (DRp : Def P w K mg base "read_program" 35 ["text"] (spRdP K C CP)) : FnOk P w K mg base CX0 36 f fd ["_law_program"] (spOne K C CP) := by
  refine F.ok scLone (fun vs H Q E h => ?_) (fun cdv A outer s H vs Q E hr h => ?_)
  · obtain ⟨a, r, rfl, _⟩ := h
    rfl
  · obtain ⟨a, r, rfl, hp, k⟩ := h
    have hr2 : Room 2 _ := hr.mono (by decide)
    have hr22 : Room 22 _ := hr.mono (by decide)
    have hr26 : Room 26 _ := hr.mono (by decide)
    have hr33 : Room 33 _ := hr.mono (by decide)
    have hr34 : Room 34 _ := hr.mono (by decide)
    have hr35 : Room 35 _ := hr
    refine ⟨_, pss_cons (ps_par (i := 1) (j := 2) (by rfl) scLone.nd rfl rfl (by decide) rfl rfl (pa_cons (pe_def DCo hr33 rfl (pa_cons (pv 0) pa_nil)) (pa_cons (pe_callTy (call_strP SPS hr26) (by rfl) B.str PyProof.Rows.boot_str (pa_cons (pv 0) pa_nil)) pa_nil)) (by rfl)) (pss_cons (ps_if (PW.pt (pw_or (pt_cmpR (op_neP SPE TP hr22) (pe_def DPo hr34 rfl (pa_cons (pv 1) pa_nil)) (pv 0) (nomark _)) (pw_or (pt_cmpR (op_neP SPE TP hr22) (pe_def DRp hr35 rfl (pa_cons (pv 2) pa_nil)) (pv 0) (nomark _)) (pw_or1 (pt_not (pt_val (pe_def DIc hr35 rfl (pa_cons (pv 1) pa_nil)))))))) (pss_one (ps_ret pe_bl)) pss_nil) (pss_one (ps_ret (pe_and (pe_cmpR op_eq (pe_callTy (call_strP SPS hr26) (by rfl) B.str PyProof.Rows.boot_str (pa_cons (pe_def DPo hr34 rfl (pa_cons (pv 1) pa_nil)) pa_nil)) (pv 2) (nomark _)) (pe_one (pe_cmpR (op_eqT SE hr2) (pe_def DCo hr33 rfl (pa_cons (pe_def DRp hr35 rfl (pa_cons (pv 2) pa_nil)) pa_nil)) (pv 1) (nomark _))))))), ?_⟩
    have hcz := hp.csz
    have hmn := hp.mn
    have hbg := hp.big
    have htl := textR_le r
    have hsm := sumR_eq r
    have hok := hp.at_.okr
    have hdp := hp.at_.dp
    have ha := hp.at_
    refine ⟨_, rfl, a, r, rfl, ha, by omega, fun c H1 s1 hc => ?_⟩
    refine ⟨_, rfl, a, r, rfl, ha.same s1, by omega, fun H2 s2 => ?_⟩
    have hc2 := hc.same s2
    have s02 := s1.trans s2
    refine ⟨_, _, rfl, _, rfl, c, r, rfl, hc2, hok, hdp, by omega, by omega, fun z H3 s3 nz hz => ?_⟩
    refine ⟨_, rfl, decide (r = r), ⟨z, a, r, r, rfl, rfl, hz, (ha.same s02).same s3, rfl⟩, fun H4 s4 => ⟨_, rfl, ?_⟩⟩
    rw [decide_eq_true rfl]
    refine iteF ?_
    have s04 := (s02.trans s3).trans s4
    refine ⟨_, rfl, r, rfl, hok, hdp, by omega, by omega, fun z5 H5 s5 nz5 hz5 => ?_⟩
    refine ⟨_, rfl, decide (r = r), ⟨z5, a, r, r, rfl, rfl, hz5, (ha.same s04).same s5, rfl⟩, fun H6 s6 => ⟨_, rfl, ?_⟩⟩
    rw [decide_eq_true rfl]
    refine iteF ?_
    have s26 := ((s3.trans s4).trans s5).trans s6
    refine ⟨_, rfl, c, r, rfl, hc2.same s26, hok, hdp, by omega, by omega, fun H7 s7 => ⟨_, rfl, iteF ?_⟩⟩
    have hc7 := (hc2.same s26).same s7
    refine ⟨_, rfl, c, r, rfl, hc7, hok, hdp, by omega, by omega, fun z8 H8 s8 nz8 hz8 => ?_⟩
    refine ⟨z8, r, rfl, hz8, by omega, fun H9 s9 => ⟨_, rfl, rfl, _, rfl, ?_⟩⟩
    rw [decide_eq_true rfl]
    refine iteT ?_
    refine ⟨_, rfl, r, rfl, hok, hdp, by omega, by omega, fun zA HA sA nzA hzA => ?_⟩
    refine ⟨zA, r, rfl, hzA, by omega, fun cB HB sB hcB => ?_⟩
    refine ⟨_, rfl, cB, c, _, _, rfl, rfl, hcB, (((hc7.same s8).same s9).same sA).same sB, by omega, fun HC sC => ?_⟩
    rw [decide_eq_true rfl]
    exact k HC (((((((s02.trans s26).trans s7).trans s8).trans s9).trans sA).trans sB).trans sC)
theorem ok_two {f : Addr} {fd : FuncData} (F : Fun K "_law_two" "_law_two" sTwo f fd) (B : Blt mg) (T : Txt K mg C) (TP : TxtP K mg CP) (SE : Spc P w K mg base C "__eq__" 2 ["self", "other"] (spEqT C)) (SPE : Spc P w K mg base CP "__eq__" 21 ["self", "other"] (spPEq K C CP)) (SPS : Spc P w K mg base CP "__str__" 24 ["self"] (spPStr K C CP)) (SPL : Spc P w K mg base CP "__len__" 1 ["self"] (spPLen K C CP)) (MP : MakerP P w K mg base C CP fP fdP)
    (DCo : Def P w K mg base "code_of" 33 ["program"] (spCodeOf K C CP)) (DRo : Def P w K mg base "row" 4 ["things"] (spRow C)) (DPa : Def P w K mg base "parts" 1 ["thing"] (spParts C)) : FnOk P w K mg base CX0 36 f fd ["_law_one_here", "_law_other"] (spTwo K C CP) := by
  refine F.ok scLtwo (fun vs H Q E h => ?_) (fun cdv A outer s H vs Q E hr h => ?_)
  · obtain ⟨a, b, r, u, rfl, _⟩ := h
    rfl
  · obtain ⟨a, b, r, u, rfl, hp, hq, hmm, k⟩ := h
    have hr1 : Room 1 _ := hr.mono (by decide)
    have hr2 : Room 2 _ := hr.mono (by decide)
    have hr4 : Room 4 _ := hr.mono (by decide)
    have hr15 : Room 15 _ := hr.mono (by decide)
    have hr20 : Room 20 _ := hr.mono (by decide)
    have hr21 : Room 21 _ := hr.mono (by decide)
    have hr26 : Room 26 _ := hr.mono (by decide)
    have hr33 : Room 33 _ := hr.mono (by decide)
    refine ⟨_, pss_cons (ps_set (i := 2) scLtwo.nd rfl (Or.inl rfl) (pe_cmpR (op_eqTl (eqT_rows SE 9).2.1 hr20) (pe_fld (pv 0) rfl) (pe_fld (pv 1) rfl) (nomark _))) (pss_cons (ps_if (PW.pt (pw_or (pt_cmpR op_ne (pe_cmpR (op_eqTl (rcT_P SPE) hr21) (pv 0) (pv 1) (nomark _)) (pv 2) (nomark _)) (pw_or (pt_cmpR op_ne (pe_cmpR (op_eqT SE hr2) (pe_def DCo hr33 rfl (pa_cons (pv 0) pa_nil)) (pe_def DCo hr33 rfl (pa_cons (pv 1) pa_nil)) (nomark _)) (pv 2) (nomark _)) (pw_or1 (pt_cmpR op_ne (pe_cmpR op_eq (pe_callTy (call_strP SPS hr26) (by rfl) B.str PyProof.Rows.boot_str (pa_cons (pv 0) pa_nil)) (pe_callTy (call_strP SPS hr26) (by rfl) B.str PyProof.Rows.boot_str (pa_cons (pv 1) pa_nil)) (nomark _)) (pv 2) (nomark _)))))) (pss_one (ps_ret pe_bl)) pss_nil) (pss_cons (ps_set (i := 3) scLtwo.nd rfl (Or.inl rfl) (pe_P MP hr15 rfl (pa_cons (pe_op (op_catR (C := C)) (pe_fld (pv 0) rfl) (pe_fld (pv 1) rfl)) pa_nil))) (pss_one (ps_ret (pe_and (pe_cmpR (op_eqT SE hr2) (pe_def DCo hr33 rfl (pa_cons (pv 3) pa_nil)) (pe_def DRo hr4 rfl (pa_cons (pe_op op_cat (pe_def DPa hr1 rfl (pa_cons (pe_def DCo hr33 rfl (pa_cons (pv 0) pa_nil)) pa_nil)) (pe_def DPa hr1 rfl (pa_cons (pe_def DCo hr33 rfl (pa_cons (pv 1) pa_nil)) pa_nil))) pa_nil)) (nomark _)) (pe_one (pe_cmpR op_eq (pe_callB (call_lenP SPL hr2) (by rfl) B.len PySem.boot_len (pa_cons (pv 3) pa_nil)) (pe_op op_add (pe_callB (call_lenP SPL hr2) (by rfl) B.len PySem.boot_len (pa_cons (pv 0) pa_nil)) (pe_callB (call_lenP SPL hr2) (by rfl) B.len PySem.boot_len (pa_cons (pv 1) pa_nil))) (nomark _)))))))), ?_⟩
    have hsl := line4
    have hcz := hp.csz
    have hmn := hp.mn
    have hbg := hp.big
    have htl := textR_le r
    have hsm := sumR_eq r
    have hok := hp.at_.okr
    have hdp := hp.at_.dp
    have ha := hp.at_
    have hcz' := hq.csz
    have hmn' := hq.mn
    have hbg' := hq.big
    have hsm' := sumR_eq u
    have hok' := hq.at_.okr
    have hdp' := hq.at_.dp
    have hb := hq.at_
    obtain ⟨dx, qa, pl, ys, h1, h2, h3, h4⟩ := ha.ex
    obtain ⟨dy, qb, pl2, ys2, g1, g2, g3, g4⟩ := hb.ex
    refine ⟨_, rfl, _, _, _, _, _, rfl, h1, TP.cl, TP.nD, pf_deeds _ _, _, rfl, _, _, _, _, _, rfl, g1, TP.cl, TP.nD, pf_deeds _ _, decide (r = u), ⟨qa, qb, r, u, rfl, rfl, h2, g2, by omega, by omega, rfl⟩, fun H1 s1 => ?_⟩
    refine ⟨_, rfl, _, rfl, decide (r = u), ⟨a, b, r, u, rfl, rfl, ha.same s1, hb.same s1, rfl⟩, fun H2 s2 => ?_⟩
    have eAl : (!decide (V.bl (decide (r = u)) = V.bl (decide (r = u)))) = false := by rw [decide_eq_true rfl]; rfl
    refine ⟨_, rfl, rfl, _, rfl, ?_⟩
    rw [show (!decide (V.bl (id (decide (r = u))) = V.bl (id (decide (r = u))))) = false from eAl]
    refine iteF ?_
    have s02 := s1.trans s2
    -- codes
    refine ⟨_, rfl, a, r, rfl, ha.same s02, by omega, fun c H3 s3 hc => ?_⟩
    have s03 := s02.trans s3
    refine ⟨_, rfl, b, u, rfl, hb.same s03, by omega, fun c' H4 s4 hc' => ?_⟩
    have s04 := s03.trans s4
    refine ⟨c, c', _, _, rfl, rfl, hc.same s4, hc', by omega, fun H5 s5 => ?_⟩
    rw [show decide (codeR r = codeR u) = decide (r = u) from decide_eq_decide.mpr ⟨fun e => codeR_inj r u e, fun e => by rw [e]⟩]
    refine ⟨_, rfl, rfl, _, rfl, ?_⟩
    rw [show (!decide (V.bl (decide (r = u)) = V.bl (id (decide (r = u))))) = false from eAl]
    refine iteF ?_
    have s05 := s04.trans s5
    -- texts
    refine ⟨_, rfl, a, r, rfl, ha.same s05, by omega, fun H6 s6 => ?_⟩
    have s06 := s05.trans s6
    refine ⟨_, rfl, b, u, rfl, hb.same s06, by omega, fun H7 s7 => ?_⟩
    have s07 := s06.trans s7
    refine ⟨rfl, ?_⟩
    rw [show decide (V.str (textR r) = V.str (textR u)) = decide (r = u) from decide_eq_decide.mpr ⟨fun e => textR_inj hok hok' (V.str.inj e), fun e => by rw [e]⟩]
    refine ⟨_, rfl, rfl, _, rfl, ?_⟩
    rw [show (!decide (V.bl (decide (r = u)) = V.bl (id (decide (r = u))))) = false from eAl]
    refine iteF ?_
    have lr := len_many r
    have lu := len_many u
    have eD : deepR (r ++ u) ≤ 8 := by rw [deepR_app]; exact Nat.max_le.mpr ⟨hdp, hdp'⟩
    have eM : manyR (r ++ u) = manyR r + manyR u := manyR_app r u
    have eC : (codeR (r ++ u)).size = (codeR r).size + (codeR u).size := by rw [codeR_row, codeR_row, codeR_row, List.map_append, rowT_app]
    refine ⟨_, rfl, _, _, _, _, _, rfl, s07 _ _ h1, TP.cl, TP.nD, pf_deeds _ _, _, rfl, _, _, _, _, _, rfl, s07 _ _ g1, TP.cl, TP.nD, pf_deeds _ _, qa, qb, r, u, rfl, rfl, h2.same s07, g2.same s07, by omega, fun q8 H8 s8 hq8 => ?_⟩
    refine ⟨q8, r ++ u, rfl, hq8, eD, by omega, fun z H9 s9 nz hz => ?_⟩
    have s09 := (s07.trans s8).trans s9
    refine ⟨_, rfl, z, r ++ u, rfl, hz, by omega, fun cz HA sA hcz3 => ?_⟩
    have s0A := s09.trans sA
    refine ⟨_, rfl, a, r, rfl, ha.same s0A, by omega, fun c1 HB sB hc1 => ?_⟩
    refine ⟨c1, r.map Dd.code, rfl, by rw [← codeR_row]; exact hc1, by rw [← codeR_row]; omega, fun l1 us1 HC sC nl1 hl1 hus1 => ?_⟩
    have s0C := (s0A.trans sB).trans sC
    refine ⟨_, rfl, b, u, rfl, hb.same s0C, by omega, fun c2 HD sD hc2 => ?_⟩
    refine ⟨c2, u.map Dd.code, rfl, by rw [← codeR_row]; exact hc2, by rw [← codeR_row]; omega, fun l2 us2 HE sE nl2 hl2 hus2 => ?_⟩
    have lus1 := Paired.length hus1
    have lus2 := Paired.length hus2
    rw [List.length_map] at lus1 lus2
    have sCE := sD.trans sE
    refine ⟨l1, l2, us1, us2, rfl, rfl, sCE _ _ hl1, hl2, by omega, fun l3 nl3 => ?_⟩
    have s3' := Same.new nl3 (o := .lst (us1 ++ us2))
    have hl3 : (upd HE l3 (.lst (us1 ++ us2))) l3 = some (.lst (us1 ++ us2)) := upd_same
    revert s3' hl3
    generalize upd HE l3 (.lst (us1 ++ us2)) = HF
    intro s3' hl3
    refine ⟨l3, us1 ++ us2, (r ++ u).map Dd.code, rfl, hl3, by rw [List.map_append]; exact paired_app (ths_kt (KT.of (sCE.trans s3')) hus1) (ths_kt (KT.of s3') hus2), by rw [← codeR_row]; omega, fun x HG sG hx => ?_⟩
    rw [← codeR_row] at hx
    have s0F := (s0C.trans sCE).trans s3'
    have sAG := (((sB.trans sC).trans sCE).trans s3').trans sG
    refine ⟨cz, x, _, _, rfl, rfl, hcz3.same sAG, hx, by omega, fun HH sH => ⟨_, rfl, ?_⟩⟩
    rw [decide_eq_true rfl]
    refine iteT ?_
    have sAH := sAG.trans sH
    have s0H := s0A.trans sAH
    refine ⟨_, rfl, z, r ++ u, rfl, (hz.same sA).same sAH, _, rfl, a, r, rfl, ha.same s0H, _, rfl, b, u, rfl, hb.same s0H, _, _, rfl, rfl, rfl, ?_⟩
    rw [decide_eq_true (show V.int ((manyR (r ++ u) : Nat) : Int) = V.int (((manyR r : Nat) : Int) + ((manyR u : Nat) : Int)) by rw [eM, Int.natCast_add])]
    exact k HH s0H
theorem ok_like {f : Addr} {fd : FuncData} (F : Fun K "_law_like" "_law_like" sLike f fd) (B : Blt mg) (DTk : Def P w K mg base "_law_take" 1 ["_law_bag_here", "_law_many"] spTake) (DTh : Def P w K mg base "_law_thing" 4 ["_law_bag_here", "_law_many"] (spThing C)) : FnOk P w K mg base CX0 5 f fd ["_law_bag_here", "_law_deeds_here"] (spLike K C) := by
  refine F.ok scLlike (fun vs H Q E h => ?_) (fun cdv A outer s H vs Q E hr h => ?_)
  · obtain ⟨p, q, r, rfl, _⟩ := h
    rfl
  · obtain ⟨p, q, r, rfl, hb, hq, hmn, hsm, k⟩ := h
    have hr1 : Room 1 _ := hr.mono (by decide)
    have hr4 : Room 4 _ := hr
    refine ⟨_, pss_cons (ps_set (i := 2) scLlike.nd rfl (Or.inl rfl) (pe_def DTk hr1 rfl (pa_cons (pv 0) (pa_cons (pe_op op_add (pe_callB call_len_seq (by rfl) B.len PySem.boot_len (pa_cons (pv 1) pa_nil)) pe_int) pa_nil)))) (pss_cons (ps_set (i := 3) scLlike.nd rfl (Or.inl rfl) (pe_tup (pa_cons pe_str (pa_cons (pe_def DTk hr1 rfl (pa_cons (pv 0) (pa_cons pe_int pa_nil))) (pa_cons (pe_def DTh hr4 rfl (pa_cons (pv 0) (pa_cons (pe_def DTk hr1 rfl (pa_cons (pv 0) (pa_cons pe_int pa_nil))) pa_nil))) pa_nil))))) (pss_one (ps_ret (pe_ix (r := rIxL K) ix_list (pe_lst (pa_cons (pv 1) (pa_cons (pe_op (op_catR (C := C)) (pe_op (op_catR (C := C)) (pe_slice (sl_tkP (C := C)) (pv 1) po_none (po_some (pv 2))) (pe_tup (pa_cons (pv 3) pa_nil))) (pe_slice (sl_drP (C := C)) (pv 1) (po_some (pv 2)) po_none)) (pa_cons (pe_op (op_catR (C := C)) (pe_slice (sl_tkP (C := C)) (pv 1) po_none (po_some (pv 2))) (pe_slice (sl_drP (C := C)) (pv 1) (po_some (pe_op op_add (pv 2) pe_int)) po_none)) (pa_cons (pe_op (op_catR (C := C)) (pe_op (op_catR (C := C)) (pe_slice (sl_tkP (C := C)) (pv 1) po_none (po_some (pv 2))) (pe_tup (pa_cons (pv 3) pa_nil))) (pe_slice (sl_drP (C := C)) (pv 1) (po_some (pe_op op_add (pv 2) pe_int)) po_none)) pa_nil))))) (pe_def DTk hr1 rfl (pa_cons (pv 0) (pa_cons pe_int pa_nil))) (fun _ _ => rfl))))), ?_⟩
    have hsl := line4
    obtain ⟨vs, hqv, hvs⟩ := id hq
    have lv := DsAt.length r vs hvs
    have lr := len_many r
    have nep : ∀ {G : Hp} {D : Addr}, BagOk G p → G D = none → D ≠ p := fun bag n z => by
      obtain ⟨bx, hbx⟩ := bag.some
      rw [z, hbx] at n
      cases n
    refine ⟨_, rfl, _, rfl, q, vs, rfl, .inr hqv, _, _, rfl, rfl, p, ((vs.length : Nat) : Int) + 1, rfl, hb, by omega, by omega, fun e H1 k1 b1 e0 e1 => ?_⟩
    obtain ⟨n, rfl⟩ := Int.eq_ofNat_of_zero_le e0
    refine ⟨_, rfl, p, 2, rfl, b1, by decide, by decide, fun na H2 k2 b2 na0 na1 => ?_⟩
    obtain ⟨na, rfl⟩ := Int.eq_ofNat_of_zero_le na0
    refine ⟨_, rfl, _, rfl, p, 3, rfl, b2, by decide, by decide, fun nt H3 k3 b3 nt0 nt1 => ?_⟩
    obtain ⟨nt, rfl⟩ := Int.eq_ofNat_of_zero_le nt0
    refine ⟨p, nt, rfl, b3, by omega, fun x t H4 k4 b4 hx hxz => ?_⟩
    refine ⟨by show 3 ≤ sizeLine; decide, fun T nT => ?_⟩
    have s5 := Same.new nT (o := .tup [.str "told", .int ((na : Nat) : Int), .ref x])
    have eT : (upd H4 T (.tup [.str "told", .int ((na : Nat) : Int), .ref x])) T = some (.tup [.str "told", .int ((na : Nat) : Int), .ref x]) := upd_same
    revert s5 eT
    generalize upd H4 T (.tup [.str "told", .int ((na : Nat) : Int), .ref x]) = H5
    intro s5 eT
    have dT : DAt K C H5 (.ref T) (.told na t) := ⟨T, x, rfl, SqT.of eT, by omega, hx.same s5, by omega⟩
    have kt0 : KT H H4 := (hb.kt k1).trans ((b1.kt k2).trans ((b2.kt k3).trans (b3.kt k4)))
    have hq5 : RAt K C H5 q r := (hq.kt kt0).same s5
    have b5 := b4.same s5
    have lt : (r.take n).length ≤ r.length := by rw [List.length_take]; omega
    have ld : (r.drop n).length ≤ r.length := by rw [List.length_drop]; omega
    have ld1 : (r.drop (n + 1)).length ≤ r.length := by rw [List.length_drop]; omega
    have l1 : [Dd.told na t].length = 1 := rfl
    -- the deed in between
    refine ⟨_, rfl, _, rfl, _, rfl, _, rfl, q, r, n, rfl, rfl, rfl, hq5, fun q1 H6 s6 hq1 => ?_⟩
    refine ⟨_, rfl, by show 1 ≤ sizeLine; decide, fun T1 nT1 => ?_⟩
    have s7 := Same.new nT1 (o := .tup [.ref T])
    have eT1 : (upd H6 T1 (.tup [.ref T])) T1 = some (.tup [.ref T]) := upd_same
    revert s7 eT1
    generalize upd H6 T1 (.tup [.ref T]) = H7
    intro s7 eT1
    have s57 := s6.trans s7
    have d1 : RAt K C H7 T1 [.told na t] := ⟨_, SqT.of eT1, _, _, rfl, DAt_kt (KT.of s57) _ _ dT, rfl⟩
    refine ⟨q1, T1, r.take n, [.told na t], rfl, rfl, hq1.same s7, d1, by omega, fun q2 H8 s8 hq2 => ?_⟩
    have s58 := s57.trans s8
    refine ⟨_, rfl, _, rfl, _, rfl, q, r, n, rfl, rfl, rfl, hq5.same s58, fun q3 H9 s9 hq3 => ?_⟩
    have l2 : (r.take n ++ [Dd.told na t]).length = (r.take n).length + 1 := by rw [List.length_append]; rfl
    refine ⟨q2, q3, r.take n ++ [.told na t], r.drop n, rfl, rfl, hq2.same s9, hq3, by omega, fun q4 HA sA hq4 => ?_⟩
    have s5A := (s58.trans s9).trans sA
    -- one left out
    refine ⟨_, rfl, _, rfl, _, rfl, q, r, n, rfl, rfl, rfl, hq5.same s5A, fun q5 HB sB hq5' => ?_⟩
    have s5B := s5A.trans sB
    refine ⟨_, rfl, _, rfl, _, _, rfl, rfl, _, rfl, q, r, n + 1, rfl, by rw [Int.natCast_add]; rfl, rfl, hq5.same s5B, fun q6 HC sC hq6 => ?_⟩
    refine ⟨q5, q6, r.take n, r.drop (n + 1), rfl, rfl, hq5'.same sC, hq6, by omega, fun q7 HD sD hq7 => ?_⟩
    have s5D := (s5B.trans sC).trans sD
    -- one in the place of another
    refine ⟨_, rfl, _, rfl, _, rfl, q, r, n, rfl, rfl, rfl, hq5.same s5D, fun q8 HE sE hq8 => ?_⟩
    refine ⟨_, rfl, by show 1 ≤ sizeLine; decide, fun T2 nT2 => ?_⟩
    have sF := Same.new nT2 (o := .tup [.ref T])
    have eT2 : (upd HE T2 (.tup [.ref T])) T2 = some (.tup [.ref T]) := upd_same
    revert sF eT2
    generalize upd HE T2 (.tup [.ref T]) = HF
    intro sF eT2
    have s5F := (s5D.trans sE).trans sF
    have d2 : RAt K C HF T2 [.told na t] := ⟨_, SqT.of eT2, _, _, rfl, DAt_kt (KT.of s5F) _ _ dT, rfl⟩
    refine ⟨q8, T2, r.take n, [.told na t], rfl, rfl, hq8.same sF, d2, by omega, fun q9 HG sG hq9 => ?_⟩
    have s5G := s5F.trans sG
    refine ⟨_, rfl, _, rfl, _, _, rfl, rfl, _, rfl, q, r, n + 1, rfl, by rw [Int.natCast_add]; rfl, rfl, hq5.same s5G, fun qa HH sH hqa => ?_⟩
    refine ⟨q9, qa, r.take n ++ [.told na t], r.drop (n + 1), rfl, rfl, hq9.same sH, hqa, by omega, fun qb HI sI hqb => ?_⟩
    have s5I := (s5G.trans sH).trans sI
    refine ⟨by show 4 ≤ sizeLine; decide, fun L nL => ?_⟩
    have sJ := Same.new nL (o := .lst [.ref q, .ref q4, .ref q7, .ref qb])
    have eL : (upd HI L (.lst [.ref q, .ref q4, .ref q7, .ref qb])) L = some (.lst [.ref q, .ref q4, .ref q7, .ref qb]) := upd_same
    revert sJ eL
    generalize upd HI L (.lst [.ref q, .ref q4, .ref q7, .ref qb]) = HJ
    intro sJ eL
    have s5J := s5I.trans sJ
    have bJ := b5.same s5J
    have nLp : L ≠ p := nep (b5.same s5I) nL
    refine ⟨_, rfl, p, 4, rfl, bJ, by decide, by decide, fun w HK kK bK w0 w1 => ?_⟩
    have kb : KB p H HK := (((k1.trans k2).trans k3).trans k4).trans (((KB.of s5).trans (KB.of s5J)).trans kK)
    have ktK := bJ.kt kK
    obtain ⟨w, rfl⟩ := Int.eq_ofNat_of_zero_le w0
    have tk := tk_leP n r
    have dr := dr_leP n r
    have dr1 := dr_leP1 n r
    have dr2 := (dr_leP (n + 1) r).1
    have e1 : deepR [Dd.told na t] = 0 := by simp [deepR, Dd.deep]
    have e2 : manyR [Dd.told na t] = 1 := by rw [many_cons, many_told, many_nil]
    have st : smR [Dd.told na t] := ⟨by show t.size ≤ 3; omega, trivial⟩
    have f4 : manyR (r.take n ++ [Dd.told na t] ++ r.drop n) = manyR r + 1 := by rw [manyR_app, manyR_app, e2]; omega
    have f7 : manyR (r.take n ++ r.drop (n + 1)) ≤ manyR r + 1 := by rw [manyR_app]; omega
    have fb : manyR (r.take n ++ [Dd.told na t] ++ r.drop (n + 1)) ≤ manyR r + 1 := by rw [manyR_app, manyR_app, e2]; omega
    have g4 : deepR (r.take n ++ [Dd.told na t] ++ r.drop n) ≤ deepR r := by rw [deepR_app, deepR_app, e1]; omega
    have g7 : deepR (r.take n ++ r.drop (n + 1)) ≤ deepR r := by rw [deepR_app]; omega
    have gb : deepR (r.take n ++ [Dd.told na t] ++ r.drop (n + 1)) ≤ deepR r := by rw [deepR_app, deepR_app, e1]; omega
    have smt := smR_tk n r hsm
    match w, w1 with
    | 0, _ => exact ⟨L, _, _, _, rfl, rfl, SqL.of (kK _ _ nLp eL), at0 _ _, k q r HK kb bK ((hq5.same s5J).kt ktK) (Nat.le_refl _) (by omega) hsm⟩
    | 1, _ => exact ⟨L, _, _, _, rfl, rfl, SqL.of (kK _ _ nLp eL), at1k _ _ _, k q4 _ HK kb bK (((hq4.same sB).same ((((((sC.trans sD).trans sE).trans sF).trans sG).trans (sH.trans sI)).trans sJ)).kt ktK) g4 (by omega) (smR_app _ _ (smR_app _ _ smt st) (smR_dr n r hsm))⟩
    | 2, _ => exact ⟨L, _, _, _, rfl, rfl, SqL.of (kK _ _ nLp eL), at2 _ _ _ _, k q7 _ HK kb bK ((hq7.same ((((sE.trans sF).trans sG).trans (sH.trans sI)).trans sJ)).kt ktK) g7 f7 (smR_app _ _ smt (smR_dr (n + 1) r hsm))⟩
    | 3, _ => exact ⟨L, _, _, _, rfl, rfl, SqL.of (kK _ _ nLp eL), at3 _ _ _ _ _, k qb _ HK kb bK ((hqb.same sJ).kt ktK) gb fb (smR_app _ _ (smR_app _ _ smt st) (smR_dr (n + 1) r hsm))⟩
    | w + 4, h => exact absurd h (by omega)
end
end Js

set_option Elab.async false
set_option linter.all false
set_option maxRecDepth 100000
set_option maxHeartbeats 2000000
namespace Js
open PySem L2
abbrev sRInit : Stmt := inClass (top 44) 0
abbrev sREq : Stmt := inClass (top 44) 2
abbrev sFirst : Stmt := top 45
def rfL : List V → List (Str × V)
  | [x, y, z] => putF "thing" z (putF "steps" y (putF "word" x []))
  | _ => []
theorem n_ws : ¬ (("word" : Str) = "steps") := by decide +kernel
theorem n_wt : ¬ (("word" : Str) = "thing") := by decide +kernel
theorem n_st : ¬ (("steps" : Str) = "thing") := by decide +kernel
theorem rf_word (x y z : V) : (rfL [x, y, z]).lookup ("word" : Str) = some x := by
  unfold rfL
  rw [lookup_putF, if_neg n_wt, lookup_putF, if_neg n_ws, lookup_putF, if_pos rfl]
theorem rf_steps (x y z : V) : (rfL [x, y, z]).lookup ("steps" : Str) = some y := by
  unfold rfL
  rw [lookup_putF, if_neg n_st, lookup_putF, if_pos rfl]
theorem rf_thing (x y z : V) : (rfL [x, y, z]).lookup ("thing" : Str) = some z := by
  unfold rfL
  rw [lookup_putF, if_pos rfl]
def wdS : Wd → Str
  | .ended => "ended"
  | .opn => "open"
  | .great => "great"
theorem wd_eo : ¬ (("ended" : Str) = "open") := by decide +kernel
theorem wd_eg : ¬ (("ended" : Str) = "great") := by decide +kernel
theorem wd_og : ¬ (("open" : Str) = "great") := by decide +kernel
theorem wdS_inj {a b : Wd} (h : wdS a = wdS b) : a = b := by
  cases a <;> cases b <;> first | rfl | exact absurd h wd_eo | exact absurd h wd_eg | exact absurd h wd_og | exact absurd h.symm wd_eo | exact absurd h.symm wd_eg | exact absurd h.symm wd_og
structure TxtR (K : PySem.W.Frag) (mg : Str → Option Value) (CR : Addr) : Prop where
  cl : Cls K CR
  nW : NoAttr K CR "word"
  nS : NoAttr K CR "steps"
  nT : NoAttr K CR "thing"
  mgR : mg "Run" = some (.ref CR)
  ca : PySem.W.findIn K (.ref CR) "__class__" = some (some (.builtin "object.__class__"))
  cn : PySem.W.specialIn K (.builtin "object.__class__") "__get__" = some (some (.builtin "getset_descriptor.__get__"))
  ct : PySem.W.takesIn K (.builtin "object.__class__") = some true
  cm : PySem.W.mroIn K CR (.type "object") = some true
  ne : PySem.W.findIn K (.ref CR) "__ne__" = some (some (.builtin "object.__ne__"))
/-- what stands for the thing of a run -/
def RtV (C : Addr) (H : Hp) (v : V) (x : Wd) (t : Tr) : Prop := (x = .ended ∧ (∃ b, v = .ref b ∧ Th C H b t) ∧ t.size ≤ 4000) ∨ (x ≠ .ended ∧ v = .non ∧ t = .nil)
def RnAt (C CR : Addr) (H : Hp) (a : Addr) (o : Wd × Nat × Tr) : Prop := ∃ dx v, H a = some (.ins CR dx (rfL [.str (wdS o.1), .int ((o.2.1 : Nat) : Int), v])) ∧ RtV C H v o.1 o.2.2
theorem RnAt.kt {C CR : Addr} {H H' : Hp} (k : KT H H') {a : Addr} {o : Wd × Nat × Tr} (h : RnAt C CR H a o) : RnAt C CR H' a o := by
  obtain ⟨dx, v, h1, h2⟩ := h
  refine ⟨dx, v, k _ _ h1 (fun _ e => nomatch e), ?_⟩
  rcases h2 with ⟨e, ⟨b, eb, hb⟩, hz⟩ | h2
  · exact .inl ⟨e, ⟨b, eb, hb.kt k⟩, hz⟩
  · exact .inr h2
theorem RnAt.same {C CR : Addr} {H H' : Hp} (s : Same H H') {a : Addr} {o : Wd × Nat × Tr} (h : RnAt C CR H a o) : RnAt C CR H' a o := h.kt (KT.of s)
structure MkR (P : Program) (w : World) (K : PySem.W.Frag) (mg : Str → Option Value) (base : Heap) (CR f : Addr) (fd : FuncData) : Prop extends MkO P w K mg base "Run" CR f fd ["self", "word", "steps", "thing"] rfL 3 where
  hot : L2H.FnH P w K mg base CX0 1 f fd ["self", "word", "steps", "thing"] (spObj CR rfL 3)
  b1 : ∃ ds, Vals [V.non] ds ∧ Binds K fd ["self", "word", "steps", "thing"] ds
def spREq (C CR : Addr) : Sp := fun vs H Q _ => ∃ a b o1 o2, vs = [.ref a, .ref b] ∧ RnAt C CR H a o1 ∧ RnAt C CR H b o2 ∧ ∀ H', Same H H' → Q (.bl (decide (o1 = o2))) H'
def spFirst (K : PySem.W.Frag) (C : Addr) : Sp := fun vs H Q _ => ∃ a t, vs = [.ref a] ∧ Th C H a t ∧ ∀ q us H', Same H H' → H' q = some (.tup us) → Paired (ThV C H') us (firstN t) → Q (.ref q) H'
section
variable {P : Program} {w : World} {K : PySem.W.Frag} {mg : Str → Option Value} {base : Heap} {C CP CS CR N fI : Addr} {fdI : FuncData}
theorem scRn : FnScope ["self", "word", "steps", "thing"] ["self", "word", "steps", "thing"] (defScope sRInit) := ⟨rfl, rfl, rfl, by decide +kernel, rfl, by decide +kernel, by decide +kernel⟩
theorem ok_rinit {f : Addr} {fd : FuncData} (F : FunD K "__init__" "Run.__init__" (defArgs sRInit) (defBody sRInit) (defScope sRInit) [.non] [] f fd) (TR : TxtR K mg CR) : FnOk P w K mg base CX0 1 f fd ["self", "word", "steps", "thing"] (spObj CR rfL 3) := by
  refine F.ok scRn (fun vs H Q E h => ?_) (fun cdv A outer s H vs Q E hr h => ?_)
  · obtain ⟨p, dx, xs, rfl, hl, _⟩ := h
    rw [List.length_cons, hl]
    rfl
  · obtain ⟨p, dx, xs, rfl, hl, hp, k⟩ := h
    obtain ⟨x, y, z, rfl⟩ : ∃ x y z, xs = [x, y, z] := by
      rcases xs with _ | ⟨x, _ | ⟨y, _ | ⟨z, _ | ⟨u, r⟩⟩⟩⟩
      · cases hl
      · cases hl
      · cases hl
      · exact ⟨x, y, z, rfl⟩
      · cases hl
    refine ⟨_, pss_cons (ps_fld (pv 0) (pv 1) rfl) (pss_cons (ps_fld (pv 0) (pv 2) rfl) (pss_one (ps_fld (pv 0) (pv 3) rfl))), ?_⟩
    refine ⟨_, rfl, _, rfl, p, CR, dx, [], rfl, hp, TR.cl, TR.nW, (by show 0 < 1000; decide), ?_⟩
    refine ⟨_, rfl, _, rfl, p, CR, dx, _, rfl, upd_same, TR.cl, TR.nS, Nat.lt_of_le_of_lt (length_putF _ _ _) (by show 0 + 1 < 1000; decide), ?_⟩
    refine ⟨_, rfl, _, rfl, p, CR, dx, _, rfl, upd_same, TR.cl, TR.nT, ?_, ?_⟩
    · have h1 := length_putF "word" x []
      have h2 := length_putF "steps" y (putF "word" x [])
      simp only [List.length_nil] at h1
      omega
    · show Q .non (upd (upd (upd H p _) p _) p (.ins CR dx (rfL [x, y, z])))
      rw [upd_upd, upd_upd]
      exact k
theorem hot_rinit {f : Addr} {fd : FuncData} (F : FunD K "__init__" "Run.__init__" (defArgs sRInit) (defBody sRInit) (defScope sRInit) [.non] [] f fd) (TR : TxtR K mg CR) : L2H.FnH P w K mg base CX0 1 f fd ["self", "word", "steps", "thing"] (spObj CR rfL 3) := by
  obtain ⟨o1, o2, o3, o4, o5, o6, o7, o8, o9, o10, e, look, code, _, _⟩ := F.ex
  subst e
  refine L2H.fn_ofH look code scRn (fun vs H Q E h => ?_) (fun A outer s H vs Q E pp hot hr h => ?_)
  · obtain ⟨p, dx, xs, rfl, hl, _⟩ := h
    rw [List.length_cons, hl]
    rfl
  · obtain ⟨p, dx, xs, rfl, hl, hp, k⟩ := h
    obtain ⟨x, y, z, rfl⟩ : ∃ x y z, xs = [x, y, z] := by
      rcases xs with _ | ⟨x, _ | ⟨y, _ | ⟨z, _ | ⟨u, r⟩⟩⟩⟩
      · cases hl
      · cases hl
      · cases hl
      · exact ⟨x, y, z, rfl⟩
      · cases hl
    refine ⟨_, pss_cons (ps_fld (pv 0) (pv 1) rfl) (pss_cons (ps_fld (pv 0) (pv 2) rfl) (pss_one (ps_fld (pv 0) (pv 3) rfl))), ?_⟩
    refine ⟨_, rfl, _, rfl, p, CR, dx, [], rfl, hp, TR.cl, TR.nW, (by show 0 < 1000; decide), ?_⟩
    refine ⟨_, rfl, _, rfl, p, CR, dx, _, rfl, upd_same, TR.cl, TR.nS, Nat.lt_of_le_of_lt (length_putF _ _ _) (by show 0 + 1 < 1000; decide), ?_⟩
    refine ⟨_, rfl, _, rfl, p, CR, dx, _, rfl, upd_same, TR.cl, TR.nT, ?_, ?_⟩
    · have h1 := length_putF "word" x []
      have h2 := length_putF "steps" y (putF "word" x [])
      simp only [List.length_nil] at h1
      omega
    · show Q .non (upd (upd (upd H p _) p _) p (.ins CR dx (rfL [x, y, z])))
      rw [upd_upd, upd_upd]
      exact k
theorem scRE : FnScope ["self", "other"] ["self", "other"] (defScope sREq) := ⟨rfl, rfl, rfl, by decide +kernel, rfl, by decide +kernel, by decide +kernel⟩
theorem ok_req {f : Addr} {fd : FuncData} (F : Fun K "__eq__" "Run.__eq__" sREq f fd) (T : Txt K mg C) (TR : TxtR K mg CR) (SE : Spc P w K mg base C "__eq__" 2 ["self", "other"] (spEqT C)) : FnOk P w K mg base CX0 3 f fd ["self", "other"] (spREq C CR) := by
  refine F.ok scRE (fun vs H Q E h => ?_) (fun cdv A outer s H vs Q E hr h => ?_)
  · obtain ⟨a, b, o1, o2, rfl, _⟩ := h
    rfl
  · obtain ⟨a, b, ⟨w1, n1, t1⟩, ⟨w2, n2, t2⟩, rfl, ⟨dx, v1, h1, h2⟩, ⟨dy, v2, g1, g2⟩, k⟩ := h
    have hr2 : Room 2 _ := hr
    refine ⟨_, pss_cons (ps_if (pt_not (pt_val (pe_callB (r := rIsi K) call_isi (by rfl) T.isi PyProof.Rows.boot_isinstance (pa_cons (pv 1) (pa_cons (pe_glob (v := .ref CR) rfl TR.mgR rfl) pa_nil))))) (pss_one (ps_ret pe_bl)) pss_nil) (pss_one (ps_ret (pe_and (pe_cmpR op_eq (pe_fld (pv 0) rfl) (pe_fld (pv 1) rfl) (nomark _)) (pe_and (pe_cmpR op_eq (pe_fld (pv 0) rfl) (pe_fld (pv 1) rfl) (nomark _)) (pe_one (pe_cmpR (op_eqOT SE hr2) (pe_fld (pv 0) rfl) (pe_fld (pv 1) rfl) (nomark _))))))), ?_⟩
    refine ⟨_, rfl, _, _, _, _, true, rfl, ClsV.own CR, .base (.ins g1 TR.cl TR.ca TR.cn TR.ct TR.cm), kit_self _ _, _, rfl, iteF ?_⟩
    refine ⟨_, rfl, _, _, _, _, _, rfl, h1, TR.cl, TR.nW, rf_word _ _ _, _, rfl, _, _, _, _, _, rfl, g1, TR.cl, TR.nW, rf_word _ _ _, rfl, _, rfl, ?_⟩
    by_cases hw : w1 = w2
    · subst hw
      rw [decide_eq_true rfl]
      refine iteT ?_
      refine ⟨_, rfl, _, _, _, _, _, rfl, h1, TR.cl, TR.nS, rf_steps _ _ _, _, rfl, _, _, _, _, _, rfl, g1, TR.cl, TR.nS, rf_steps _ _ _, rfl, _, rfl, ?_⟩
      by_cases hn : n1 = n2
      · subst hn
        rw [decide_eq_true rfl]
        refine iteT ?_
        refine ⟨_, rfl, _, _, _, _, _, rfl, h1, TR.cl, TR.nT, rf_thing _ _ _, _, rfl, _, _, _, _, _, rfl, g1, TR.cl, TR.nT, rf_thing _ _ _, ?_⟩
        rcases h2 with ⟨e1, ⟨b1, rfl, hb1⟩, hz1⟩ | ⟨e1, rfl, et1⟩
        · rcases g2 with ⟨e2, ⟨b2, rfl, hb2⟩, hz2⟩ | ⟨e2, _, _⟩
          · refine .inr ⟨b1, b2, t1, t2, rfl, rfl, hb1, hb2, hz1, fun H' s' => ?_⟩
            have := k H' s'
            rw [show decide ((w1, n1, t1) = (w1, n1, t2)) = decide (t1 = t2) by simp] at this
            exact this
          · exact absurd e1 e2
        · rcases g2 with ⟨e2, _, _⟩ | ⟨e2, rfl, et2⟩
          · exact absurd e2 e1
          · refine .inl ⟨rfl, rfl, ?_⟩
            have := k H (Same.refl H)
            have e3 : t1 = t2 := (show t1 = .nil from et1).trans (show t2 = .nil from et2).symm
            rw [e3, decide_eq_true rfl] at this
            exact this
      · rw [decide_eq_false (show ¬ V.int ((n1 : Nat) : Int) = V.int ((n2 : Nat) : Int) from fun z => hn (by have := V.int.inj z; omega))]
        refine iteF ?_
        have := k H (Same.refl H)
        rw [show decide ((w1, n1, t1) = (w1, n2, t2)) = false by simp [hn]] at this
        exact this
    · rw [decide_eq_false (show ¬ V.str (wdS w1) = V.str (wdS w2) from fun z => hw (wdS_inj (V.str.inj z)))]
      refine iteF ?_
      have := k H (Same.refl H)
      rw [show decide ((w1, n1, t1) = (w2, n2, t2)) = false by simp [hw]] at this
      exact this
theorem scFN : FnScope ["thing"] ["thing"] (defScope sFirst) := ⟨rfl, rfl, rfl, by decide +kernel, rfl, by decide +kernel, by decide +kernel⟩
theorem ok_first {f : Addr} {fd : FuncData} {tN : Tok} (F : Fun K "first_names" "first_names" sFirst f fd) (mM : mg "MANY_NAMES" = some (.int 10 tN)) (mk : Maker P w K mg base C fI fdI) : FnOk P w K mg base CX0 4 f fd ["thing"] (spFirst K C) := by
  refine F.ok scFN (fun vs H Q E h => ?_) (fun cdv A outer s H vs Q E hr h => ?_)
  · obtain ⟨a, t, rfl, _⟩ := h
    rfl
  · obtain ⟨a, t, rfl, ha, k⟩ := h
    have hr3 : Room 3 _ := hr
    refine ⟨_, pss_one (ps_ret (pe_op op_catA (pe_tup (pa_cons (pv 0) pa_nil)) (pe_op op_repT (pe_tup (pa_cons (pe_T0 mk hr3 rfl) pa_nil)) (pe_op op_sub (pe_glob (v := .int 10) rfl mM ⟨_, rfl⟩) pe_int)))), ?_⟩
    refine ⟨_, rfl, by show 1 ≤ sizeLine; decide, fun q1 n1 => ?_⟩
    have s1 := Same.new n1 (o := .tup [V.ref a])
    have e1 : (upd H q1 (.tup [V.ref a])) q1 = some (.tup [V.ref a]) := upd_same
    revert s1 e1
    generalize upd H q1 (.tup [V.ref a]) = H1
    intro s1 e1
    refine fun z H2 s2 _ hz => ⟨by show 1 ≤ sizeLine; decide, fun q2 n2 => ?_⟩
    have s3 := Same.new n2 (o := .tup [V.ref z])
    have e3 : (upd H2 q2 (.tup [V.ref z])) q2 = some (.tup [V.ref z]) := upd_same
    revert s3 e3
    generalize upd H2 q2 (.tup [V.ref z]) = H3
    intro s3 e3
    refine ⟨_, _, rfl, rfl, q2, _, _, rfl, rfl, SqT.of e3, by simp, by decide, by decide, by simp, fun q3 n3 => ?_⟩
    have er : (List.replicate ((10 : Int) - 1).toNat [V.ref z]).flatten = List.replicate 9 (V.ref z) := rfl
    have s4 := Same.new n3 (o := .tup (List.replicate 9 (V.ref z)))
    have e4 : (upd H3 q3 (.tup (List.replicate 9 (V.ref z)))) q3 = some (.tup (List.replicate 9 (V.ref z))) := upd_same
    rw [er]
    revert s4 e4
    generalize upd H3 q3 (.tup (List.replicate 9 (V.ref z))) = H4
    intro s4 e4
    have s24 := (s2.trans s3).trans s4
    refine ⟨q1, q3, _, _, rfl, rfl, SqT.of (s24 _ _ e1), SqT.of e4, by show 1 + 9 ≤ sizeLine; decide, fun h => by simp at h, fun _ h => by simp at h, fun _ _ q5 n5 => ?_⟩
    have s5 := Same.new n5 (o := .tup ([V.ref a] ++ List.replicate 9 (V.ref z)))
    have rep : ∀ n : Nat, Paired (ThV C (upd H4 q5 (.tup ([V.ref a] ++ List.replicate 9 (V.ref z))))) (List.replicate n (V.ref z)) (List.replicate n Tr.nil) := by
      intro n
      induction n with
      | zero => exact .nil
      | succ n ih => exact .cons ⟨z, rfl, ((hz.same s3).same s4).same s5⟩ ih
    exact k q5 _ _ (((s1.trans s24)).trans s5) upd_same (.cons ⟨a, rfl, ha.same ((s1.trans s24).trans s5)⟩ (rep 9))
end
end Js

set_option Elab.async false
set_option linter.all false
set_option maxRecDepth 100000
set_option maxHeartbeats 2000000
namespace Js
open PySem L2
abbrev sRun : Stmt := top 48
def spRun (K : PySem.W.Frag) (C CP CR : Addr) : Sp := fun vs H Q _ => ∃ (a b : Addr) (r : List Dd) (t : Tr) (bud : Nat), vs = [.ref a, .ref b, .int (bud : Nat)] ∧ PgAt K C CP H a r ∧ Th C H b t ∧ t.size ≤ 4000 ∧
  ∀ z H', Same H H' → H z = none → RnAt C CR H' z (runM (planR r) bud 0 (firstN t) 0) → Q (.ref z) H'
theorem runM_size {pl : List Pt} (hpl : ∀ x ∈ pl, ∀ a t, x.1 = .told a t → t.size ≤ 4000) : ∀ (b pt : Nat) (ns : List Tr) (st : Nat), NsOk ns → (runM pl b pt ns st).2.2.size ≤ 4000
  | 0, pt, ns, st, h => by
    cases e : pl[pt]? with
    | none => rw [runM_end e]; exact nmA_le h 0
    | some x => rw [runM_open e]; exact Nat.zero_le _
  | b + 1, pt, ns, st, h => by
    cases e : pl[pt]? with
    | none => rw [runM_end e]; exact nmA_le h 0
    | some x =>
      cases g : x.1.grt ns with
      | true => rw [runM_great e g]; exact Nat.zero_le _
      | false =>
        rw [runM_step e g]
        exact runM_size hpl b _ _ _ (stepN_ok h (hpl x (List.mem_of_getElem? e)) g)
section
variable {P : Program} {w : World} {K : PySem.W.Frag} {mg : Str → Option Value} {base : Heap} {C CP CS CR N fI fR fD : Addr} {fdI fdR fdD : FuncData}
theorem scRu : FnScope ["program", "thing", "budget", "end", "names", "point", "steps"] ["program", "thing", "budget"] (defScope sRun) := ⟨rfl, rfl, rfl, by decide +kernel, rfl, by decide +kernel, by decide +kernel⟩
theorem ok_run {f : Addr} {fd : FuncData} (F : FunD K "run" "run" (defArgs sRun) (defBody sRun) (defScope sRun) [.int 2000] [] f fd) (B : Blt mg) (ml : mg "list" = none) (mgN : mg "TooGreat" = some (.ref N)) (exN : PySem.W.exmOne K (.ref N) (.ref N) = some true) (SL : Spc P w K mg base CP "__len__" 1 ["self"] (spPLen K C CP)) (DF : Def P w K mg base "first_names" 4 ["thing"] (spFirst K C))
    (MR : MkR P w K mg base CR fR fdR) (GD : FnOk P w K mg base (L2N.CX P w) 6 fD fdD ["program", "point", "names"] (spDo K C CP N)) (mgD : mg "do_deed" = some (.ref fD)) (kD : PySem.W.keepIn K (.ref fD) = true) (bD : Binds K fdD ["program", "point", "names"] []) : FnOk P w K mg base CX0 7 f fd ["program", "thing", "budget"] (spRun K C CP CR) := by
  obtain ⟨ds1, hv1, hb1⟩ := MR.b1
  refine F.ok scRu (fun vs H Q E h => ?_) (fun cdv A outer s H vs Q E hr h => ?_)
  · obtain ⟨a, b, r, t, bud, rfl, _⟩ := h
    rfl
  · obtain ⟨a, b, r, t, bud, rfl, ha, hb, hz, k⟩ := h
    have hr2 : Room 2 _ := hr.mono (by decide)
    have hr4 : Room 4 _ := hr.mono (by decide)
    have hr6 : Room 6 _ := hr
    have hrH : ∀ h : Option Value, L2H.RoomH 2 (Around.mark _ h) := fun h => L2H.roomH_mark hr2 h
    refine ⟨_, PSs.nox (pss_cons (ps_set (i := 3) scRu.nd rfl (Or.inl rfl) (pe_callB (call_lenP SL hr2) (by rfl) B.len PySem.boot_len (pa_cons (pv 0) pa_nil))) (pss_cons (ps_set (i := 4) scRu.nd rfl (Or.inl rfl) (pe_callTy call_list_of (by rfl) ml PyProof.Rows.boot_list (pa_cons (pe_def DF hr4 rfl (pa_cons (pv 1) pa_nil)) pa_nil))) (pss_cons (ps_set (i := 5) scRu.nd rfl (Or.inl rfl) pe_int) (pss_cons (ps_set (i := 6) scRu.nd rfl (Or.inl rfl) pe_int) (pss_cons (ps_while PassesOwn.never (pt_cmpR op_ne (pv 5) (pv 3) (nomark _)) (pss_cons (ps_if (pt_cmpR op_eq (pv 6) (pv 2) (nomark _)) (pss_one (ps_ret (pe_obj MR.M MR.G hr2 rfl MR.mgc hb1 hv1 (pa_cons pe_str (pa_cons (pv 6) pa_nil))))) pss_nil) (pss_cons (L2N.ps_try_many (tb := fun W => tAsg (tCallS (spDo K C CP N) (WE W) (tCons (tVar 0) (tCons (tVar 5) (tCons (tVar 4) tNil)))) (gName 5)) (l := [(.ref N, fun _ _ _ => tRet (tObj CR rfL 3 [.non] (tCons (tC (.str "great")) (tCons (tVar 6) tNil))))]) (Wout := fun _ _ _ _ => False) rfl rfl takesN (fun W pn xe tk _ => (pss_one (ps_set (i := 5) scRu.nd rfl (Or.inl rfl) (by exact (pe_callS GD hr6 rfl mgD kD bD (fun σ => L2N.passAt tk σ) (by exact (pa_cons (pv 0) (pa_cons (pv 5) (pa_cons (pv 4) pa_nil))))))))) (.cons ⟨rfl, by decide, Or.inl mgN⟩ (fun a oe cls d pn hz hf => (pss_one (ps_ret (by exact (pe_objH MR.M MR.hot (hrH _) (hot_suite hz hf) rfl MR.mgc hb1 hv1 (pa_cons pe_str (pa_cons (pv 6) pa_nil))))))) .nil)) (pss_one (ps_aug (i := 6) scRu.nd rfl (Or.inl rfl) pe_int ip_add))))) (pss_one (ps_ret (pe_obj MR.M MR.G hr2 rfl MR.mgc MR.b .nil (pa_cons pe_str (pa_cons (pv 6) (pa_cons (pe_ix (r := rIxL K) ix_list (pv 4) pe_int (fun _ _ => rfl)) pa_nil))))))))))), ?_⟩
    have hsl := line4
    refine ⟨_, rfl, a, r, rfl, ha, ?_⟩
    refine ⟨_, rfl, b, t, rfl, hb, fun q us H1 s1 hq hps => ?_⟩
    refine ⟨q, us, rfl, .inr (SqT.of hq), fun l nl => ?_⟩
    have sl := Same.new nl (o := .lst us)
    have hl0 : H l = none := s1.free nl
    have hrun : ∃ o, runM (planR r) bud 0 (firstN t) 0 = o := ⟨_, rfl⟩
    obtain ⟨o, ho⟩ := hrun
    rw [ho] at k
    have told4 : ∀ x ∈ planR r, ∀ (c : Nat) (u : Tr), x.1 = .told c u → u.size ≤ 4000 := by
      obtain ⟨dx, q', pl, ys, _, _, _, h4⟩ := ha.ex
      intro x hx c u e
      obtain ⟨i, hi, ei⟩ := List.getElem_of_mem hx
      have hi2 : i < ys.length := by rw [Paired.length h4]; exact hi
      obtain ⟨x', hx', _, _, dv, _, _, _, hdv⟩ := paired_get h4 (List.getElem?_eq_getElem hi2)
      have e2 : x' = x := by
        have : (planR r)[i]? = some x := by rw [List.getElem?_eq_getElem hi, ei]
        exact Option.some.inj (hx'.symm.trans this)
      subst e2
      rw [e] at hdv
      obtain ⟨_, _, _, _, _, _, z⟩ := hdv
      exact z
    refine ⟨fun m σ H' => ∃ (pt st : Nat) (us : List V) (ns : List Tr), σ = [some (.ref a), some (.ref b), some (.int (bud : Nat)), some (.int ((manyR r : Nat) : Int)), some (.ref l), some (.int (pt : Nat)), some (.int (st : Nat))] ∧ Same H H' ∧ H' l = some (.lst us) ∧ Paired (ThV C H') us ns ∧ NsOk ns ∧ pt ≤ manyR r ∧ st ≤ bud ∧ m = bud - st ∧ runM (planR r) (bud - st) pt ns st = o,
      ⟨_, 0, 0, us, firstN t, rfl, s1.trans sl, upd_same, ths_kt (KT.of sl) hps, firstN_ok t hz, Nat.zero_le _, Nat.zero_le _, rfl, ho⟩, ?_⟩
    rintro m σ H2 ⟨pt, st, us2, ns, rfl, s2, hl2, hps2, hok, hpt, hst, rfl, hrn⟩
    have fin : ∀ (v : V) (z dx : Addr) (H3 : Hp), Same H2 H3 → H2 z = none → H3 z = some (.ins CR dx (rfL [.str (wdS o.1), .int ((o.2.1 : Nat) : Int), v])) → RtV C H3 v o.1 o.2.2 → Q (.ref z) H3 := by
      intro v z dx H3 s3 nz hz3 hv
      exact k z H3 (s2.trans s3) (s2.free nz) ⟨dx, v, hz3, hv⟩
    refine ⟨_, rfl, _, rfl, rfl, _, rfl, ?_⟩
    by_cases hend : pt = manyR r
    · have e1 : (!decide (V.int ((pt : Nat) : Int) = V.int ((manyR r : Nat) : Int))) = false := by rw [hend]; simp
      rw [e1]
      refine iteF ?_
      have hnone : (planR r)[pt]? = none := by rw [List.getElem?_eq_none_iff, planR_len]; omega
      rw [runM_end hnone] at hrn
      obtain ⟨c, hc, hcT⟩ := nms_get hps2 hok (a := 0) (by decide)
      refine ⟨_, rfl, _, rfl, l, _, _, _, rfl, rfl, SqL.of hl2, atI_nat (j := 0) hc, rfl, fun z dx H3 s3 nz hz3 => ?_⟩
      subst hrn
      exact fin (.ref c) z dx H3 s3 nz hz3 (.inl ⟨rfl, ⟨c, rfl, hcT.same s3⟩, nmA_le hok 0⟩)
    · have e1 : (!decide (V.int ((pt : Nat) : Int) = V.int ((manyR r : Nat) : Int))) = true := by
        simp only [Bool.not_eq_true', decide_eq_false_iff_not, V.int.injEq]
        omega
      rw [e1]
      refine iteT ⟨fun σ' H3 => ∃ m', m' < bud - st ∧ _, fun σ' H3 z => z, ?_⟩
      have hlt : pt < (planR r).length := by rw [planR_len]; omega
      obtain ⟨x, hx⟩ : ∃ x, (planR r)[pt]? = some x := ⟨_, List.getElem?_eq_getElem hlt⟩
      refine ⟨_, rfl, _, rfl, rfl, _, rfl, ?_⟩
      by_cases hbd : st = bud
      · rw [decide_eq_true (show V.int ((st : Nat) : Int) = V.int ((bud : Nat) : Int) by rw [hbd])]
        refine iteT ?_
        have e0 : bud - st = 0 := by omega
        rw [e0, runM_open hx] at hrn
        refine ⟨_, rfl, rfl, fun z dx H3 s3 nz hz3 => ?_⟩
        subst hrn
        exact fin .non z dx H3 s3 nz hz3 (.inr ⟨by simp, rfl, rfl⟩)
      · rw [decide_eq_false (show ¬ V.int ((st : Nat) : Int) = V.int ((bud : Nat) : Int) from fun z => hbd (by have := V.int.inj z; omega))]
        refine iteF ?_
        obtain ⟨bb, hbb⟩ : ∃ bb, bud - st = bb + 1 := ⟨bud - st - 1, by omega⟩
        refine ⟨_, rfl, _, rfl, _, rfl, a, l, r, us2, ns, pt, x, rfl, ha.same s2, hl2, hps2, hok, hx, fun hg hok3 us3 H3 kb3 hl3 hps3 => ?_, fun hg dd H3 s3 hdd => ?_⟩
        · rw [hbb, runM_step hx hg] at hrn
          refine ⟨_, rfl, _, _, rfl, rfl, bud - (st + 1), by omega, stepP x ns, st + 1, us3, stepN x ns, rfl, fun c o' h => kb3 _ _ (ne_of_none h hl0) (s2 _ _ h), hl3, hps3, hok3, stepP_le hx ns, by omega, rfl, ?_⟩
          have e2 : bud - (st + 1) = bb := by omega
          rw [e2]
          exact hrn
        · rw [hbb, runM_great hx hg] at hrn
          refine ⟨true, exN, fun _ a0 _ => ?_, fun q => Bool.noConfusion q⟩
          refine ⟨_, rfl, rfl, fun z dx H4 s4 nz hz4 => ?_⟩
          subst hrn
          exact fin .non z dx H4 (s3.trans s4) (s3.free nz) hz4 (.inr ⟨by simp, rfl, rfl⟩)
end
end Js

set_option Elab.async false
set_option linter.all false
set_option maxRecDepth 100000
set_option maxHeartbeats 2000000
namespace Js
open PySem L2
section
variable {X : Cx} {C CS CR : Addr}
def rNeRn (C CR : Addr) : R2 := fun x y H Q => ∃ a b o1 o2, x = .ref a ∧ y = .ref b ∧ RnAt C CR H a o1 ∧ RnAt C CR H b o2 ∧ ∀ H', Same H H' → Q (.bl (!decide (o1 = o2))) H'
theorem op_neRn (S : Spc X.prog X.w X.K X.mg X.base CR "__eq__" 3 ["self", "other"] (spREq C CR)) (TR : TxtR X.K X.mg CR) (hr : Room 4 X.A) : OpR X (compareOp .NotEq) (rNeRn C CR) := by
  obtain ⟨f, fd, ow, F, hb⟩ := S
  refine OpR.imp (op_neOwn ow ⟨TR.ne, TR.cm⟩ F hb hr (pass0)) fun x y H Q h => ?_
  obtain ⟨a, b, o1, o2, rfl, rfl, ha, hb', q⟩ := h
  obtain ⟨dx, _, h1, _⟩ := id ha
  obtain ⟨dy, _, h2, _⟩ := id hb'
  exact ⟨a, dx, _, b, dy, _, rfl, rfl, h1, h2, a, b, o1, o2, rfl, ha, hb', fun H' s => ⟨_, rfl, q H' s⟩⟩
def rEqRn (C CR : Addr) : R2 := fun x y H Q => ∃ a b o1 o2, x = .ref a ∧ y = .ref b ∧ RnAt C CR H a o1 ∧ RnAt C CR H b o2 ∧ ∀ H', Same H H' → Q (.bl (decide (o1 = o2))) H'
theorem op_eqRn (S : Spc X.prog X.w X.K X.mg X.base CR "__eq__" 3 ["self", "other"] (spREq C CR)) (hr : Room 3 X.A) : OpR X (compareOp .Eq) (rEqRn C CR) := by
  obtain ⟨f, fd, ow, F, hb⟩ := S
  refine OpR.imp (op_eqOwn ow F hb hr (pass0)) fun x y H Q h => ?_
  obtain ⟨a, b, o1, o2, rfl, rfl, ha, hb', q⟩ := h
  obtain ⟨dx, _, h1, _⟩ := id ha
  obtain ⟨dy, _, h2, _⟩ := id hb'
  exact ⟨a, dx, _, b, dy, _, rfl, rfl, h1, h2, a, b, o1, o2, rfl, ha, hb', fun H' s => ⟨_, rfl, q H' s⟩⟩
end
end Js

set_option Elab.async false
set_option linter.all false
set_option maxRecDepth 100000
set_option maxHeartbeats 2000000
namespace Js
open PySem L2
open PySem.Spec PyProof.Rows
abbrev sLaw : Stmt := top 77
theorem mult25 (n : Nat) : 2 ≤ (if (if ((n : Nat) : Int) < 5 then ((n : Nat) : Int) else 5) > 2 then (if ((n : Nat) : Int) < 5 then ((n : Nat) : Int) else 5) else 2) ∧ (if (if ((n : Nat) : Int) < 5 then ((n : Nat) : Int) else 5) > 2 then (if ((n : Nat) : Int) < 5 then ((n : Nat) : Int) else 5) else 2) ≤ 5 := by
  constructor
  · split <;> omega
  · split <;> split <;> omega
def spLaw (K : PySem.W.Frag) : Sp := fun vs H Q _ => ∃ (a : Addr) (ns : List Int), vs = [.ref a] ∧ SqL K H a (ns.map V.int) ∧ ns.length ≤ 63 ∧ ∀ H', Q (.bl true) H'
section
variable {P : Program} {w : World} {K : PySem.W.Frag} {mg : Str → Option Value} {base : Heap} {C CP CR fI fP : Addr} {fdI fdP : FuncData}
theorem scL : FnScope ["_law_script", "_law_k", "_law_bag_here", "_law_deeds_here", "_law_one_here", "_law_other", "_law_program", "_law_thing_here", "_law_due"] ["_law_script"] (defScope sLaw) := ⟨rfl, rfl, rfl, by decide +kernel, rfl, by decide +kernel, by decide +kernel⟩
theorem ok_law {f : Addr} {fd : FuncData} (F : Fun K "law" "law" sLaw f fd) (B : Blt mg) (T : Txt K mg C) (TP : TxtP K mg CP) (TR : TxtR K mg CR) (mk : Maker P w K mg base C fI fdI) (MP : MakerP P w K mg base C CP fP fdP) (SE : Spc P w K mg base C "__eq__" 2 ["self", "other"] (spEqT C)) (SPS : Spc P w K mg base CP "__str__" 24 ["self"] (spPStr K C CP)) (SRn : Spc P w K mg base CR "__eq__" 3 ["self", "other"] (spREq C CR)) (DB : Def P w K mg base "_law_bag" 1 ["_law_script", "_law_at"] (spBag K)) (DTk : Def P w K mg base "_law_take" 1 ["_law_bag_here", "_law_many"] spTake) (DTh : Def P w K mg base "_law_thing" 4 ["_law_bag_here", "_law_many"] (spThing C)) (DTo : Def P w K mg base "_law_top" 15 ["_law_bag_here", "_law_many"] (spTop K C))
    (DLk : Def P w K mg base "_law_like" 5 ["_law_bag_here", "_law_deeds_here"] (spLike K C)) (DOn : Def P w K mg base "_law_one" 36 ["_law_program"] (spOne K C CP)) (DTw : Def P w K mg base "_law_two" 36 ["_law_one_here", "_law_other"] (spTwo K C CP)) (DCo : Def P w K mg base "code_of" 33 ["program"] (spCodeOf K C CP)) (DPo : Def P w K mg base "program_of" 34 ["thing"] (spProgOf K C CP)) (DIw : Def P w K mg base "is_code" 35 ["thing"] (spIsCodeW C)) (DRp : Def P w K mg base "read_program" 35 ["text"] (spRdP K C CP)) (DR : Def P w K mg base "run" 7 ["program", "thing", "budget"] (spRun K C CP CR)) : FnOk P w K mg base CX0 37 f fd ["_law_script"] (spLaw K) := by
  refine F.ok scL (fun vs H Q E h => ?_) (fun cdv A outer s H vs Q E hr h => ?_)
  · obtain ⟨a, ns, rfl, _⟩ := h
    rfl
  · obtain ⟨a, ns, rfl, hS, hlen, k⟩ := h
    have hr1 : Room 1 _ := hr.mono (by decide)
    have hr3 : Room 3 _ := hr.mono (by decide)
    have hr4 : Room 4 _ := hr.mono (by decide)
    have hr5 : Room 5 _ := hr.mono (by decide)
    have hr7 : Room 7 _ := hr.mono (by decide)
    have hr15 : Room 15 _ := hr.mono (by decide)
    have hr26 : Room 26 _ := hr.mono (by decide)
    have hr33 : Room 33 _ := hr.mono (by decide)
    have hr34 : Room 34 _ := hr.mono (by decide)
    have hr35 : Room 35 _ := hr.mono (by decide)
    have hr36 : Room 36 _ := hr
    refine ⟨_, pss_cons (ps_for PassesOwn.never rfl (pi_range1 rfl B.range (pa_cons (pe_callB (call_max2 rfl) (by rfl) B.max (by decide +kernel) (pa_cons pe_int (pa_cons (pe_callB (call_min2 rfl) (by rfl) B.min (by decide +kernel) (pa_cons pe_int (pa_cons (pe_callB call_len_seq (by rfl) B.len PySem.boot_len (pa_cons (pv 0) pa_nil)) pa_nil))) pa_nil))) pa_nil)) (pg_name (i := 1) scL.nd rfl (Or.inl rfl)) (pss_cons (ps_set (i := 2) scL.nd rfl (Or.inl rfl) (pe_def DB hr1 rfl (pa_cons (pv 0) (pa_cons (pv 1) pa_nil)))) (pss_cons (ps_set (i := 3) scL.nd rfl (Or.inl rfl) (pe_def DTo hr15 rfl (pa_cons (pv 2) (pa_cons (pe_def DTk hr1 rfl (pa_cons (pv 2) (pa_cons pe_int pa_nil))) pa_nil)))) (pss_cons (ps_par (i := 4) (j := 5) (by rfl) scL.nd rfl rfl (by decide) rfl rfl (pa_cons (pe_P MP hr15 rfl (pa_cons (pv 3) pa_nil)) (pa_cons (pe_P MP hr15 rfl (pa_cons (pe_def DLk hr5 rfl (pa_cons (pv 2) (pa_cons (pv 3) pa_nil))) pa_nil)) pa_nil)) (by rfl)) (pss_cons (ps_for PassesOwn.never rfl (pi_list (pe_lst (pa_cons (pv 4) (pa_cons (pv 5) (pa_cons (pv 4) pa_nil))))) (pg_name (i := 6) scL.nd rfl (Or.inl rfl)) (pss_one (ps_if (pt_not (pt_val (pe_def DOn hr36 rfl (pa_cons (pv 6) pa_nil)))) (pss_one (ps_ret pe_bl)) pss_nil))) (pss_cons (ps_if (PW.pt (pw_or (pt_not (pt_val (pe_def DTw hr36 rfl (pa_cons (pv 4) (pa_cons (pv 5) pa_nil))))) (pw_or (pt_not (pt_val (pe_def DTw hr36 rfl (pa_cons (pv 5) (pa_cons (pv 4) pa_nil))))) (pw_or1 (pt_not (pt_val (pe_def DTw hr36 rfl (pa_cons (pv 4) (pa_cons (pe_P MP hr15 rfl (pa_cons (pv 3) pa_nil)) pa_nil))))))))) (pss_one (ps_ret pe_bl)) pss_nil) (pss_cons (ps_set (i := 7) scL.nd rfl (Or.inl rfl) (pe_def DTh hr4 rfl (pa_cons (pv 2) (pa_cons (pe_def DTk hr1 rfl (pa_cons (pv 2) (pa_cons pe_int pa_nil))) pa_nil)))) (pss_cons (ps_set (i := 8) scL.nd rfl (Or.inl rfl) (pe_def DR hr7 rfl (pa_cons (pv 4) (pa_cons (pv 7) (pa_cons pe_int pa_nil))))) (pss_cons (ps_if (PW.pt (pw_or (pt_cmpR (op_neRn SRn TR hr4) (pe_def DR hr7 rfl (pa_cons (pe_def DPo hr34 rfl (pa_cons (pe_def DCo hr33 rfl (pa_cons (pv 4) pa_nil)) pa_nil)) (pa_cons (pv 7) (pa_cons pe_int pa_nil)))) (pv 8) (nomark _)) (pw_or1 (pt_cmpR (op_neRn SRn TR hr4) (pe_def DR hr7 rfl (pa_cons (pe_def DRp hr35 rfl (pa_cons (pe_callTy (call_strP SPS hr26) (by rfl) B.str PyProof.Rows.boot_str (pa_cons (pv 4) pa_nil)) pa_nil)) (pa_cons (pv 7) (pa_cons pe_int pa_nil)))) (pv 8) (nomark _))))) (pss_one (ps_ret pe_bl)) pss_nil) (pss_one (ps_if (PW.pt (pw_and (pt_val (pe_def DIw hr35 rfl (pa_cons (pv 7) pa_nil))) (pw_and1 (pt_cmpR (op_neT SE T hr3) (pe_def DCo hr33 rfl (pa_cons (pe_def DPo hr34 rfl (pa_cons (pv 7) pa_nil)) pa_nil)) (pv 7) (nomark _))))) (pss_one (ps_ret pe_bl)) pss_nil))))))))))) (pss_one (ps_ret pe_bl)), ?_⟩
    have hsl := line4
    refine ⟨_, rfl, a, _, rfl, .inl hS, _, _, rfl, _, _, rfl, ?_⟩
    rw [List.length_map]
    have hj := mult25 ns.length
    revert hj
    generalize (if (if ((ns.length : Nat) : Int) < 5 then ((ns.length : Nat) : Int) else 5) > 2 then (if ((ns.length : Nat) : Int) < 5 then ((ns.length : Nat) : Int) else 5) else 2) = j
    intro hj
    refine ⟨j, rfl, by omega, by omega, for_range (n := j.toNat) (fun i σ H' => ∃ x1 x2 x3 x4 x5 x6 x7 x8 : Option V, σ = [some (.ref a), x1, x2, x3, x4, x5, x6, x7, x8] ∧ Same H H') ⟨none, none, none, none, none, none, none, none, rfl, Same.refl H⟩ ?_ (fun σ H' z => k H')⟩
    rintro i σ H0 hi ⟨x1, x2, x3, x4, x5, x6, x7, x8, rfl, s0⟩
    refine ⟨_, rfl, _, rfl, a, ns, i, by rw [Int.zero_add]; rfl, s0.seq hS, by omega, fun p H1 sb np hbag => ?_⟩
    have hp0 : H p = none := s0.free np
    have nep : ∀ {G : Hp} {D : Addr}, BagOk G p → G D = none → D ≠ p := fun bag n z => by
      obtain ⟨bx, hbx⟩ := bag.some
      rw [z, hbx] at n
      cases n
    refine ⟨_, rfl, _, rfl, p, 21, rfl, hbag, by decide, by decide, fun d2 H2 k2 b2 d20 d21 => ?_⟩
    obtain ⟨n2, rfl⟩ := Int.eq_ofNat_of_zero_le d20
    refine ⟨p, n2, rfl, b2, by omega, fun q r H3 k3 b3 hq hd hm hs => ?_⟩
    refine ⟨_, rfl, q, r, rfl, hq, by omega, by omega, fun a1 H4 s4 na1 ha1 => ?_⟩
    have b4 := b3.same s4
    have hq4 := hq.same s4
    refine ⟨_, rfl, _, rfl, p, q, r, rfl, b4, hq4, by omega, hs, fun q2 r2 H5 k5 b5 hq2 hd2 hm2 hs2 => ?_⟩
    have kt45 := b4.kt k5
    refine ⟨q2, r2, rfl, hq2, by omega, by omega, fun a2 H6 s6 na2 ha2 => ?_⟩
    have kt46 := kt45.trans (KT.of s6)
    have g1 : PgS K C CP H6 a1 r := ⟨ha1.kt kt46, by omega, hs⟩
    have g2 : PgS K C CP H6 a2 r2 := ⟨ha2, by omega, hs2⟩
    have hq6 := hq4.kt kt46
    have kb16 : KB p H1 H6 := (k2.trans k3).trans ((KB.of s4).trans (k5.trans (KB.of s6)))
    have b6 := b5.same s6
    have hG1 : manyR r ≤ 40 := by omega
    have hp6 : ∀ {G : Hp}, KB p H6 G → Same H G := fun kb b o h => kb _ _ (ne_of_none h hp0) (kb16 _ _ (ne_of_none h hp0) (sb _ _ (s0 _ _ h)))
    refine ⟨_, _, rfl, _, rfl, _, rfl, _, rfl, by show 3 ≤ sizeLine; decide, fun Ls nLs => ?_⟩
    have s7 := Same.new nLs (o := .lst [.ref a1, .ref a2, .ref a1])
    have eLs : (upd H6 Ls (.lst [.ref a1, .ref a2, .ref a1])) Ls = some (.lst [.ref a1, .ref a2, .ref a1]) := upd_same
    revert s7 eLs
    generalize upd H6 Ls (.lst [.ref a1, .ref a2, .ref a1]) = H7
    intro s7 eLs
    have pgs : ∀ v ∈ [V.ref a1, .ref a2, .ref a1], ∃ z rz, v = .ref z ∧ PgS K C CP H7 z rz := by
      intro v hv
      simp only [List.mem_cons, List.not_mem_nil, or_false] at hv
      rcases hv with rfl | rfl | rfl
      · exact ⟨_, _, rfl, g1.same s7⟩
      · exact ⟨_, _, rfl, g2.same s7⟩
      · exact ⟨_, _, rfl, g1.same s7⟩
    refine ⟨Ls, rfl, ⟨_, SqL.of eLs⟩, for_list (K := K) (a := Ls) (xs := [V.ref a1, .ref a2, .ref a1]) (fun j σ H' => ∃ y6 : Option V, σ = [some (.ref a), some (.int (0 + ((i : Nat) : Int))), some (.ref p), some (.ref q), some (.ref a1), some (.ref a2), y6, x7, x8] ∧ Same H7 H') ⟨x6, rfl, Same.refl _⟩ (fun j σ H' _ z => by obtain ⟨_, _, h⟩ := z; exact SqL.of (h _ _ eLs)) ?_ ?_⟩
    · rintro j v σ H8 hv ⟨y6, rfl, s8⟩
      obtain ⟨z, rz, rfl, hz⟩ := pgs v (List.mem_of_getElem? hv)
      refine ⟨_, rfl, z, rz, rfl, hz.same s8, fun H9 s9 => ⟨_, rfl, iteF ?_⟩⟩
      exact ⟨_, rfl, s8.trans s9⟩
    rintro σ H8 ⟨y6, rfl, s8⟩
    have s68 := s7.trans s8
    have g18 := g1.same s68
    have g28 := g2.same s68
    refine ⟨_, rfl, _, rfl, a1, a2, r, r2, rfl, g18, g28, by omega, fun H9 s9 => ⟨_, rfl, iteF ?_⟩⟩
    refine ⟨_, rfl, _, rfl, a2, a1, r2, r, rfl, g28.same s9, g18.same s9, by omega, fun HA sA => ⟨_, rfl, iteF ?_⟩⟩
    have s8A := s9.trans sA
    have s6A := s68.trans s8A
    refine ⟨_, rfl, _, rfl, q, r, rfl, hq6.same s6A, by omega, by omega, fun a3 HB sB na3 ha3 => ?_⟩
    have g1B := (g18.same s8A).same sB
    refine ⟨a1, a3, r, r, rfl, g1B, ⟨ha3, by omega, hs⟩, by omega, fun HC sC => ⟨_, rfl, iteF ?_⟩⟩
    have g1C := g1B.same sC
    have bC := b6.same ((s6A.trans sB).trans sC)
    have kb6C := KB.of (p := p) ((s6A.trans sB).trans sC)
    refine ⟨_, rfl, _, rfl, p, 13, rfl, bC, by decide, by decide, fun dd HD kD bD dd0 dd1 => ?_⟩
    obtain ⟨nd, rfl⟩ := Int.eq_ofNat_of_zero_le dd0
    refine ⟨p, nd, rfl, bD, by omega, fun x t HE kE bE hx hxz => ?_⟩
    have ktCE := (bC.kt kD).trans (bD.kt kE)
    have haE := g1C.at_.kt ktCE
    have hcz := g1C.csz
    have hbg := g1C.big
    have htl := textR_le r
    have hsm := sumR_eq r
    have hok := g1C.at_.okr
    have hdp := g1C.at_.dp
    have kb6E := (kb6C.trans kD).trans kE
    refine ⟨_, rfl, _, rfl, a1, x, r, t, 200, rfl, haE, hx, by omega, fun zk HF sF _ hk => ?_⟩
    refine ⟨_, rfl, a1, r, rfl, haE.same sF, by omega, fun c HG sG hc => ?_⟩
    refine ⟨c, r, rfl, hc, hok, hdp, by omega, by omega, fun z1 HH sH nz1 hz1 => ?_⟩
    have sEH := (sF.trans sG).trans sH
    refine ⟨_, rfl, z1, x, r, t, 200, rfl, hz1, hx.same sEH, by omega, fun zk2 HI sI _ hk2 => ?_⟩
    refine ⟨_, rfl, zk2, zk, _, _, rfl, rfl, hk2, hk.same ((sG.trans sH).trans sI), fun HJ sJ => ⟨_, rfl, ?_⟩⟩
    rw [decide_eq_true rfl]
    refine iteF ?_
    have sEJ := (sEH.trans sI).trans sJ
    refine ⟨_, rfl, a1, r, rfl, haE.same sEJ, by omega, fun HK sK => ?_⟩
    refine ⟨r, rfl, hok, hdp, by omega, by omega, fun z2 HL sL nz2 hz2 => ?_⟩
    have sEL := (sEJ.trans sK).trans sL
    refine ⟨_, rfl, z2, x, r, t, 200, rfl, hz2, hx.same sEL, by omega, fun zk3 HM sM _ hk3 => ?_⟩
    refine ⟨_, rfl, zk3, zk, _, _, rfl, rfl, hk3, hk.same (((sG.trans sH).trans (sI.trans sJ)).trans ((sK.trans sL).trans sM)), fun HN sN => ⟨_, rfl, ?_⟩⟩
    rw [decide_eq_true rfl]
    refine iteF ?_
    have sEN := (sEL.trans sM).trans sN
    have hxN := hx.same sEN
    have fin : ∀ {G : Hp}, Same HN G → Same H G := fun sx => hp6 ((kb6E.trans (KB.of sEN)).trans (KB.of sx))
    refine ⟨_, rfl, x, t, rfl, hxN, by omega, fun HO sO => ⟨fun hc => ?_, fun hno => ?_⟩⟩
    · obtain ⟨rt, ert, hok2, hdp2, hmn2⟩ := hc
      subst ert
      refine ⟨_, rfl, iteT ?_⟩
      refine ⟨_, rfl, x, rt, rfl, hxN.same sO, hok2, hdp2, hmn2, by omega, fun z4 HP sP nz4 hz4 => ?_⟩
      refine ⟨z4, rt, rfl, hz4, by omega, fun c5 HQ sQ hc5 => ?_⟩
      refine ⟨_, rfl, c5, x, _, _, rfl, rfl, hc5, ((hxN.same sO).same sP).same sQ, by omega, fun HR sR => ⟨_, rfl, ?_⟩⟩
      rw [decide_eq_true rfl]
      refine iteF ?_
      exact ⟨_, _, _, _, _, _, _, _, rfl, fin (((sO.trans sP).trans sQ).trans sR)⟩
    · exact ⟨_, rfl, iteF ⟨_, _, _, _, _, _, _, _, rfl, fin sO⟩⟩
end
end Js

set_option Elab.async false
set_option linter.all false
set_option maxRecDepth 100000
set_option maxHeartbeats 4000000
namespace Js
open PySem L2 PyProof.Rows
theorem all_mk {P : Program} {w : World} {K : PySem.W.Frag} {h : Heap} {mg : Str → Option Value} {fa C : Addr} (X : K.In h) (G : h.Ns mainGlobals mg) (hfa : mg "law" = some (.ref fa))
    {tM : Tok}
    {oI : Value} {odI anI odT : Option Addr} {slI slT : Array (Option Value)} {kVI dcI pmI cdI ctI ocT : Value} {fI TI : Addr} {nT : Nat}
    {fHd : Addr} {ocHd kVHd dcHd pmHd cdHd ctHd : Value} {odHd anHd : Option Addr} {slHd : Array (Option Value)}
    {fTl : Addr} {ocTl kVTl dcTl pmTl cdTl ctTl : Value} {odTl anTl : Option Addr} {slTl : Array (Option Value)}
    {fEq : Addr} {ocEq kVEq dcEq pmEq cdEq ctEq : Value} {odEq anEq : Option Addr} {slEq : Array (Option Value)}
    {fSt : Addr} {ocSt kVSt dcSt pmSt cdSt ctSt : Value} {odSt anSt : Option Addr} {slSt : Array (Option Value)}
    {fPa : Addr} {ocPa kVPa dcPa pmPa cdPa ctPa : Value} {odPa anPa : Option Addr} {slPa : Array (Option Value)}
    {fAl : Addr} {ocAl kVAl dcAl pmAl cdAl ctAl : Value} {odAl anAl : Option Addr} {slAl : Array (Option Value)}
    {fSg : Addr} {ocSg kVSg dcSg pmSg cdSg ctSg : Value} {odSg anSg : Option Addr} {slSg : Array (Option Value)}
    {fIn : Addr} {ocIn kVIn dcIn pmIn cdIn ctIn : Value} {odIn anIn : Option Addr} {slIn : Array (Option Value)}
    {fFt : Addr} {ocFt kVFt dcFt pmFt cdFt ctFt : Value} {odFt anFt : Option Addr} {slFt : Array (Option Value)}
    {fHf : Addr} {ocHf kVHf dcHf pmHf cdHf ctHf : Value} {odHf anHf : Option Addr} {slHf : Array (Option Value)}
    {fRi : Addr} {ocRi kVRi dcRi pmRi cdRi ctRi : Value} {odRi anRi : Option Addr} {slRi : Array (Option Value)}
    {fLk : Addr} {ocLk kVLk dcLk pmLk cdLk ctLk : Value} {odLk anLk : Option Addr} {slLk : Array (Option Value)}
    {fLy : Addr} {ocLy kVLy dcLy pmLy cdLy ctLy : Value} {odLy anLy : Option Addr} {slLy : Array (Option Value)}
    {fNi : Addr} {ocNi kVNi dcNi pmNi cdNi ctNi : Value} {odNi anNi : Option Addr} {slNi : Array (Option Value)}
    {fRw : Addr} {ocRw kVRw dcRw pmRw cdRw ctRw : Value} {odRw anRw : Option Addr} {slRw : Array (Option Value)}
    {fDw : Addr} {ocDw kVDw dcDw pmDw cdDw ctDw : Value} {odDw anDw : Option Addr} {slDw : Array (Option Value)}
    {fNu : Addr} {ocNu kVNu dcNu pmNu cdNu ctNu : Value} {odNu anNu : Option Addr} {slNu : Array (Option Value)}
    {fRo : Addr} {ocRo kVRo dcRo pmRo cdRo ctRo : Value} {odRo anRo : Option Addr} {slRo : Array (Option Value)}
    {fCo : Addr} {ocCo kVCo dcCo pmCo cdCo ctCo : Value} {odCo anCo : Option Addr} {slCo : Array (Option Value)}
    {fRc : Addr} {ocRc kVRc dcRc pmRc cdRc ctRc : Value} {odRc anRc : Option Addr} {slRc : Array (Option Value)}
    {fDc : Addr} {ocDc kVDc dcDc pmDc cdDc ctDc : Value} {odDc anDc : Option Addr} {slDc : Array (Option Value)}
    {fPc : Addr} {ocPc kVPc dcPc pmPc cdPc ctPc : Value} {odPc anPc : Option Addr} {slPc : Array (Option Value)}
    {fCn : Addr} {ocCn kVCn dcCn pmCn cdCn ctCn : Value} {odCn anCn : Option Addr} {slCn : Array (Option Value)}
    {fPp : Addr} {ocPp kVPp dcPp pmPp cdPp ctPp : Value} {odPp anPp : Option Addr} {slPp : Array (Option Value)}
    {fPo : Addr} {ocPo kVPo dcPo pmPo cdPo ctPo : Value} {odPo anPo : Option Addr} {slPo : Array (Option Value)}
    {fOt : Addr} {ocOt kVOt dcOt pmOt cdOt ctOt : Value} {odOt anOt : Option Addr} {slOt : Array (Option Value)}
    {fDt : Addr} {ocDt kVDt dcDt pmDt cdDt ctDt : Value} {odDt anDt : Option Addr} {slDt : Array (Option Value)}
    {fKt : Addr} {ocKt kVKt dcKt pmKt cdKt ctKt : Value} {odKt anKt : Option Addr} {slKt : Array (Option Value)}
    {fPt : Addr} {ocPt kVPt dcPt pmPt cdPt ctPt : Value} {odPt anPt : Option Addr} {slPt : Array (Option Value)}
    {fIc : Addr} {ocIc kVIc dcIc pmIc cdIc ctIc : Value} {odIc anIc : Option Addr} {slIc : Array (Option Value)}
    {fRp : Addr} {ocRp kVRp dcRp pmRp cdRp ctRp : Value} {odRp anRp : Option Addr} {slRp : Array (Option Value)}
    {fAh : Addr} {ocAh kVAh dcAh pmAh cdAh ctAh : Value} {odAh anAh : Option Addr} {slAh : Array (Option Value)}
    {fT2 : Addr} {ocT2 kVT2 dcT2 pmT2 cdT2 ctT2 : Value} {odT2 anT2 : Option Addr} {slT2 : Array (Option Value)}
    {fFw : Addr} {ocFw kVFw dcFw pmFw cdFw ctFw : Value} {odFw anFw : Option Addr} {slFw : Array (Option Value)}
    {fRr : Addr} {ocRr kVRr dcRr pmRr cdRr ctRr : Value} {odRr anRr : Option Addr} {slRr : Array (Option Value)}
    {fRd : Addr} {ocRd kVRd dcRd pmRd cdRd ctRd : Value} {odRd anRd : Option Addr} {slRd : Array (Option Value)}
    {fRl : Addr} {ocRl kVRl dcRl pmRl cdRl ctRl : Value} {odRl anRl : Option Addr} {slRl : Array (Option Value)}
    {fRn : Addr} {ocRn kVRn dcRn pmRn cdRn ctRn : Value} {odRn anRn : Option Addr} {slRn : Array (Option Value)}
    {fRt : Addr} {ocRt kVRt dcRt pmRt cdRt ctRt : Value} {odRt anRt : Option Addr} {slRt : Array (Option Value)}
    {fRe : Addr} {ocRe kVRe dcRe pmRe cdRe ctRe : Value} {odRe anRe : Option Addr} {slRe : Array (Option Value)}
    {fWh : Addr} {ocWh kVWh dcWh pmWh cdWh ctWh : Value} {odWh anWh : Option Addr} {slWh : Array (Option Value)}
    {fDu : Addr} {ocDu kVDu dcDu pmDu cdDu ctDu : Value} {odDu anDu : Option Addr} {slDu : Array (Option Value)}
    {fYe : Addr} {ocYe kVYe dcYe pmYe cdYe ctYe : Value} {odYe anYe : Option Addr} {slYe : Array (Option Value)}
    {fFn : Addr} {ocFn kVFn dcFn pmFn cdFn ctFn : Value} {odFn anFn : Option Addr} {slFn : Array (Option Value)}
    {fDo : Addr} {ocDo kVDo dcDo pmDo cdDo ctDo : Value} {odDo anDo : Option Addr} {slDo : Array (Option Value)}
    {fMd : Addr} {ocMd kVMd dcMd pmMd cdMd ctMd : Value} {odMd anMd : Option Addr} {slMd : Array (Option Value)}
    {fBa : Addr} {ocBa kVBa dcBa pmBa cdBa ctBa : Value} {odBa anBa : Option Addr} {slBa : Array (Option Value)}
    {fTa : Addr} {ocTa kVTa dcTa pmTa cdTa ctTa : Value} {odTa anTa : Option Addr} {slTa : Array (Option Value)}
    {fTh : Addr} {ocTh kVTh dcTh pmTh cdTh ctTh : Value} {odTh anTh : Option Addr} {slTh : Array (Option Value)}
    {fNa : Addr} {ocNa kVNa dcNa pmNa cdNa ctNa : Value} {odNa anNa : Option Addr} {slNa : Array (Option Value)}
    {fDe : Addr} {ocDe kVDe dcDe pmDe cdDe ctDe : Value} {odDe anDe : Option Addr} {slDe : Array (Option Value)}
    {fDs : Addr} {ocDs kVDs dcDs pmDs cdDs ctDs : Value} {odDs anDs : Option Addr} {slDs : Array (Option Value)}
    {fTo : Addr} {ocTo kVTo dcTo pmTo cdTo ctTo : Value} {odTo anTo : Option Addr} {slTo : Array (Option Value)}
    {fOn : Addr} {ocOn kVOn dcOn pmOn cdOn ctOn : Value} {odOn anOn : Option Addr} {slOn : Array (Option Value)}
    {fTw : Addr} {ocTw kVTw dcTw pmTw cdTw ctTw : Value} {odTw anTw : Option Addr} {slTw : Array (Option Value)}
    {fLi : Addr} {ocLi kVLi dcLi pmLi cdLi ctLi : Value} {odLi anLi : Option Addr} {slLi : Array (Option Value)}
    {fLaw : Addr} {ocLaw kVLaw dcLaw pmLaw cdLaw ctLaw : Value} {odLaw anLaw : Option Addr} {slLaw : Array (Option Value)}
    {tkRu : Tok}
    {CP dF : Addr} {esF : Array DictEntry} {nFm : Nat} {tN1 tN2 tN3 tf0 tf1 tf2 tf3 tf4 tf5 tf6 : Tok}
    {fPI : Addr} {ocPI kVPI dcPI pmPI cdPI ctPI : Value} {odPI anPI : Option Addr} {slPI : Array (Option Value)}
    {fPL : Addr} {ocPL kVPL dcPL pmPL cdPL ctPL : Value} {odPL anPL : Option Addr} {slPL : Array (Option Value)}
    {fPE : Addr} {ocPE kVPE dcPE pmPE cdPE ctPE : Value} {odPE anPE : Option Addr} {slPE : Array (Option Value)}
    {fPS : Addr} {ocPS kVPS dcPS pmPS cdPS ctPS : Value} {odPS anPS : Option Addr} {slPS : Array (Option Value)}
    {CR : Addr}
    {fRQ : Addr} {ocRQ kVRQ dcRQ pmRQ cdRQ ctRQ : Value} {odRQ anRQ : Option Addr} {slRQ : Array (Option Value)}
    {fRI TRI : Addr} {ocRI kVRI dcRI pmRI cdRI ctRI otRI : Value} {odRI anRI odtRI : Option Addr} {slRI sltRI : Array (Option Value)} {ntRI : Nat}
    {fRu TRu : Addr} {ocRu kVRu dcRu pmRu cdRu ctRu otRu : Value} {odRu anRu odtRu : Option Addr} {slRu sltRu : Array (Option Value)} {ntRu : Nat}
    {N fN : Addr} {nmN qN : Str} {NN : Addr} {bsN : List Value} {snN : List Str} {subN : List Value} {abN : Bool} {colN : Option Bool} {ddN : Option Addr} {m0N m1N m2N m3N m5N : Option Value}
    {ocN kVN dcN pmN cdN ctN : Value} {odN anN : Option Addr} {slN : Array (Option Value)}
    {NP fZ : Addr} {nmZ qZ : Str} {NZ : Addr} {bsZ : List Value} {snZ : List Str} {subZ : List Value} {abZ : Bool} {colZ : Option Bool} {ddZ : Option Addr} {m0Z m1Z m2Z m3Z m5Z : Option Value}
    {ocZ kVZ dcZ pmZ cdZ ctZ : Value} {odZ anZ : Option Addr} {slZ : Array (Option Value)}
    {CD : Addr}
    {fDI : Addr} {ocDI kVDI dcDI pmDI cdDI ctDI : Value} {odDI anDI : Option Addr} {slDI : Array (Option Value)}
    {tL u1 u2 u3 u4 u5 u6 : Tok} {aLooA aTakA NT : Addr} {odLoo odTak : Option Addr} {nLoo nTak : Nat} {slLoo slTak : Array (Option Value)}
    (aC : PySem.W.nsIn K mainGlobals "Thing" = some (some (.ref C)))
    (pg : PySem.W.plainGet K C Str.empty = true)
    (hd : PySem.W.hasDictIn K C = true)
    (po : PySem.W.plainOver K C = true)
    (sa : PySem.W.findIn K (.ref C) "__setattr__" = some (some (.builtin "object.__setattr__")))
    (mkC : PySem.W.makesIn K C = true)
    (kc : PySem.W.keepIn K (.ref C) = true)
    (nF : PySem.W.findIn K (.ref C) "first" = some none)
    (nS : PySem.W.findIn K (.ref C) "second" = some none)
    (nZ : PySem.W.findIn K (.ref C) "size" = some none)
    (ca : PySem.W.findIn K (.ref C) "__class__" = some (some (.builtin "object.__class__")))
    (cn : PySem.W.specialIn K (.builtin "object.__class__") "__get__" = some (some (.builtin "getset_descriptor.__get__")))
    (ct : PySem.W.takesIn K (.builtin "object.__class__") = some true)
    (cm : PySem.W.mroIn K C (.type "object") = some true)
    (neC : PySem.W.findIn K (.ref C) "__ne__" = some (some (.builtin "object.__ne__")))
    (aM : PySem.W.nsIn K mainGlobals "MOST_PAIRS" = some (some (.int 4000 tM)))
    (aI : PySem.W.findIn K (.ref C) "__init__" = some (some (.ref fI)))
    (iI : PySem.W.isFn K (.ref fI) = true)
    (lI : K.lookup fI = some ⟨oI, odI, .func (PySem.W.fnOf "__init__" "Thing.__init__" (defArgs sInit) (defBody sInit) (defScope sInit) (.ref TI) kVI dcI pmI anI cdI ctI), slI⟩)
    (cI : PySem.W.codeIn K cdI "Thing.__init__" = true)
    (kI : PySem.W.keepIn K (.ref fI) = true)
    (lT : K.lookup TI = some ⟨ocT, odT, .seq #[.none, .none] nT, slT⟩)
    (aHd : PySem.W.findIn K (.ref C) "head" = some (some (.ref fHd)))
    (iHd : PySem.W.isFn K (.ref fHd) = true)
    (lHd : K.lookup fHd = some ⟨ocHd, odHd, .func (PySem.W.fnOf "head" "Thing.head" (defArgs sHead) (defBody sHead) (defScope sHead) .none kVHd dcHd pmHd anHd cdHd ctHd), slHd⟩)
    (cHd : PySem.W.codeIn K cdHd "Thing.head" = true)
    (kHd : PySem.W.keepIn K (.ref fHd) = true)
    (aTl : PySem.W.findIn K (.ref C) "tail" = some (some (.ref fTl)))
    (iTl : PySem.W.isFn K (.ref fTl) = true)
    (lTl : K.lookup fTl = some ⟨ocTl, odTl, .func (PySem.W.fnOf "tail" "Thing.tail" (defArgs sTail) (defBody sTail) (defScope sTail) .none kVTl dcTl pmTl anTl cdTl ctTl), slTl⟩)
    (cTl : PySem.W.codeIn K cdTl "Thing.tail" = true)
    (kTl : PySem.W.keepIn K (.ref fTl) = true)
    (aEq : PySem.W.findIn K (.ref C) "__eq__" = some (some (.ref fEq)))
    (iEq : PySem.W.isFn K (.ref fEq) = true)
    (lEq : K.lookup fEq = some ⟨ocEq, odEq, .func (PySem.W.fnOf "__eq__" "Thing.__eq__" (defArgs sEq) (defBody sEq) (defScope sEq) .none kVEq dcEq pmEq anEq cdEq ctEq), slEq⟩)
    (cEq : PySem.W.codeIn K cdEq "Thing.__eq__" = true)
    (kEq : PySem.W.keepIn K (.ref fEq) = true)
    (aSt : PySem.W.findIn K (.ref C) "__str__" = some (some (.ref fSt)))
    (iSt : PySem.W.isFn K (.ref fSt) = true)
    (lSt : K.lookup fSt = some ⟨ocSt, odSt, .func (PySem.W.fnOf "__str__" "Thing.__str__" (defArgs sStr) (defBody sStr) (defScope sStr) .none kVSt dcSt pmSt anSt cdSt ctSt), slSt⟩)
    (cSt : PySem.W.codeIn K cdSt "Thing.__str__" = true)
    (kSt : PySem.W.keepIn K (.ref fSt) = true)
    (aPa : PySem.W.nsIn K mainGlobals "pairs_in" = some (some (.ref fPa)))
    (lPa : K.lookup fPa = some ⟨ocPa, odPa, .func (PySem.W.fnOf "pairs_in" "pairs_in" (defArgs sPairs) (defBody sPairs) (defScope sPairs) .none kVPa dcPa pmPa anPa cdPa ctPa), slPa⟩)
    (cPa : PySem.W.codeIn K cdPa "pairs_in" = true)
    (kPa : PySem.W.keepIn K (.ref fPa) = true)
    (aAl : PySem.W.nsIn K mainGlobals "alike" = some (some (.ref fAl)))
    (lAl : K.lookup fAl = some ⟨ocAl, odAl, .func (PySem.W.fnOf "alike" "alike" (defArgs sAlike) (defBody sAlike) (defScope sAlike) .none kVAl dcAl pmAl anAl cdAl ctAl), slAl⟩)
    (cAl : PySem.W.codeIn K cdAl "alike" = true)
    (kAl : PySem.W.keepIn K (.ref fAl) = true)
    (aSg : PySem.W.nsIn K mainGlobals "signs" = some (some (.ref fSg)))
    (lSg : K.lookup fSg = some ⟨ocSg, odSg, .func (PySem.W.fnOf "signs" "signs" (defArgs sSigns) (defBody sSigns) (defScope sSigns) .none kVSg dcSg pmSg anSg cdSg ctSg), slSg⟩)
    (cSg : PySem.W.codeIn K cdSg "signs" = true)
    (kSg : PySem.W.keepIn K (.ref fSg) = true)
    (aIn : PySem.W.nsIn K mainGlobals "is_name" = some (some (.ref fIn)))
    (lIn : K.lookup fIn = some ⟨ocIn, odIn, .func (PySem.W.fnOf "is_name" "is_name" (defArgs sIsName) (defBody sIsName) (defScope sIsName) .none kVIn dcIn pmIn anIn cdIn ctIn), slIn⟩)
    (cIn : PySem.W.codeIn K cdIn "is_name" = true)
    (kIn : PySem.W.keepIn K (.ref fIn) = true)
    (aFt : PySem.W.nsIn K mainGlobals "fits" = some (some (.ref fFt)))
    (lFt : K.lookup fFt = some ⟨ocFt, odFt, .func (PySem.W.fnOf "fits" "fits" (defArgs sFits) (defBody sFits) (defScope sFits) .none kVFt dcFt pmFt anFt cdFt ctFt), slFt⟩)
    (cFt : PySem.W.codeIn K cdFt "fits" = true)
    (kFt : PySem.W.keepIn K (.ref fFt) = true)
    (aHf : PySem.W.nsIn K mainGlobals "has_form" = some (some (.ref fHf)))
    (lHf : K.lookup fHf = some ⟨ocHf, odHf, .func (PySem.W.fnOf "has_form" "has_form" (defArgs sHasForm) (defBody sHasForm) (defScope sHasForm) .none kVHf dcHf pmHf anHf cdHf ctHf), slHf⟩)
    (cHf : PySem.W.codeIn K cdHf "has_form" = true)
    (kHf : PySem.W.keepIn K (.ref fHf) = true)
    (aRi : PySem.W.nsIn K mainGlobals "rows_in" = some (some (.ref fRi)))
    (lRi : K.lookup fRi = some ⟨ocRi, odRi, .func (PySem.W.fnOf "rows_in" "rows_in" (defArgs sRowsIn) (defBody sRowsIn) (defScope sRowsIn) .none kVRi dcRi pmRi anRi cdRi ctRi), slRi⟩)
    (cRi : PySem.W.codeIn K cdRi "rows_in" = true)
    (kRi : PySem.W.keepIn K (.ref fRi) = true)
    (aLk : PySem.W.nsIn K mainGlobals "look_through" = some (some (.ref fLk)))
    (lLk : K.lookup fLk = some ⟨ocLk, odLk, .func (PySem.W.fnOf "look_through" "look_through" (defArgs sLook) (defBody sLook) (defScope sLook) .none kVLk dcLk pmLk anLk cdLk ctLk), slLk⟩)
    (cLk : PySem.W.codeIn K cdLk "look_through" = true)
    (kLk : PySem.W.keepIn K (.ref fLk) = true)
    (aLy : PySem.W.nsIn K mainGlobals "lay_out" = some (some (.ref fLy)))
    (lLy : K.lookup fLy = some ⟨ocLy, odLy, .func (PySem.W.fnOf "lay_out" "lay_out" (defArgs sLay) (defBody sLay) (defScope sLay) .none kVLy dcLy pmLy anLy cdLy ctLy), slLy⟩)
    (cLy : PySem.W.codeIn K cdLy "lay_out" = true)
    (kLy : PySem.W.keepIn K (.ref fLy) = true)
    (aNi : PySem.W.nsIn K mainGlobals "names_in" = some (some (.ref fNi)))
    (lNi : K.lookup fNi = some ⟨ocNi, odNi, .func (PySem.W.fnOf "names_in" "names_in" (defArgs sNamesIn) (defBody sNamesIn) (defScope sNamesIn) .none kVNi dcNi pmNi anNi cdNi ctNi), slNi⟩)
    (cNi : PySem.W.codeIn K cdNi "names_in" = true)
    (kNi : PySem.W.keepIn K (.ref fNi) = true)
    (aRw : PySem.W.nsIn K mainGlobals "row_words" = some (some (.ref fRw)))
    (lRw : K.lookup fRw = some ⟨ocRw, odRw, .func (PySem.W.fnOf "row_words" "row_words" (defArgs sRowW) (defBody sRowW) (defScope sRowW) .none kVRw dcRw pmRw anRw cdRw ctRw), slRw⟩)
    (cRw : PySem.W.codeIn K cdRw "row_words" = true)
    (kRw : PySem.W.keepIn K (.ref fRw) = true)
    (aDw : PySem.W.nsIn K mainGlobals "deed_words" = some (some (.ref fDw)))
    (lDw : K.lookup fDw = some ⟨ocDw, odDw, .func (PySem.W.fnOf "deed_words" "deed_words" (defArgs sDeedW) (defBody sDeedW) (defScope sDeedW) .none kVDw dcDw pmDw anDw cdDw ctDw), slDw⟩)
    (cDw : PySem.W.codeIn K cdDw "deed_words" = true)
    (kDw : PySem.W.keepIn K (.ref fDw) = true)
    (aNu : PySem.W.nsIn K mainGlobals "number" = some (some (.ref fNu)))
    (lNu : K.lookup fNu = some ⟨ocNu, odNu, .func (PySem.W.fnOf "number" "number" (defArgs sNumber) (defBody sNumber) (defScope sNumber) .none kVNu dcNu pmNu anNu cdNu ctNu), slNu⟩)
    (cNu : PySem.W.codeIn K cdNu "number" = true)
    (kNu : PySem.W.keepIn K (.ref fNu) = true)
    (aRo : PySem.W.nsIn K mainGlobals "row" = some (some (.ref fRo)))
    (lRo : K.lookup fRo = some ⟨ocRo, odRo, .func (PySem.W.fnOf "row" "row" (defArgs sRow) (defBody sRow) (defScope sRow) .none kVRo dcRo pmRo anRo cdRo ctRo), slRo⟩)
    (cRo : PySem.W.codeIn K cdRo "row" = true)
    (kRo : PySem.W.keepIn K (.ref fRo) = true)
    (aCo : PySem.W.nsIn K mainGlobals "code_of" = some (some (.ref fCo)))
    (lCo : K.lookup fCo = some ⟨ocCo, odCo, .func (PySem.W.fnOf "code_of" "code_of" (defArgs sCodeOf) (defBody sCodeOf) (defScope sCodeOf) .none kVCo dcCo pmCo anCo cdCo ctCo), slCo⟩)
    (cCo : PySem.W.codeIn K cdCo "code_of" = true)
    (kCo : PySem.W.keepIn K (.ref fCo) = true)
    (aRc : PySem.W.nsIn K mainGlobals "row_code" = some (some (.ref fRc)))
    (lRc : K.lookup fRc = some ⟨ocRc, odRc, .func (PySem.W.fnOf "row_code" "row_code" (defArgs sRowC) (defBody sRowC) (defScope sRowC) .none kVRc dcRc pmRc anRc cdRc ctRc), slRc⟩)
    (cRc : PySem.W.codeIn K cdRc "row_code" = true)
    (kRc : PySem.W.keepIn K (.ref fRc) = true)
    (aDc : PySem.W.nsIn K mainGlobals "deed_code" = some (some (.ref fDc)))
    (lDc : K.lookup fDc = some ⟨ocDc, odDc, .func (PySem.W.fnOf "deed_code" "deed_code" (defArgs sDeedC) (defBody sDeedC) (defScope sDeedC) .none kVDc dcDc pmDc anDc cdDc ctDc), slDc⟩)
    (cDc : PySem.W.codeIn K cdDc "deed_code" = true)
    (kDc : PySem.W.keepIn K (.ref fDc) = true)
    (aPc : PySem.W.nsIn K mainGlobals "part_code" = some (some (.ref fPc)))
    (lPc : K.lookup fPc = some ⟨ocPc, odPc, .func (PySem.W.fnOf "part_code" "part_code" (defArgs sPartC) (defBody sPartC) (defScope sPartC) .none kVPc dcPc pmPc anPc cdPc ctPc), slPc⟩)
    (cPc : PySem.W.codeIn K cdPc "part_code" = true)
    (kPc : PySem.W.keepIn K (.ref fPc) = true)
    (aCn : PySem.W.nsIn K mainGlobals "counted" = some (some (.ref fCn)))
    (lCn : K.lookup fCn = some ⟨ocCn, odCn, .func (PySem.W.fnOf "counted" "counted" (defArgs sCounted) (defBody sCounted) (defScope sCounted) .none kVCn dcCn pmCn anCn cdCn ctCn), slCn⟩)
    (cCn : PySem.W.codeIn K cdCn "counted" = true)
    (kCn : PySem.W.keepIn K (.ref fCn) = true)
    (aPp : PySem.W.nsIn K mainGlobals "parts" = some (some (.ref fPp)))
    (lPp : K.lookup fPp = some ⟨ocPp, odPp, .func (PySem.W.fnOf "parts" "parts" (defArgs sParts) (defBody sParts) (defScope sParts) .none kVPp dcPp pmPp anPp cdPp ctPp), slPp⟩)
    (cPp : PySem.W.codeIn K cdPp "parts" = true)
    (kPp : PySem.W.keepIn K (.ref fPp) = true)
    (aPo : PySem.W.nsIn K mainGlobals "program_of" = some (some (.ref fPo)))
    (lPo : K.lookup fPo = some ⟨ocPo, odPo, .func (PySem.W.fnOf "program_of" "program_of" (defArgs sProgOf) (defBody sProgOf) (defScope sProgOf) .none kVPo dcPo pmPo anPo cdPo ctPo), slPo⟩)
    (cPo : PySem.W.codeIn K cdPo "program_of" = true)
    (kPo : PySem.W.keepIn K (.ref fPo) = true)
    (aOt : PySem.W.nsIn K mainGlobals "row_told" = some (some (.ref fOt)))
    (lOt : K.lookup fOt = some ⟨ocOt, odOt, .func (PySem.W.fnOf "row_told" "row_told" (defArgs sRowT) (defBody sRowT) (defScope sRowT) .none kVOt dcOt pmOt anOt cdOt ctOt), slOt⟩)
    (cOt : PySem.W.codeIn K cdOt "row_told" = true)
    (kOt : PySem.W.keepIn K (.ref fOt) = true)
    (aDt : PySem.W.nsIn K mainGlobals "deed_told" = some (some (.ref fDt)))
    (lDt : K.lookup fDt = some ⟨ocDt, odDt, .func (PySem.W.fnOf "deed_told" "deed_told" (defArgs sDeedT) (defBody sDeedT) (defScope sDeedT) .none kVDt dcDt pmDt anDt cdDt ctDt), slDt⟩)
    (cDt : PySem.W.codeIn K cdDt "deed_told" = true)
    (kDt : PySem.W.keepIn K (.ref fDt) = true)
    (aKt : PySem.W.nsIn K mainGlobals "kind_told" = some (some (.ref fKt)))
    (lKt : K.lookup fKt = some ⟨ocKt, odKt, .func (PySem.W.fnOf "kind_told" "kind_told" (defArgs sKindT) (defBody sKindT) (defScope sKindT) .none kVKt dcKt pmKt anKt cdKt ctKt), slKt⟩)
    (cKt : PySem.W.codeIn K cdKt "kind_told" = true)
    (kKt : PySem.W.keepIn K (.ref fKt) = true)
    (aPt : PySem.W.nsIn K mainGlobals "part_told" = some (some (.ref fPt)))
    (lPt : K.lookup fPt = some ⟨ocPt, odPt, .func (PySem.W.fnOf "part_told" "part_told" (defArgs sPartT) (defBody sPartT) (defScope sPartT) .none kVPt dcPt pmPt anPt cdPt ctPt), slPt⟩)
    (cPt : PySem.W.codeIn K cdPt "part_told" = true)
    (kPt : PySem.W.keepIn K (.ref fPt) = true)
    (aIc : PySem.W.nsIn K mainGlobals "is_code" = some (some (.ref fIc)))
    (lIc : K.lookup fIc = some ⟨ocIc, odIc, .func (PySem.W.fnOf "is_code" "is_code" (defArgs sIsCode) (defBody sIsCode) (defScope sIsCode) .none kVIc dcIc pmIc anIc cdIc ctIc), slIc⟩)
    (cIc : PySem.W.codeIn K cdIc "is_code" = true)
    (kIc : PySem.W.keepIn K (.ref fIc) = true)
    (aRp : PySem.W.nsIn K mainGlobals "read_program" = some (some (.ref fRp)))
    (lRp : K.lookup fRp = some ⟨ocRp, odRp, .func (PySem.W.fnOf "read_program" "read_program" (defArgs sRdP) (defBody sRdP) (defScope sRdP) .none kVRp dcRp pmRp anRp cdRp ctRp), slRp⟩)
    (cRp : PySem.W.codeIn K cdRp "read_program" = true)
    (kRp : PySem.W.keepIn K (.ref fRp) = true)
    (aAh : PySem.W.nsIn K mainGlobals "ahead" = some (some (.ref fAh)))
    (lAh : K.lookup fAh = some ⟨ocAh, odAh, .func (PySem.W.fnOf "ahead" "ahead" (defArgs sAhead) (defBody sAhead) (defScope sAhead) .none kVAh dcAh pmAh anAh cdAh ctAh), slAh⟩)
    (cAh : PySem.W.codeIn K cdAh "ahead" = true)
    (kAh : PySem.W.keepIn K (.ref fAh) = true)
    (aT2 : PySem.W.nsIn K mainGlobals "take" = some (some (.ref fT2)))
    (lT2 : K.lookup fT2 = some ⟨ocT2, odT2, .func (PySem.W.fnOf "take" "take" (defArgs sTk2) (defBody sTk2) (defScope sTk2) .none kVT2 dcT2 pmT2 anT2 cdT2 ctT2), slT2⟩)
    (cT2 : PySem.W.codeIn K cdT2 "take" = true)
    (kT2 : PySem.W.keepIn K (.ref fT2) = true)
    (aFw : PySem.W.nsIn K mainGlobals "first_words" = some (some (.ref fFw)))
    (lFw : K.lookup fFw = some ⟨ocFw, odFw, .func (PySem.W.fnOf "first_words" "first_words" (defArgs sFw) (defBody sFw) (defScope sFw) .none kVFw dcFw pmFw anFw cdFw ctFw), slFw⟩)
    (cFw : PySem.W.codeIn K cdFw "first_words" = true)
    (kFw : PySem.W.keepIn K (.ref fFw) = true)
    (aRr : PySem.W.nsIn K mainGlobals "read_row" = some (some (.ref fRr)))
    (lRr : K.lookup fRr = some ⟨ocRr, odRr, .func (PySem.W.fnOf "read_row" "read_row" (defArgs sRdR) (defBody sRdR) (defScope sRdR) .none kVRr dcRr pmRr anRr cdRr ctRr), slRr⟩)
    (cRr : PySem.W.codeIn K cdRr "read_row" = true)
    (kRr : PySem.W.keepIn K (.ref fRr) = true)
    (aRd : PySem.W.nsIn K mainGlobals "read_deed" = some (some (.ref fRd)))
    (lRd : K.lookup fRd = some ⟨ocRd, odRd, .func (PySem.W.fnOf "read_deed" "read_deed" (defArgs sRdD) (defBody sRdD) (defScope sRdD) .none kVRd dcRd pmRd anRd cdRd ctRd), slRd⟩)
    (cRd : PySem.W.codeIn K cdRd "read_deed" = true)
    (kRd : PySem.W.keepIn K (.ref fRd) = true)
    (aRl : PySem.W.nsIn K mainGlobals "read_look" = some (some (.ref fRl)))
    (lRl : K.lookup fRl = some ⟨ocRl, odRl, .func (PySem.W.fnOf "read_look" "read_look" (defArgs sRdL) (defBody sRdL) (defScope sRdL) .none kVRl dcRl pmRl anRl cdRl ctRl), slRl⟩)
    (cRl : PySem.W.codeIn K cdRl "read_look" = true)
    (kRl : PySem.W.keepIn K (.ref fRl) = true)
    (aRn : PySem.W.nsIn K mainGlobals "read_name" = some (some (.ref fRn)))
    (lRn : K.lookup fRn = some ⟨ocRn, odRn, .func (PySem.W.fnOf "read_name" "read_name" (defArgs sRdN) (defBody sRdN) (defScope sRdN) .none kVRn dcRn pmRn anRn cdRn ctRn), slRn⟩)
    (cRn : PySem.W.codeIn K cdRn "read_name" = true)
    (kRn : PySem.W.keepIn K (.ref fRn) = true)
    (aRt : PySem.W.nsIn K mainGlobals "read_told" = some (some (.ref fRt)))
    (lRt : K.lookup fRt = some ⟨ocRt, odRt, .func (PySem.W.fnOf "read_told" "read_told" (defArgs sRdT) (defBody sRdT) (defScope sRdT) .none kVRt dcRt pmRt anRt cdRt ctRt), slRt⟩)
    (cRt : PySem.W.codeIn K cdRt "read_told" = true)
    (kRt : PySem.W.keepIn K (.ref fRt) = true)
    (aRe : PySem.W.nsIn K mainGlobals "read_thing" = some (some (.ref fRe)))
    (lRe : K.lookup fRe = some ⟨ocRe, odRe, .func (PySem.W.fnOf "read_thing" "read_thing" (defArgs sRead) (defBody sRead) (defScope sRead) .none kVRe dcRe pmRe anRe cdRe ctRe), slRe⟩)
    (cRe : PySem.W.codeIn K cdRe "read_thing" = true)
    (kRe : PySem.W.keepIn K (.ref fRe) = true)
    (aWh : PySem.W.nsIn K mainGlobals "is_whole" = some (some (.ref fWh)))
    (lWh : K.lookup fWh = some ⟨ocWh, odWh, .func (PySem.W.fnOf "is_whole" "is_whole" (defArgs sWhole) (defBody sWhole) (defScope sWhole) .none kVWh dcWh pmWh anWh cdWh ctWh), slWh⟩)
    (cWh : PySem.W.codeIn K cdWh "is_whole" = true)
    (kWh : PySem.W.keepIn K (.ref fWh) = true)
    (aDu : PySem.W.nsIn K mainGlobals "signs_due" = some (some (.ref fDu)))
    (lDu : K.lookup fDu = some ⟨ocDu, odDu, .func (PySem.W.fnOf "signs_due" "signs_due" (defArgs sDue) (defBody sDue) (defScope sDue) .none kVDu dcDu pmDu anDu cdDu ctDu), slDu⟩)
    (cDu : PySem.W.codeIn K cdDu "signs_due" = true)
    (kDu : PySem.W.keepIn K (.ref fDu) = true)
    (aYe : PySem.W.nsIn K mainGlobals "yes" = some (some (.ref fYe)))
    (lYe : K.lookup fYe = some ⟨ocYe, odYe, .func (PySem.W.fnOf "yes" "yes" (defArgs sYes) (defBody sYes) (defScope sYes) .none kVYe dcYe pmYe anYe cdYe ctYe), slYe⟩)
    (cYe : PySem.W.codeIn K cdYe "yes" = true)
    (kYe : PySem.W.keepIn K (.ref fYe) = true)
    (aFn : PySem.W.nsIn K mainGlobals "first_names" = some (some (.ref fFn)))
    (lFn : K.lookup fFn = some ⟨ocFn, odFn, .func (PySem.W.fnOf "first_names" "first_names" (defArgs sFirst) (defBody sFirst) (defScope sFirst) .none kVFn dcFn pmFn anFn cdFn ctFn), slFn⟩)
    (cFn : PySem.W.codeIn K cdFn "first_names" = true)
    (kFn : PySem.W.keepIn K (.ref fFn) = true)
    (aDo : PySem.W.nsIn K mainGlobals "do_deed" = some (some (.ref fDo)))
    (lDo : K.lookup fDo = some ⟨ocDo, odDo, .func (PySem.W.fnOf "do_deed" "do_deed" (defArgs sDo) (defBody sDo) (defScope sDo) .none kVDo dcDo pmDo anDo cdDo ctDo), slDo⟩)
    (cDo : PySem.W.codeIn K cdDo "do_deed" = true)
    (kDo : PySem.W.keepIn K (.ref fDo) = true)
    (aMd : PySem.W.nsIn K mainGlobals "thing_made" = some (some (.ref fMd)))
    (lMd : K.lookup fMd = some ⟨ocMd, odMd, .func (PySem.W.fnOf "thing_made" "thing_made" (defArgs sMade) (defBody sMade) (defScope sMade) .none kVMd dcMd pmMd anMd cdMd ctMd), slMd⟩)
    (cMd : PySem.W.codeIn K cdMd "thing_made" = true)
    (kMd : PySem.W.keepIn K (.ref fMd) = true)
    (aBa : PySem.W.nsIn K mainGlobals "_law_bag" = some (some (.ref fBa)))
    (lBa : K.lookup fBa = some ⟨ocBa, odBa, .func (PySem.W.fnOf "_law_bag" "_law_bag" (defArgs sBag) (defBody sBag) (defScope sBag) .none kVBa dcBa pmBa anBa cdBa ctBa), slBa⟩)
    (cBa : PySem.W.codeIn K cdBa "_law_bag" = true)
    (kBa : PySem.W.keepIn K (.ref fBa) = true)
    (aTa : PySem.W.nsIn K mainGlobals "_law_take" = some (some (.ref fTa)))
    (lTa : K.lookup fTa = some ⟨ocTa, odTa, .func (PySem.W.fnOf "_law_take" "_law_take" (defArgs sTake) (defBody sTake) (defScope sTake) .none kVTa dcTa pmTa anTa cdTa ctTa), slTa⟩)
    (cTa : PySem.W.codeIn K cdTa "_law_take" = true)
    (kTa : PySem.W.keepIn K (.ref fTa) = true)
    (aTh : PySem.W.nsIn K mainGlobals "_law_thing" = some (some (.ref fTh)))
    (lTh : K.lookup fTh = some ⟨ocTh, odTh, .func (PySem.W.fnOf "_law_thing" "_law_thing" (defArgs sThing) (defBody sThing) (defScope sThing) .none kVTh dcTh pmTh anTh cdTh ctTh), slTh⟩)
    (cTh : PySem.W.codeIn K cdTh "_law_thing" = true)
    (kTh : PySem.W.keepIn K (.ref fTh) = true)
    (aNa : PySem.W.nsIn K mainGlobals "_law_name" = some (some (.ref fNa)))
    (lNa : K.lookup fNa = some ⟨ocNa, odNa, .func (PySem.W.fnOf "_law_name" "_law_name" (defArgs sName) (defBody sName) (defScope sName) .none kVNa dcNa pmNa anNa cdNa ctNa), slNa⟩)
    (cNa : PySem.W.codeIn K cdNa "_law_name" = true)
    (kNa : PySem.W.keepIn K (.ref fNa) = true)
    (aDe : PySem.W.nsIn K mainGlobals "_law_deed" = some (some (.ref fDe)))
    (lDe : K.lookup fDe = some ⟨ocDe, odDe, .func (PySem.W.fnOf "_law_deed" "_law_deed" (defArgs sDeed) (defBody sDeed) (defScope sDeed) .none kVDe dcDe pmDe anDe cdDe ctDe), slDe⟩)
    (cDe : PySem.W.codeIn K cdDe "_law_deed" = true)
    (kDe : PySem.W.keepIn K (.ref fDe) = true)
    (aDs : PySem.W.nsIn K mainGlobals "_law_deeds" = some (some (.ref fDs)))
    (lDs : K.lookup fDs = some ⟨ocDs, odDs, .func (PySem.W.fnOf "_law_deeds" "_law_deeds" (defArgs sDeeds) (defBody sDeeds) (defScope sDeeds) .none kVDs dcDs pmDs anDs cdDs ctDs), slDs⟩)
    (cDs : PySem.W.codeIn K cdDs "_law_deeds" = true)
    (kDs : PySem.W.keepIn K (.ref fDs) = true)
    (aTo : PySem.W.nsIn K mainGlobals "_law_top" = some (some (.ref fTo)))
    (lTo : K.lookup fTo = some ⟨ocTo, odTo, .func (PySem.W.fnOf "_law_top" "_law_top" (defArgs sTop) (defBody sTop) (defScope sTop) .none kVTo dcTo pmTo anTo cdTo ctTo), slTo⟩)
    (cTo : PySem.W.codeIn K cdTo "_law_top" = true)
    (kTo : PySem.W.keepIn K (.ref fTo) = true)
    (aOn : PySem.W.nsIn K mainGlobals "_law_one" = some (some (.ref fOn)))
    (lOn : K.lookup fOn = some ⟨ocOn, odOn, .func (PySem.W.fnOf "_law_one" "_law_one" (defArgs sOne) (defBody sOne) (defScope sOne) .none kVOn dcOn pmOn anOn cdOn ctOn), slOn⟩)
    (cOn : PySem.W.codeIn K cdOn "_law_one" = true)
    (kOn : PySem.W.keepIn K (.ref fOn) = true)
    (aTw : PySem.W.nsIn K mainGlobals "_law_two" = some (some (.ref fTw)))
    (lTw : K.lookup fTw = some ⟨ocTw, odTw, .func (PySem.W.fnOf "_law_two" "_law_two" (defArgs sTwo) (defBody sTwo) (defScope sTwo) .none kVTw dcTw pmTw anTw cdTw ctTw), slTw⟩)
    (cTw : PySem.W.codeIn K cdTw "_law_two" = true)
    (kTw : PySem.W.keepIn K (.ref fTw) = true)
    (aLi : PySem.W.nsIn K mainGlobals "_law_like" = some (some (.ref fLi)))
    (lLi : K.lookup fLi = some ⟨ocLi, odLi, .func (PySem.W.fnOf "_law_like" "_law_like" (defArgs sLike) (defBody sLike) (defScope sLike) .none kVLi dcLi pmLi anLi cdLi ctLi), slLi⟩)
    (cLi : PySem.W.codeIn K cdLi "_law_like" = true)
    (kLi : PySem.W.keepIn K (.ref fLi) = true)
    (aLaw : PySem.W.nsIn K mainGlobals "law" = some (some (.ref fLaw)))
    (lLaw : K.lookup fLaw = some ⟨ocLaw, odLaw, .func (PySem.W.fnOf "law" "law" (defArgs sLaw) (defBody sLaw) (defScope sLaw) .none kVLaw dcLaw pmLaw anLaw cdLaw ctLaw), slLaw⟩)
    (cLaw : PySem.W.codeIn K cdLaw "law" = true)
    (kLaw : PySem.W.keepIn K (.ref fLaw) = true)
    (aP : PySem.W.nsIn K mainGlobals "Program" = some (some (.ref CP)))
    (pgP : PySem.W.plainGet K CP Str.empty = true)
    (hdP : PySem.W.hasDictIn K CP = true)
    (poP : PySem.W.plainOver K CP = true)
    (saP : PySem.W.findIn K (.ref CP) "__setattr__" = some (some (.builtin "object.__setattr__")))
    (mkCP : PySem.W.makesIn K CP = true)
    (kcP : PySem.W.keepIn K (.ref CP) = true)
    (nDP : PySem.W.findIn K (.ref CP) "deeds" = some none)
    (nPP : PySem.W.findIn K (.ref CP) "plan" = some none)
    (caP : PySem.W.findIn K (.ref CP) "__class__" = some (some (.builtin "object.__class__")))
    (cmP : PySem.W.mroIn K CP (.type "object") = some true)
    (neP : PySem.W.findIn K (.ref CP) "__ne__" = some (some (.builtin "object.__ne__")))
    (aFm : PySem.W.nsIn K mainGlobals "FORMS" = some (some (.ref dF)))
    (lFm : K.lookup dF = some ⟨.type "dict", none, .dict esF nFm, #[]⟩)
    (litF : PySem.W.KeysLit w.params esF.toList)
    (lowF : (dF == sysModules) = false)
    (aN1 : PySem.W.nsIn K mainGlobals "MANY_NAMES" = some (some (.int 10 tN1)))
    (aN2 : PySem.W.nsIn K mainGlobals "MOST_DEEDS" = some (some (.int 4000 tN2)))
    (aN3 : PySem.W.nsIn K mainGlobals "MOST_FLOORS" = some (some (.int 8 tN3)))
    (kii : PySem.W.kitOne K (.type "int") (.type "int") = some true)
    (kib : PySem.W.kitOne K (.type "int") (.type "bool") = some false)
    (ktt : PySem.W.kitOne K (.type "tuple") (.type "tuple") = some true)
    (kss : PySem.W.kitOne K (.type "str") (.type "str") = some true)
    (fm0 : PySem.W.nsIn K dF "told" = some (some (.str "nt" tf0)))
    (fm1 : PySem.W.nsIn K dF "first" = some (some (.str "nn" tf1)))
    (fm2 : PySem.W.nsIn K dF "second" = some (some (.str "nn" tf2)))
    (fm3 : PySem.W.nsIn K dF "pair" = some (some (.str "nnn" tf3)))
    (fm4 : PySem.W.nsIn K dF "same" = some (some (.str "nnn" tf4)))
    (fm5 : PySem.W.nsIn K dF "while" = some (some (.str "nr" tf5)))
    (fm6 : PySem.W.nsIn K dF "if" = some (some (.str "nrr" tf6)))
    (aPI : PySem.W.findIn K (.ref CP) "__init__" = some (some (.ref fPI)))
    (iPI : PySem.W.isFn K (.ref fPI) = true)
    (lPI : K.lookup fPI = some ⟨ocPI, odPI, .func (PySem.W.fnOf "__init__" "Program.__init__" (defArgs sPInit) (defBody sPInit) (defScope sPInit) .none kVPI dcPI pmPI anPI cdPI ctPI), slPI⟩)
    (cPI : PySem.W.codeIn K cdPI "Program.__init__" = true)
    (kPI : PySem.W.keepIn K (.ref fPI) = true)
    (aPL : PySem.W.findIn K (.ref CP) "__len__" = some (some (.ref fPL)))
    (iPL : PySem.W.isFn K (.ref fPL) = true)
    (lPL : K.lookup fPL = some ⟨ocPL, odPL, .func (PySem.W.fnOf "__len__" "Program.__len__" (defArgs sPLen) (defBody sPLen) (defScope sPLen) .none kVPL dcPL pmPL anPL cdPL ctPL), slPL⟩)
    (cPL : PySem.W.codeIn K cdPL "Program.__len__" = true)
    (kPL : PySem.W.keepIn K (.ref fPL) = true)
    (aPE : PySem.W.findIn K (.ref CP) "__eq__" = some (some (.ref fPE)))
    (iPE : PySem.W.isFn K (.ref fPE) = true)
    (lPE : K.lookup fPE = some ⟨ocPE, odPE, .func (PySem.W.fnOf "__eq__" "Program.__eq__" (defArgs sPEq) (defBody sPEq) (defScope sPEq) .none kVPE dcPE pmPE anPE cdPE ctPE), slPE⟩)
    (cPE : PySem.W.codeIn K cdPE "Program.__eq__" = true)
    (kPE : PySem.W.keepIn K (.ref fPE) = true)
    (aPS : PySem.W.findIn K (.ref CP) "__str__" = some (some (.ref fPS)))
    (iPS : PySem.W.isFn K (.ref fPS) = true)
    (lPS : K.lookup fPS = some ⟨ocPS, odPS, .func (PySem.W.fnOf "__str__" "Program.__str__" (defArgs sPStr) (defBody sPStr) (defScope sPStr) .none kVPS dcPS pmPS anPS cdPS ctPS), slPS⟩)
    (cPS : PySem.W.codeIn K cdPS "Program.__str__" = true)
    (kPS : PySem.W.keepIn K (.ref fPS) = true)
    (aCR : PySem.W.nsIn K mainGlobals "Run" = some (some (.ref CR)))
    (pgR : PySem.W.plainGet K CR Str.empty = true)
    (hdR : PySem.W.hasDictIn K CR = true)
    (poR : PySem.W.plainOver K CR = true)
    (saR : PySem.W.findIn K (.ref CR) "__setattr__" = some (some (.builtin "object.__setattr__")))
    (mkR : PySem.W.makesIn K CR = true)
    (kcR : PySem.W.keepIn K (.ref CR) = true)
    (caR : PySem.W.findIn K (.ref CR) "__class__" = some (some (.builtin "object.__class__")))
    (cmR : PySem.W.mroIn K CR (.type "object") = some true)
    (neR : PySem.W.findIn K (.ref CR) "__ne__" = some (some (.builtin "object.__ne__")))
    (n0R : PySem.W.findIn K (.ref CR) "word" = some none)
    (n1R : PySem.W.findIn K (.ref CR) "steps" = some none)
    (n2R : PySem.W.findIn K (.ref CR) "thing" = some none)
    (aRQ : PySem.W.findIn K (.ref CR) "__eq__" = some (some (.ref fRQ)))
    (iRQ : PySem.W.isFn K (.ref fRQ) = true)
    (lRQ : K.lookup fRQ = some ⟨ocRQ, odRQ, .func (PySem.W.fnOf "__eq__" "Run.__eq__" (defArgs sREq) (defBody sREq) (defScope sREq) .none kVRQ dcRQ pmRQ anRQ cdRQ ctRQ), slRQ⟩)
    (cRQ : PySem.W.codeIn K cdRQ "Run.__eq__" = true)
    (kRQ : PySem.W.keepIn K (.ref fRQ) = true)
    (aRI : PySem.W.findIn K (.ref CR) "__init__" = some (some (.ref fRI)))
    (iRI : PySem.W.isFn K (.ref fRI) = true)
    (lRI : K.lookup fRI = some ⟨ocRI, odRI, .func (PySem.W.fnOf "__init__" "Run.__init__" (defArgs sRInit) (defBody sRInit) (defScope sRInit) (.ref TRI) kVRI dcRI pmRI anRI cdRI ctRI), slRI⟩)
    (cRI : PySem.W.codeIn K cdRI "Run.__init__" = true)
    (kRI : PySem.W.keepIn K (.ref fRI) = true)
    (tRI : K.lookup TRI = some ⟨otRI, odtRI, .seq #[.none] ntRI, sltRI⟩)
    (aRu : PySem.W.nsIn K mainGlobals "run" = some (some (.ref fRu)))
    (lRu : K.lookup fRu = some ⟨ocRu, odRu, .func (PySem.W.fnOf "run" "run" (defArgs sRun) (defBody sRun) (defScope sRun) (.ref TRu) kVRu dcRu pmRu anRu cdRu ctRu), slRu⟩)
    (cRu : PySem.W.codeIn K cdRu "run" = true)
    (kRu : PySem.W.keepIn K (.ref fRu) = true)
    (tRu : K.lookup TRu = some ⟨otRu, odtRu, .seq #[.int 2000 tkRu] ntRu, sltRu⟩)
    (aN : PySem.W.nsIn K mainGlobals "TooGreat" = some (some (.ref N)))
    (xN : K.lookup N = some (excClassObj nmN qN N NN bsN [.type "OverflowError", .type "ArithmeticError", .type "Exception", .type "BaseException", .type "object"] true snN subN abN colN ddN m0N m1N m2N m3N m5N "OverflowError.__new__"))
    (ovN : PySem.W.excOver K N [.type "OverflowError", .type "ArithmeticError", .type "Exception", .type "BaseException", .type "object"] = true)
    (saN : PySem.W.findIn K (.ref N) "__setattr__" = some (some (.builtin "object.__setattr__")))
    (exN : PySem.W.subIn K (.ref N) (.type "BaseException") = some true)
    (tyN : PySem.W.typeIn K (.ref N) = some (.type "type"))
    (kN : PySem.W.keepIn K (.ref N) = true)
    (plN : PySem.W.findIn K (.ref N) "bound" = some none)
    (vV : PySem.W.findCls K (.type "OverflowError") (.type "type") "__init__" = some (.val (.builtin "OverflowError.__init__")))
    (iN : PySem.W.findIn K (.ref N) "__init__" = some (some (.ref fN)))
    (tfN : PySem.W.typeIn K (.ref fN) = some (.type "function"))
    (lN : K.lookup fN = some ⟨ocN, odN, .func (PySem.W.fnOf "__init__" "TooGreat.__init__" (defArgs sTg) (defBody sTg) (defScope sTg) .none kVN dcN pmN anN cdN ctN), slN⟩)
    (cN : PySem.W.codeIn K cdN "TooGreat.__init__" = true)
    (kfN : PySem.W.keepIn K (.ref fN) = true)
    (hdN : PySem.W.hasDictIn K N = true)
    (scN : PySem.W.subIn K (.ref N) (.ref N) = some true)
    (aZ : PySem.W.nsIn K mainGlobals "NoProgram" = some (some (.ref NP)))
    (xZ : K.lookup NP = some (excClassObj nmZ qZ NP NZ bsZ [.type "ValueError", .type "Exception", .type "BaseException", .type "object"] true snZ subZ abZ colZ ddZ m0Z m1Z m2Z m3Z m5Z "ValueError.__new__"))
    (ovZ : PySem.W.excOver K NP [.type "ValueError", .type "Exception", .type "BaseException", .type "object"] = true)
    (saZ : PySem.W.findIn K (.ref NP) "__setattr__" = some (some (.builtin "object.__setattr__")))
    (exZ : PySem.W.subIn K (.ref NP) (.type "BaseException") = some true)
    (tyZ : PySem.W.typeIn K (.ref NP) = some (.type "type"))
    (kZ : PySem.W.keepIn K (.ref NP) = true)
    (plZ : PySem.W.findIn K (.ref NP) "place" = some none)
    (vVZ : PySem.W.findCls K (.type "ValueError") (.type "type") "__init__" = some (.val (.builtin "ValueError.__init__")))
    (iZ : PySem.W.findIn K (.ref NP) "__init__" = some (some (.ref fZ)))
    (tfZ : PySem.W.typeIn K (.ref fZ) = some (.type "function"))
    (lZ : K.lookup fZ = some ⟨ocZ, odZ, .func (PySem.W.fnOf "__init__" "NoProgram.__init__" (defArgs sNp) (defBody sNp) (defScope sNp) .none kVZ dcZ pmZ anZ cdZ ctZ), slZ⟩)
    (cZ : PySem.W.codeIn K cdZ "NoProgram.__init__" = true)
    (kfZ : PySem.W.keepIn K (.ref fZ) = true)
    (hdZ : PySem.W.hasDictIn K NP = true)
    (scZ : PySem.W.subIn K (.ref NP) (.ref NP) = some true)
    (kni : PySem.W.kitOne K (.type "NoneType") (.type "int") = some false)
    (aCD : PySem.W.nsIn K mainGlobals "Reader" = some (some (.ref CD)))
    (pgD : PySem.W.plainGet K CD Str.empty = true)
    (hdD : PySem.W.hasDictIn K CD = true)
    (poD : PySem.W.plainOver K CD = true)
    (saD : PySem.W.findIn K (.ref CD) "__setattr__" = some (some (.builtin "object.__setattr__")))
    (mkD : PySem.W.makesIn K CD = true)
    (kcD : PySem.W.keepIn K (.ref CD) = true)
    (caD : PySem.W.findIn K (.ref CD) "__class__" = some (some (.builtin "object.__class__")))
    (cmD : PySem.W.mroIn K CD (.type "object") = some true)
    (neD : PySem.W.findIn K (.ref CD) "__ne__" = some (some (.builtin "object.__ne__")))
    (n0D : PySem.W.findIn K (.ref CD) "words" = some none)
    (n1D : PySem.W.findIn K (.ref CD) "at" = some none)
    (n2D : PySem.W.findIn K (.ref CD) "begun" = some none)
    (aDI : PySem.W.findIn K (.ref CD) "__init__" = some (some (.ref fDI)))
    (iDI : PySem.W.isFn K (.ref fDI) = true)
    (lDI : K.lookup fDI = some ⟨ocDI, odDI, .func (PySem.W.fnOf "__init__" "Reader.__init__" (defArgs sRdI) (defBody sRdI) (defScope sRdI) .none kVDI dcDI pmDI anDI cdDI ctDI), slDI⟩)
    (cDI : PySem.W.codeIn K cdDI "Reader.__init__" = true)
    (kDI : PySem.W.keepIn K (.ref fDI) = true)
    (aL : PySem.W.nsIn K mainGlobals "LETTERS" = some (some (.str "abcdefghij" tL)))
    (aLoo : PySem.W.nsIn K mainGlobals "LOOKS" = some (some (.ref aLooA)))
    (lLoo : K.lookup aLooA = some ⟨.type "tuple", odLoo, .seq #[.str "while" u1, .str "if" u2] nLoo, slLoo⟩)
    (aTak : PySem.W.nsIn K mainGlobals "TAKERS" = some (some (.ref aTakA)))
    (lTak : K.lookup aTakA = some ⟨.type "tuple", odTak, .seq #[.str "first" u3, .str "second" u4, .str "pair" u5, .str "same" u6] nTak, slTak⟩)
    (aNT : PySem.W.nsIn K mainGlobals "NoText" = some (some (.ref NT)))
    (nCD : C ≠ CD)
    (kyF : KyL formKs esF.toList)
    (z_len : PySem.W.nsIn K mainGlobals "len" = some none)
    (z_range : PySem.W.nsIn K mainGlobals "range" = some none)
    (z_isinstance : PySem.W.nsIn K mainGlobals "isinstance" = some none)
    (z_abs : PySem.W.nsIn K mainGlobals "abs" = some none)
    (z_int : PySem.W.nsIn K mainGlobals "int" = some none)
    (z_str : PySem.W.nsIn K mainGlobals "str" = some none)
    (z_max : PySem.W.nsIn K mainGlobals "max" = some none)
    (z_min : PySem.W.nsIn K mainGlobals "min" = some none)
    (z_all : PySem.W.nsIn K mainGlobals "all" = some none)
    (z_bool : PySem.W.nsIn K mainGlobals "bool" = some none)
    (z_tuple : PySem.W.nsIn K mainGlobals "tuple" = some none)
    (z_zip : PySem.W.nsIn K mainGlobals "zip" = some none)
    (z_enumerate : PySem.W.nsIn K mainGlobals "enumerate" = some none)
    (z_list : PySem.W.nsIn K mainGlobals "list" = some none)
    (z_OverflowError : PySem.W.nsIn K mainGlobals "OverflowError" = some none)
    (z_reversed : PySem.W.nsIn K mainGlobals "reversed" = some none)
    (z_ValueError : PySem.W.nsIn K mainGlobals "ValueError" = some none)
    : ∃ fd : FuncData, (∀ (s : Shared) (v : Value), BindsTo s fd ⟨[v], []⟩ [("_law_script", v)]) ∧ ∀ base : Heap, K.In base → base.Ns mainGlobals mg → FnOk P w K mg base CX0 37 fa fd ["_law_script"] (spLaw K) := by
  have e := hfa.symm.trans (PySem.W.mg_of X G aLaw)
  cases e
  have FHd := fun_mk (st := sHead) lHd cHd kHd
  have bHd := FHd.binds (ps := ["self"]) fun _ _ _ _ _ _ us hl => match us, hl with | [_], _ => rfl
  have FTl := fun_mk (st := sTail) lTl cTl kTl
  have bTl := FTl.binds (ps := ["self"]) fun _ _ _ _ _ _ us hl => match us, hl with | [_], _ => rfl
  have FEq := fun_mk (st := sEq) lEq cEq kEq
  have bEq := FEq.binds (ps := ["self", "other"]) fun _ _ _ _ _ _ us hl => match us, hl with | [_, _], _ => rfl
  have FSt := fun_mk (st := sStr) lSt cSt kSt
  have bSt := FSt.binds (ps := ["self"]) fun _ _ _ _ _ _ us hl => match us, hl with | [_], _ => rfl
  have FPa := fun_mk (st := sPairs) lPa cPa kPa
  have bPa := FPa.binds (ps := ["first", "second"]) fun _ _ _ _ _ _ us hl => match us, hl with | [_, _], _ => rfl
  have FAl := fun_mk (st := sAlike) lAl cAl kAl
  have bAl := FAl.binds (ps := ["one", "other"]) fun _ _ _ _ _ _ us hl => match us, hl with | [_, _], _ => rfl
  have FSg := fun_mk (st := sSigns) lSg cSg kSg
  have bSg := FSg.binds (ps := ["thing"]) fun _ _ _ _ _ _ us hl => match us, hl with | [_], _ => rfl
  have FIn := fun_mk (st := sIsName) lIn cIn kIn
  have bIn := FIn.binds (ps := ["part"]) fun _ _ _ _ _ _ us hl => match us, hl with | [_], _ => rfl
  have FFt := fun_mk (st := sFits) lFt cFt kFt
  have bFt := FFt.binds (ps := ["part", "sign"]) fun _ _ _ _ _ _ us hl => match us, hl with | [_, _], _ => rfl
  have FHf := fun_mk (st := sHasForm) lHf cHf kHf
  have bHf := FHf.binds (ps := ["deed"]) fun _ _ _ _ _ _ us hl => match us, hl with | [_], _ => rfl
  have FRi := fun_mk (st := sRowsIn) lRi cRi kRi
  have bRi := FRi.binds (ps := ["deed"]) fun _ _ _ _ _ _ us hl => match us, hl with | [_], _ => rfl
  have FLk := fun_mk (st := sLook) lLk cLk kLk
  have bLk := FLk.binds (ps := ["row", "floors", "ends"]) fun _ _ _ _ _ _ us hl => match us, hl with | [_, _, _], _ => rfl
  have FLy := fun_mk (st := sLay) lLy cLy kLy
  have bLy := FLy.binds (ps := ["row", "behind", "ends", "plan"]) fun _ _ _ _ _ _ us hl => match us, hl with | [_, _, _, _], _ => rfl
  have FNi := fun_mk (st := sNamesIn) lNi cNi kNi
  have bNi := FNi.binds (ps := ["deed"]) fun _ _ _ _ _ _ us hl => match us, hl with | [_], _ => rfl
  have FRw := fun_mk (st := sRowW) lRw cRw kRw
  have bRw := FRw.binds (ps := ["row"]) fun _ _ _ _ _ _ us hl => match us, hl with | [_], _ => rfl
  have FDw := fun_mk (st := sDeedW) lDw cDw kDw
  have bDw := FDw.binds (ps := ["deed"]) fun _ _ _ _ _ _ us hl => match us, hl with | [_], _ => rfl
  have FNu := fun_mk (st := sNumber) lNu cNu kNu
  have bNu := FNu.binds (ps := ["n"]) fun _ _ _ _ _ _ us hl => match us, hl with | [_], _ => rfl
  have FRo := fun_mk (st := sRow) lRo cRo kRo
  have bRo := FRo.binds (ps := ["things"]) fun _ _ _ _ _ _ us hl => match us, hl with | [_], _ => rfl
  have FCo := fun_mk (st := sCodeOf) lCo cCo kCo
  have bCo := FCo.binds (ps := ["program"]) fun _ _ _ _ _ _ us hl => match us, hl with | [_], _ => rfl
  have FRc := fun_mk (st := sRowC) lRc cRc kRc
  have bRc := FRc.binds (ps := ["deeds"]) fun _ _ _ _ _ _ us hl => match us, hl with | [_], _ => rfl
  have FDc := fun_mk (st := sDeedC) lDc cDc kDc
  have bDc := FDc.binds (ps := ["deed"]) fun _ _ _ _ _ _ us hl => match us, hl with | [_], _ => rfl
  have FPc := fun_mk (st := sPartC) lPc cPc kPc
  have bPc := FPc.binds (ps := ["part", "sign"]) fun _ _ _ _ _ _ us hl => match us, hl with | [_, _], _ => rfl
  have FCn := fun_mk (st := sCounted) lCn cCn kCn
  have bCn := FCn.binds (ps := ["thing"]) fun _ _ _ _ _ _ us hl => match us, hl with | [_], _ => rfl
  have FPp := fun_mk (st := sParts) lPp cPp kPp
  have bPp := FPp.binds (ps := ["thing"]) fun _ _ _ _ _ _ us hl => match us, hl with | [_], _ => rfl
  have FPo := fun_mk (st := sProgOf) lPo cPo kPo
  have bPo := FPo.binds (ps := ["thing"]) fun _ _ _ _ _ _ us hl => match us, hl with | [_], _ => rfl
  have FOt := fun_mk (st := sRowT) lOt cOt kOt
  have bOt := FOt.binds (ps := ["thing", "floors"]) fun _ _ _ _ _ _ us hl => match us, hl with | [_, _], _ => rfl
  have FDt := fun_mk (st := sDeedT) lDt cDt kDt
  have bDt := FDt.binds (ps := ["code", "floors"]) fun _ _ _ _ _ _ us hl => match us, hl with | [_, _], _ => rfl
  have FKt := fun_mk (st := sKindT) lKt cKt kKt
  have bKt := FKt.binds (ps := ["told"]) fun _ _ _ _ _ _ us hl => match us, hl with | [_], _ => rfl
  have FPt := fun_mk (st := sPartT) lPt cPt kPt
  have bPt := FPt.binds (ps := ["part", "sign", "floors"]) fun _ _ _ _ _ _ us hl => match us, hl with | [_, _, _], _ => rfl
  have FIc := fun_mk (st := sIsCode) lIc cIc kIc
  have bIc := FIc.binds (ps := ["thing"]) fun _ _ _ _ _ _ us hl => match us, hl with | [_], _ => rfl
  have FRp := fun_mk (st := sRdP) lRp cRp kRp
  have bRp := FRp.binds (ps := ["text"]) fun _ _ _ _ _ _ us hl => match us, hl with | [_], _ => rfl
  have FAh := fun_mk (st := sAhead) lAh cAh kAh
  have bAh := FAh.binds (ps := ["reader"]) fun _ _ _ _ _ _ us hl => match us, hl with | [_], _ => rfl
  have FT2 := fun_mk (st := sTk2) lT2 cT2 kT2
  have bT2 := FT2.binds (ps := ["reader", "right"]) fun _ _ _ _ _ _ us hl => match us, hl with | [_, _], _ => rfl
  have FFw := fun_mk (st := sFw) lFw cFw kFw
  have bFw := FFw.binds (ps := ["floors"]) fun _ _ _ _ _ _ us hl => match us, hl with | [_], _ => rfl
  have FRr := fun_mk (st := sRdR) lRr cRr kRr
  have bRr := FRr.binds (ps := ["reader", "floors"]) fun _ _ _ _ _ _ us hl => match us, hl with | [_, _], _ => rfl
  have FRd := fun_mk (st := sRdD) lRd cRd kRd
  have bRd := FRd.binds (ps := ["reader", "floors"]) fun _ _ _ _ _ _ us hl => match us, hl with | [_, _], _ => rfl
  have FRl := fun_mk (st := sRdL) lRl cRl kRl
  have bRl := FRl.binds (ps := ["reader", "kind", "floors"]) fun _ _ _ _ _ _ us hl => match us, hl with | [_, _, _], _ => rfl
  have FRn := fun_mk (st := sRdN) lRn cRn kRn
  have bRn := FRn.binds (ps := ["reader"]) fun _ _ _ _ _ _ us hl => match us, hl with | [_], _ => rfl
  have FRt := fun_mk (st := sRdT) lRt cRt kRt
  have bRt := FRt.binds (ps := ["reader"]) fun _ _ _ _ _ _ us hl => match us, hl with | [_], _ => rfl
  have FRe := fun_mk (st := sRead) lRe cRe kRe
  have bRe := FRe.binds (ps := ["text"]) fun _ _ _ _ _ _ us hl => match us, hl with | [_], _ => rfl
  have FWh := fun_mk (st := sWhole) lWh cWh kWh
  have bWh := FWh.binds (ps := ["levels"]) fun _ _ _ _ _ _ us hl => match us, hl with | [_], _ => rfl
  have FDu := fun_mk (st := sDue) lDu cDu kDu
  have bDu := FDu.binds (ps := ["levels", "begun"]) fun _ _ _ _ _ _ us hl => match us, hl with | [_, _], _ => rfl
  have FYe := fun_mk (st := sYes) lYe cYe kYe
  have bYe := FYe.binds (ps := []) fun _ _ _ _ _ _ us hl => match us, hl with | [], _ => rfl
  have FFn := fun_mk (st := sFirst) lFn cFn kFn
  have bFn := FFn.binds (ps := ["thing"]) fun _ _ _ _ _ _ us hl => match us, hl with | [_], _ => rfl
  have FDo := fun_mk (st := sDo) lDo cDo kDo
  have bDo := FDo.binds (ps := ["program", "point", "names"]) fun _ _ _ _ _ _ us hl => match us, hl with | [_, _, _], _ => rfl
  have FMd := fun_mk (st := sMade) lMd cMd kMd
  have bMd := FMd.binds (ps := ["deed", "names"]) fun _ _ _ _ _ _ us hl => match us, hl with | [_, _], _ => rfl
  have FBa := fun_mk (st := sBag) lBa cBa kBa
  have bBa := FBa.binds (ps := ["_law_script", "_law_at"]) fun _ _ _ _ _ _ us hl => match us, hl with | [_, _], _ => rfl
  have FTa := fun_mk (st := sTake) lTa cTa kTa
  have bTa := FTa.binds (ps := ["_law_bag_here", "_law_many"]) fun _ _ _ _ _ _ us hl => match us, hl with | [_, _], _ => rfl
  have FTh := fun_mk (st := sThing) lTh cTh kTh
  have bTh := FTh.binds (ps := ["_law_bag_here", "_law_many"]) fun _ _ _ _ _ _ us hl => match us, hl with | [_, _], _ => rfl
  have FNa := fun_mk (st := sName) lNa cNa kNa
  have bNa := FNa.binds (ps := ["_law_bag_here"]) fun _ _ _ _ _ _ us hl => match us, hl with | [_], _ => rfl
  have FDe := fun_mk (st := sDeed) lDe cDe kDe
  have bDe := FDe.binds (ps := ["_law_bag_here", "_law_left", "_law_deep"]) fun _ _ _ _ _ _ us hl => match us, hl with | [_, _, _], _ => rfl
  have FDs := fun_mk (st := sDeeds) lDs cDs kDs
  have bDs := FDs.binds (ps := ["_law_bag_here", "_law_left", "_law_deep"]) fun _ _ _ _ _ _ us hl => match us, hl with | [_, _, _], _ => rfl
  have FTo := fun_mk (st := sTop) lTo cTo kTo
  have bTo := FTo.binds (ps := ["_law_bag_here", "_law_many"]) fun _ _ _ _ _ _ us hl => match us, hl with | [_, _], _ => rfl
  have FOn := fun_mk (st := sOne) lOn cOn kOn
  have bOn := FOn.binds (ps := ["_law_program"]) fun _ _ _ _ _ _ us hl => match us, hl with | [_], _ => rfl
  have FTw := fun_mk (st := sTwo) lTw cTw kTw
  have bTw := FTw.binds (ps := ["_law_one_here", "_law_other"]) fun _ _ _ _ _ _ us hl => match us, hl with | [_, _], _ => rfl
  have FLi := fun_mk (st := sLike) lLi cLi kLi
  have bLi := FLi.binds (ps := ["_law_bag_here", "_law_deeds_here"]) fun _ _ _ _ _ _ us hl => match us, hl with | [_, _], _ => rfl
  have FLaw := fun_mk (st := sLaw) lLaw cLaw kLaw
  have bLaw := FLaw.binds (ps := ["_law_script"]) fun _ _ _ _ _ _ us hl => match us, hl with | [_], _ => rfl
  have APa : At K mg "pairs_in" sPairs ["first", "second"] fPa _ := ⟨FPa, PySem.W.mg_of X G aPa, bPa⟩
  have AAl : At K mg "alike" sAlike ["one", "other"] fAl _ := ⟨FAl, PySem.W.mg_of X G aAl, bAl⟩
  have ASg : At K mg "signs" sSigns ["thing"] fSg _ := ⟨FSg, PySem.W.mg_of X G aSg, bSg⟩
  have AIn : At K mg "is_name" sIsName ["part"] fIn _ := ⟨FIn, PySem.W.mg_of X G aIn, bIn⟩
  have AFt : At K mg "fits" sFits ["part", "sign"] fFt _ := ⟨FFt, PySem.W.mg_of X G aFt, bFt⟩
  have AHf : At K mg "has_form" sHasForm ["deed"] fHf _ := ⟨FHf, PySem.W.mg_of X G aHf, bHf⟩
  have ARi : At K mg "rows_in" sRowsIn ["deed"] fRi _ := ⟨FRi, PySem.W.mg_of X G aRi, bRi⟩
  have ALk : At K mg "look_through" sLook ["row", "floors", "ends"] fLk _ := ⟨FLk, PySem.W.mg_of X G aLk, bLk⟩
  have ALy : At K mg "lay_out" sLay ["row", "behind", "ends", "plan"] fLy _ := ⟨FLy, PySem.W.mg_of X G aLy, bLy⟩
  have ANi : At K mg "names_in" sNamesIn ["deed"] fNi _ := ⟨FNi, PySem.W.mg_of X G aNi, bNi⟩
  have ARw : At K mg "row_words" sRowW ["row"] fRw _ := ⟨FRw, PySem.W.mg_of X G aRw, bRw⟩
  have ADw : At K mg "deed_words" sDeedW ["deed"] fDw _ := ⟨FDw, PySem.W.mg_of X G aDw, bDw⟩
  have ANu : At K mg "number" sNumber ["n"] fNu _ := ⟨FNu, PySem.W.mg_of X G aNu, bNu⟩
  have ARo : At K mg "row" sRow ["things"] fRo _ := ⟨FRo, PySem.W.mg_of X G aRo, bRo⟩
  have ACo : At K mg "code_of" sCodeOf ["program"] fCo _ := ⟨FCo, PySem.W.mg_of X G aCo, bCo⟩
  have ARc : At K mg "row_code" sRowC ["deeds"] fRc _ := ⟨FRc, PySem.W.mg_of X G aRc, bRc⟩
  have ADc : At K mg "deed_code" sDeedC ["deed"] fDc _ := ⟨FDc, PySem.W.mg_of X G aDc, bDc⟩
  have APc : At K mg "part_code" sPartC ["part", "sign"] fPc _ := ⟨FPc, PySem.W.mg_of X G aPc, bPc⟩
  have ACn : At K mg "counted" sCounted ["thing"] fCn _ := ⟨FCn, PySem.W.mg_of X G aCn, bCn⟩
  have APp : At K mg "parts" sParts ["thing"] fPp _ := ⟨FPp, PySem.W.mg_of X G aPp, bPp⟩
  have APo : At K mg "program_of" sProgOf ["thing"] fPo _ := ⟨FPo, PySem.W.mg_of X G aPo, bPo⟩
  have AOt : At K mg "row_told" sRowT ["thing", "floors"] fOt _ := ⟨FOt, PySem.W.mg_of X G aOt, bOt⟩
  have ADt : At K mg "deed_told" sDeedT ["code", "floors"] fDt _ := ⟨FDt, PySem.W.mg_of X G aDt, bDt⟩
  have AKt : At K mg "kind_told" sKindT ["told"] fKt _ := ⟨FKt, PySem.W.mg_of X G aKt, bKt⟩
  have APt : At K mg "part_told" sPartT ["part", "sign", "floors"] fPt _ := ⟨FPt, PySem.W.mg_of X G aPt, bPt⟩
  have AIc : At K mg "is_code" sIsCode ["thing"] fIc _ := ⟨FIc, PySem.W.mg_of X G aIc, bIc⟩
  have ARp : At K mg "read_program" sRdP ["text"] fRp _ := ⟨FRp, PySem.W.mg_of X G aRp, bRp⟩
  have AAh : At K mg "ahead" sAhead ["reader"] fAh _ := ⟨FAh, PySem.W.mg_of X G aAh, bAh⟩
  have AT2 : At K mg "take" sTk2 ["reader", "right"] fT2 _ := ⟨FT2, PySem.W.mg_of X G aT2, bT2⟩
  have AFw : At K mg "first_words" sFw ["floors"] fFw _ := ⟨FFw, PySem.W.mg_of X G aFw, bFw⟩
  have ARr : At K mg "read_row" sRdR ["reader", "floors"] fRr _ := ⟨FRr, PySem.W.mg_of X G aRr, bRr⟩
  have ARd : At K mg "read_deed" sRdD ["reader", "floors"] fRd _ := ⟨FRd, PySem.W.mg_of X G aRd, bRd⟩
  have ARl : At K mg "read_look" sRdL ["reader", "kind", "floors"] fRl _ := ⟨FRl, PySem.W.mg_of X G aRl, bRl⟩
  have ARn : At K mg "read_name" sRdN ["reader"] fRn _ := ⟨FRn, PySem.W.mg_of X G aRn, bRn⟩
  have ARt : At K mg "read_told" sRdT ["reader"] fRt _ := ⟨FRt, PySem.W.mg_of X G aRt, bRt⟩
  have ARe : At K mg "read_thing" sRead ["text"] fRe _ := ⟨FRe, PySem.W.mg_of X G aRe, bRe⟩
  have AWh : At K mg "is_whole" sWhole ["levels"] fWh _ := ⟨FWh, PySem.W.mg_of X G aWh, bWh⟩
  have ADu : At K mg "signs_due" sDue ["levels", "begun"] fDu _ := ⟨FDu, PySem.W.mg_of X G aDu, bDu⟩
  have AYe : At K mg "yes" sYes [] fYe _ := ⟨FYe, PySem.W.mg_of X G aYe, bYe⟩
  have AFn : At K mg "first_names" sFirst ["thing"] fFn _ := ⟨FFn, PySem.W.mg_of X G aFn, bFn⟩
  have ADo : At K mg "do_deed" sDo ["program", "point", "names"] fDo _ := ⟨FDo, PySem.W.mg_of X G aDo, bDo⟩
  have AMd : At K mg "thing_made" sMade ["deed", "names"] fMd _ := ⟨FMd, PySem.W.mg_of X G aMd, bMd⟩
  have ABa : At K mg "_law_bag" sBag ["_law_script", "_law_at"] fBa _ := ⟨FBa, PySem.W.mg_of X G aBa, bBa⟩
  have ATa : At K mg "_law_take" sTake ["_law_bag_here", "_law_many"] fTa _ := ⟨FTa, PySem.W.mg_of X G aTa, bTa⟩
  have ATh : At K mg "_law_thing" sThing ["_law_bag_here", "_law_many"] fTh _ := ⟨FTh, PySem.W.mg_of X G aTh, bTh⟩
  have ANa : At K mg "_law_name" sName ["_law_bag_here"] fNa _ := ⟨FNa, PySem.W.mg_of X G aNa, bNa⟩
  have ADe : At K mg "_law_deed" sDeed ["_law_bag_here", "_law_left", "_law_deep"] fDe _ := ⟨FDe, PySem.W.mg_of X G aDe, bDe⟩
  have ADs : At K mg "_law_deeds" sDeeds ["_law_bag_here", "_law_left", "_law_deep"] fDs _ := ⟨FDs, PySem.W.mg_of X G aDs, bDs⟩
  have ATo : At K mg "_law_top" sTop ["_law_bag_here", "_law_many"] fTo _ := ⟨FTo, PySem.W.mg_of X G aTo, bTo⟩
  have AOn : At K mg "_law_one" sOne ["_law_program"] fOn _ := ⟨FOn, PySem.W.mg_of X G aOn, bOn⟩
  have ATw : At K mg "_law_two" sTwo ["_law_one_here", "_law_other"] fTw _ := ⟨FTw, PySem.W.mg_of X G aTw, bTw⟩
  have ALi : At K mg "_law_like" sLike ["_law_bag_here", "_law_deeds_here"] fLi _ := ⟨FLi, PySem.W.mg_of X G aLi, bLi⟩
  have DI : FunD K "__init__" "Thing.__init__" (defArgs sInit) (defBody sInit) (defScope sInit) [.non, .non] [] fI _ := ⟨⟨oI, odI, .ref TI, kVI, dcI, pmI, anI, cdI, ctI, slI, rfl, lI, cI, .inr ⟨by simp, TI, _, [.none, .none], nT, rfl, lT, rfl, .cons rfl (.cons rfl .nil)⟩, .inl rfl⟩, kI⟩
  have b0 := DI.binds1 (ps := ["self", "first", "second"]) 1 0 (by simp) rfl fun T kV doc pm an cdv ct us its h1 h2 => by
    match us, its, h1, h2 with
    | [a], [b, c], _, _ => exact ⟨_, rfl, rfl⟩
  have b3 := DI.binds1 (ps := ["self", "first", "second"]) 3 2 (by simp) rfl fun T kV doc pm an cdv ct us its h1 h2 => by
    match us, its, h1, h2 with
    | [a, b, c], [d, e], _, _ => exact ⟨_, rfl, rfl⟩
  obtain ⟨ds3, hv3, hb3⟩ := b3
  cases hv3
  have T : Txt K mg C := ⟨⟨pg, hd, po, sa⟩, nF, nS, nZ, PySem.W.mg_of X G aC, ⟨tM, PySem.W.mg_of X G aM⟩, PySem.W.mg_none_of X G z_len, PySem.W.mg_none_of X G z_range, PySem.W.mg_none_of X G z_isinstance, ca, cn, ct, cm, neC⟩
  have B : Blt mg := ⟨PySem.W.mg_none_of X G z_len, PySem.W.mg_none_of X G z_range, PySem.W.mg_none_of X G z_abs, PySem.W.mg_none_of X G z_int, PySem.W.mg_none_of X G z_str, PySem.W.mg_none_of X G z_max, PySem.W.mg_none_of X G z_min, PySem.W.mg_none_of X G z_all⟩
  have ml := PySem.W.mg_none_of X G z_list
  have frm : FrmC K w mg := ⟨⟨dF, esF, nFm, PySem.W.mg_of X G aFm, ⟨lFm, litF, lowF⟩, fun kf hkf => by
    simp only [forms, List.mem_cons, List.not_mem_nil, or_false] at hkf
    rcases hkf with rfl | rfl | rfl | rfl | rfl | rfl | rfl
    · exact ⟨_, fm0⟩
    · exact ⟨_, fm1⟩
    · exact ⟨_, fm2⟩
    · exact ⟨_, fm3⟩
    · exact ⟨_, fm4⟩
    · exact ⟨_, fm5⟩
    · exact ⟨_, fm6⟩⟩, ⟨tN1, PySem.W.mg_of X G aN1⟩, ⟨tN2, PySem.W.mg_of X G aN2⟩, ⟨tN3, PySem.W.mg_of X G aN3⟩, (PySem.W.mg_none_of X G z_bool), (PySem.W.mg_none_of X G z_tuple), (PySem.W.mg_none_of X G z_zip), (PySem.W.mg_none_of X G z_enumerate), kii, kib, ktt, kss⟩
  have TP : TxtP K mg CP := ⟨⟨pgP, hdP, poP, saP⟩, nDP, nPP, PySem.W.mg_of X G aP, caP, cn, ct, cmP, neP⟩
  have FPI := fun_mk (st := sPInit) lPI cPI kPI
  have FPL := fun_mk (st := sPLen) lPL cPL kPL
  have FPE := fun_mk (st := sPEq) lPE cPE kPE
  have bPI := FPI.binds (ps := ["self", "deeds"]) fun _ _ _ _ _ _ us hl => match us, hl with | [_, _], _ => rfl
  have bPL := FPL.binds (ps := ["self"]) fun _ _ _ _ _ _ us hl => match us, hl with | [_], _ => rfl
  have bPE := FPE.binds (ps := ["self", "other"]) fun _ _ _ _ _ _ us hl => match us, hl with | [_, _], _ => rfl
  have FPS := fun_mk (st := sPStr) lPS cPS kPS
  have bPS := FPS.binds (ps := ["self"]) fun _ _ _ _ _ _ us hl => match us, hl with | [_], _ => rfl
  have TR : TxtR K mg CR := ⟨⟨pgR, hdR, poR, saR⟩, n0R, n1R, n2R, PySem.W.mg_of X G aCR, caR, cn, ct, cmR, neR⟩
  have FRQ := fun_mk (st := sREq) lRQ cRQ kRQ
  have bRQ := FRQ.binds (ps := ["self", "other"]) fun _ _ _ _ _ _ us hl => match us, hl with | [_, _], _ => rfl
  have DRI : FunD K "__init__" "Run.__init__" (defArgs sRInit) (defBody sRInit) (defScope sRInit) [.non] [] fRI _ := ⟨⟨ocRI, odRI, .ref TRI, kVRI, dcRI, pmRI, anRI, cdRI, ctRI, slRI, rfl, lRI, cRI, .inr ⟨by simp, TRI, _, [.none], ntRI, rfl, tRI, rfl, .cons rfl .nil⟩, .inl rfl⟩, kRI⟩
  have DRu : FunD K "run" "run" (defArgs sRun) (defBody sRun) (defScope sRun) [.int 2000] [] fRu _ := ⟨⟨ocRu, odRu, .ref TRu, kVRu, dcRu, pmRu, anRu, cdRu, ctRu, slRu, rfl, lRu, cRu, .inr ⟨by simp, TRu, _, [.int 2000 tkRu], ntRu, rfl, tRu, rfl, .cons ⟨_, rfl⟩ .nil⟩, .inl rfl⟩, kRu⟩
  have bR3 := DRI.binds1 (ps := ["self", "word", "steps", "thing"]) 3 0 (by simp) rfl fun T kV doc pm an cdv ct us its h1 h2 => by
    match us, its, h1, h2 with
    | [a, b, c], [d], _, _ => exact ⟨_, rfl, rfl⟩
  have bR4 := DRI.binds1 (ps := ["self", "word", "steps", "thing"]) 4 1 (by simp) rfl fun T kV doc pm an cdv ct us its h1 h2 => by
    match us, its, h1, h2 with
    | [a, b, c, e], [d], _, _ => exact ⟨_, rfl, rfl⟩
  obtain ⟨dsR4, hvR4, hbR4⟩ := bR4
  cases hvR4
  have bU3 := DRu.binds1 (ps := ["program", "thing", "budget"]) 3 1 (by simp) rfl fun T kV doc pm an cdv ct us its h1 h2 => by
    match us, its, h1, h2 with
    | [a, b, c], [d], _, _ => exact ⟨_, rfl, rfl⟩
  obtain ⟨dsU3, hvU3, hbU3⟩ := bU3
  cases hvU3
  have TD : TxtD K mg CD := ⟨⟨pgD, hdD, poD, saD⟩, n0D, n1D, n2D, PySem.W.mg_of X G aCD⟩
  have FDI := fun_mk (st := sRdI) lDI cDI kDI
  have bDI := FDI.binds (ps := ["self", "words"]) fun _ _ _ _ _ _ us hl => match us, hl with | [_, _], _ => rfl
  have RC0 : RdC K mg := ⟨PySem.W.mg_none_of X G z_list, ⟨_, PySem.W.mg_of X G aL⟩, ⟨aLooA, PySem.W.mg_of X G aLoo, fun H => .inr ⟨_, _, nLoo, lLoo, rfl, rfl, by show 2 ≤ sizeLine; decide, .cons ⟨_, rfl⟩ (.cons ⟨_, rfl⟩ .nil)⟩⟩, ⟨aTakA, PySem.W.mg_of X G aTak, fun H => .inr ⟨_, _, nTak, lTak, rfl, rfl, by show 4 ≤ sizeLine; decide, .cons ⟨_, rfl⟩ (.cons ⟨_, rfl⟩ (.cons ⟨_, rfl⟩ (.cons ⟨_, rfl⟩ .nil)))⟩⟩⟩
  have fok : FoK K w mg := FoK.of (PySem.W.mg_of X G aFm) ⟨lFm, litF, lowF⟩ (fun kf hkf => by
    simp only [forms, List.mem_cons, List.not_mem_nil, or_false] at hkf
    rcases hkf with rfl | rfl | rfl | rfl | rfl | rfl | rfl
    · exact ⟨_, fm0⟩
    · exact ⟨_, fm1⟩
    · exact ⟨_, fm2⟩
    · exact ⟨_, fm3⟩
    · exact ⟨_, fm4⟩
    · exact ⟨_, fm5⟩
    · exact ⟨_, fm6⟩) kyF
  refine ⟨PySem.W.fnOf "law" "law" (defArgs sLaw) (defBody sLaw) (defScope sLaw) .none kVLaw dcLaw pmLaw anLaw cdLaw ctLaw, fun s v => .of_eq rfl, fun base _ _ => ?_⟩
  have GI : FnOk P w K mg base CX0 2 fI _ ["self", "first", "second"] (spInit C) := ok_init DI T APa
  have M : Maker P w K mg base C fI _ := ⟨⟨mkC, aI, iI, kc⟩, GI, T.mgC, hb3, b0⟩
  have SE : Spc P w K mg base C "__eq__" 2 ["self", "other"] (spEqT C) := ⟨fEq, _, ⟨aEq, iEq⟩, ok_eq FEq T AAl, bEq⟩
  have SS : Spc P w K mg base C "__str__" 2 ["self"] (spStr C) := ⟨fSt, _, ⟨aSt, iSt⟩, ok_str FSt T ASg, bSt⟩
  have dIN : Def P w K mg base "is_name" 1 ["part"] spIsName := ⟨fIn, _, AIn.mgf, kIn, ok_isName FIn B T frm, bIn⟩
  have dFt : Def P w K mg base "fits" 2 ["part", "sign"] (spFits K C) := ⟨fFt, _, AFt.mgf, kFt, ok_fits FFt B T frm dIN, bFt⟩
  have dHF : Def P w K mg base "has_form" 3 ["deed"] (spHasForm K C) := ⟨fHf, _, AHf.mgf, kHf, ok_hasForm FHf B T frm dFt, bHf⟩
  have dRI : Def P w K mg base "rows_in" 1 ["deed"] (spRowsIn K C) := ⟨fRi, _, ARi.mgf, kRi, ok_rowsIn FRi frm, bRi⟩
  have dLk : Def P w K mg base "look_through" 13 ["row", "floors", "ends"] (spLook K C 9) := ⟨fLk, _, ALk.mgf, kLk, ok_look FLk ALk.mgf bLk B T frm dHF dRI 9, bLk⟩
  have dLy : Def P w K mg base "lay_out" 11 ["row", "behind", "ends", "plan"] (spLay K C 9) := ⟨fLy, _, ALy.mgf, kLy, ok_lay FLy ALy.mgf bLy B frm dRI 9, bLy⟩
  have MP : MakerP P w K mg base C CP fPI _ := ⟨⟨mkCP, aPI, iPI, kcP⟩, ok_pinit FPI B T frm TP dLk dLy, TP.mgP, bPI⟩
  have FN := fun_mk (st := sTg) lN cN kfN
  have bN := FN.binds (ps := ["self", "bound"]) fun _ _ _ _ _ _ us hl => match us, hl with | [_, _], _ => rfl
  have gO : GexO K N := ⟨PySem.F.excBase_OverflowError, PySem.F.store_OverflowError, ⟨nmN, qN, NN, bsN, _, snN, subN, abN, colN, ddN, m0N, m1N, m2N, m3N, m5N, xN, fun _ => rfl⟩, ovN, saN, exN, tyN, kN⟩
  have tgC : TgC K mg N := ⟨PySem.W.mg_of X G aN, gO, plN, PySem.W.mg_none_of X G z_OverflowError, vV⟩
  have NM : TgM P w K mg base N fN _ := ⟨tgC, iN, tfN, ok_tg FN tgC, bN⟩
  have MXN : MakerN P w K mg base C fI N _ := ⟨⟨mkC, aI, iI, kc⟩, ok_initN DI T APa NM, T.mgC, hb3⟩
  have exm : PySem.W.exmOne K (.ref N) (.ref N) = some true := PySem.W.exm_ref exN hdN tyN scN
  have FZ := fun_mk (st := sNp) lZ cZ kfZ
  have bZ := FZ.binds (ps := ["self", "place"]) fun _ _ _ _ _ _ us hl => match us, hl with | [_, _], _ => rfl
  have gV : GexV K NP := ⟨PySem.F.excBase_ValueError, PySem.F.store_ValueError, ⟨nmZ, qZ, NZ, bsZ, _, snZ, subZ, abZ, colZ, ddZ, m0Z, m1Z, m2Z, m3Z, m5Z, xZ, fun _ => rfl⟩, ovZ, saZ, exZ, tyZ, kZ⟩
  have npC : NpC K mg NP := ⟨PySem.W.mg_of X G aZ, gV, plZ, PySem.W.mg_none_of X G z_ValueError, vVZ⟩
  have ZM : NpM P w K mg base NP fZ _ := ⟨npC, iZ, tfZ, ok_np FZ npC, bZ⟩
  have exZZ : PySem.W.exmOne K (.ref NP) (.ref NP) = some true := PySem.W.exm_ref exZ hdZ tyZ scZ
  have MH : Mth P w K mg base C "head" 1 ["self"] (spHead C) := ⟨fHd, _, ⟨aHd, iHd, kHd⟩, ok_head FHd T, bHd⟩
  have MT : Mth P w K mg base C "tail" 1 ["self"] (spTail C) := ⟨fTl, _, ⟨aTl, iTl, kTl⟩, ok_tail FTl T, bTl⟩
  have SPL : Spc P w K mg base CP "__len__" 1 ["self"] (spPLen K C CP) := ⟨fPL, _, ⟨aPL, iPL⟩, ok_plen FPL B TP, bPL⟩
  have MR : MkR P w K mg base CR fRI _ := ⟨⟨⟨mkR, aRI, iRI, kcR⟩, ok_rinit DRI TR, TR.mgR, hbR4⟩, hot_rinit DRI TR, bR3⟩
  have SRn : Spc P w K mg base CR "__eq__" 3 ["self", "other"] (spREq C CR) := ⟨fRQ, _, ⟨aRQ, iRQ⟩, ok_req FRQ T TR SE, bRQ⟩
  have gMd := ok_made (P := P) (w := w) (base := base) (K := K) FMd T M MXN SE MH MT (ok_yes FYe M) AYe.mgf kYe bYe
  have gDo := ok_do (P := P) (w := w) (base := base) (CP := CP) FDo B T TP gMd AMd.mgf kMd bMd
  have DFn : Def P w K mg base "first_names" 4 ["thing"] (spFirst K C) := ⟨fFn, _, AFn.mgf, kFn, ok_first FFn (PySem.W.mg_of X G aN1) M, bFn⟩
  have DRun : Def P w K mg base "run" 7 ["program", "thing", "budget"] (spRun K C CP CR) := ⟨fRu, _, PySem.W.mg_of X G aRu, kRu, ok_run DRu B ml (PySem.W.mg_of X G aN) exm SPL DFn MR gDo ADo.mgf kDo bDo, hbU3⟩
  have DNi : Def P w K mg base "names_in" 1 ["deed"] (spNamesIn K C) := ⟨fNi, _, ANi.mgf, kNi, ok_namesIn FNi frm, bNi⟩
  have gW := (ok_words (P := P) (w := w) (base := base) FRw ARw.mgf bRw FDw ADw.mgf bDw B frm (PySem.W.mg_of X G aL) SS DNi dRI 9).2
  have SPS : Spc P w K mg base CP "__str__" 24 ["self"] (spPStr K C CP) := ⟨fPS, _, ⟨aPS, iPS⟩, ok_pstr FPS TP FRw ARw.mgf bRw gW, bPS⟩
  have DRe : Def P w K mg base "read_thing" 4 ["text"] (spRead C) := ⟨fRe, _, ARe.mgf, kRe, ok_read FRe T (PySem.W.mg_none_of X G z_enumerate) M AWh ADu, bRe⟩
  have DAh : Def P w K mg base "ahead" 1 ["reader"] (spAhead CD) := ⟨fAh, _, AAh.mgf, kAh, ok_ahead FAh B TD, bAh⟩
  have DT2 : Def P w K mg base "take" 2 ["reader", "right"] (spTk2 K CD) := ⟨fT2, _, AT2.mgf, kT2, ok_take2 FT2 TD DAh, bT2⟩
  have DFw : Def P w K mg base "first_words" 1 ["floors"] spFw := ⟨fFw, _, AFw.mgf, kFw, ok_fw FFw RC0 frm, bFw⟩
  have DRn : Def P w K mg base "read_name" 3 ["reader"] (spRdN CD) := ⟨fRn, _, ARn.mgf, kRn, ok_rdN FRn RC0 DT2, bRn⟩
  have DRt : Def P w K mg base "read_told" 5 ["reader"] (spRdT C CD) := ⟨fRt, _, ARt.mgf, kRt, ok_rdT FRt TD nCD (PySem.W.mg_of X G aNT) DAh DRe, bRt⟩
  have gRr := (ok_rdAll FRr FRd FRl RC0 frm TD nCD DAh DT2 DFw DRn DRt ARr.mgf bRr ARd.mgf bRd ARl.mgf bRl 9).2
  have DRr : Def P w K mg base "read_row" 34 ["reader", "floors"] (spRdR K C CD 9) := ⟨fRr, _, ARr.mgf, kRr, gRr, bRr⟩
  have MD : MkO P w K mg base "Reader" CD fDI _ ["self", "words"] rdL 1 := ⟨⟨mkD, aDI, iDI, kcD⟩, ok_rdinit FDI TD, TD.mgD, bDI⟩
  have gRp := ok_rdP (P := P) (w := w) (base := base) FRp B TD MD MP DRr
  have DRp : Def P w K mg base "read_program" 35 ["text"] (spRdP K C CP) := ⟨fRp, _, ARp.mgf, kRp, gRp, bRp⟩
  have DNu : Def P w K mg base "number" 4 ["n"] (spNumber C) := ⟨fNu, _, ANu.mgf, kNu, ok_number FNu T M, bNu⟩
  have DRo : Def P w K mg base "row" 4 ["things"] (spRow C) := ⟨fRo, _, ARo.mgf, kRo, ok_row FRo T (PySem.W.mg_none_of X G z_reversed) M, bRo⟩
  have DRc : Def P w K mg base "row_code" 32 ["deeds"] (spRowC K C 9) := ⟨fRc, _, ARc.mgf, kRc, ok_codes FRc FDc FPc ml frm fok DNu DRo ARc.mgf bRc ADc.mgf bDc APc.mgf bPc 9, bRc⟩
  have DCo : Def P w K mg base "code_of" 33 ["program"] (spCodeOf K C CP) := ⟨fCo, _, ACo.mgf, kCo, ok_codeOf FCo TP DRc, bCo⟩
  have DCn : Def P w K mg base "counted" 1 ["thing"] (spCounted C) := ⟨fCn, _, ACn.mgf, kCn, ok_counted FCn T, bCn⟩
  have DPp : Def P w K mg base "parts" 1 ["thing"] (spParts C) := ⟨fPp, _, APp.mgf, kPp, ok_parts FPp T, bPp⟩
  have DKt : Def P w K mg base "kind_told" 2 ["told"] (spKindT C) := ⟨fKt, _, AKt.mgf, kKt, ok_kindT FKt B ml fok DCn, bKt⟩
  have DOt : Def P w K mg base "row_told" 30 ["thing", "floors"] (spRowT K C 9) := ⟨fOt, _, AOt.mgf, kOt, ok_tolds FOt FDt FPt B frm DCn DPp DKt AOt.mgf bOt ADt.mgf bDt APt.mgf bPt 9, bOt⟩
  have gPo := ok_progOf (P := P) (w := w) (base := base) FPo T MP DOt
  have DPo : Def P w K mg base "program_of" 34 ["thing"] (spProgOf K C CP) := ⟨fPo, _, APo.mgf, kPo, gPo, bPo⟩
  have dINW : Def P w K mg base "is_name" 1 ["part"] spIsNameW := ⟨fIn, _, AIn.mgf, kIn, ok_isNameW FIn B T frm kni, bIn⟩
  have dFtW : Def P w K mg base "fits" 2 ["part", "sign"] (spFitsW K C) := ⟨fFt, _, AFt.mgf, kFt, ok_fitsW FFt B T frm dINW, bFt⟩
  have dHFW : Def P w K mg base "has_form" 3 ["deed"] (spHasFormW K C) := ⟨fHf, _, AHf.mgf, kHf, ok_hasFormW FHf B T frm dFtW, bHf⟩
  have dRIW : Def P w K mg base "rows_in" 1 ["deed"] (spRowsInW K C) := ⟨fRi, _, ARi.mgf, kRi, ok_rowsInW FRi frm, bRi⟩
  have gLkW := ok_lookW (P := P) (w := w) (base := base) FLk ALk.mgf bLk B T frm ZM dHFW dRIW 9
  have MPW : MakerPW P w K mg base C CP NP fPI _ := ⟨⟨mkCP, aPI, iPI, kcP⟩, ok_pinitW FPI B T frm TP ZM gLkW ALk.mgf kLk bLk dLy, TP.mgP, bPI⟩
  have DCnW : Def P w K mg base "counted" 1 ["thing"] (spCountW C) := ⟨fCn, _, ACn.mgf, kCn, ok_countW FCn T, bCn⟩
  have DKtW : Def P w K mg base "kind_told" 2 ["told"] (spKindW C) := ⟨fKt, _, AKt.mgf, kKt, ok_kindW FKt B ml fok DCnW, bKt⟩
  have DOtW : Def P w K mg base "row_told" 30 ["thing", "floors"] (spRwT K C 9) := ⟨fOt, _, AOt.mgf, kOt, ok_toldsW FOt FDt FPt B frm DCnW DPp DKtW AOt.mgf bOt ADt.mgf bDt APt.mgf bPt 9, bOt⟩
  have gPoW := ok_progW (P := P) (w := w) (base := base) FPo T ZM MPW DOtW
  have DTk : Def P w K mg base "_law_take" 1 ["_law_bag_here", "_law_many"] spTake := ⟨fTa, _, ATa.mgf, kTa, ok_take FTa, bTa⟩
  have DTh : Def P w K mg base "_law_thing" 4 ["_law_bag_here", "_law_many"] (spThing C) := ⟨fTh, _, ATh.mgf, kTh, ok_thing FTh B M ATa, bTh⟩
  have DNm : Def P w K mg base "_law_name" 2 ["_law_bag_here"] spName := ⟨fNa, _, ANa.mgf, kNa, ok_name FNa DTk, bNa⟩
  have DDs : Def P w K mg base "_law_deeds" 14 ["_law_bag_here", "_law_left", "_law_deep"] (spDeeds K C 5) := ⟨fDs, _, ADs.mgf, kDs, ok_deeds FDs FDe B frm DTk DNm DTh ADs.mgf bDs ADe.mgf bDe 5, bDs⟩
  have DTo : Def P w K mg base "_law_top" 15 ["_law_bag_here", "_law_many"] (spTop K C) := ⟨fTo, _, ATo.mgf, kTo, ok_top FTo DDs, bTo⟩
  have SPE : Spc P w K mg base CP "__eq__" 21 ["self", "other"] (spPEq K C CP) := ⟨fPE, _, ⟨aPE, iPE⟩, ok_peq FPE T TP SE, bPE⟩
  have DIc : Def P w K mg base "is_code" 35 ["thing"] (spIsCode C) := ⟨fIc, _, AIc.mgf, kIc, ok_isCode FIc npC.mgN DPo, bIc⟩
  have DIw : Def P w K mg base "is_code" 35 ["thing"] (spIsCodeW C) := ⟨fIc, _, AIc.mgf, kIc, ok_isCodeW FIc npC.mgN exZZ gPoW APo.mgf kPo bPo, bIc⟩
  have DOn : Def P w K mg base "_law_one" 36 ["_law_program"] (spOne K C CP) := ⟨fOn, _, AOn.mgf, kOn, ok_one FOn B T TP SE SPE SPS DCo DPo DIc DRp, bOn⟩
  have DTw : Def P w K mg base "_law_two" 36 ["_law_one_here", "_law_other"] (spTwo K C CP) := ⟨fTw, _, ATw.mgf, kTw, ok_two FTw B T TP SE SPE SPS SPL MP DCo DRo DPp, bTw⟩
  have DLi : Def P w K mg base "_law_like" 5 ["_law_bag_here", "_law_deeds_here"] (spLike K C) := ⟨fLi, _, ALi.mgf, kLi, ok_like FLi B DTk DTh, bLi⟩
  exact ok_law FLaw B T TP TR M MP SE SPS SRn ⟨fBa, _, ABa.mgf, kBa, ok_bag FBa B, bBa⟩ DTk DTh DTo DLi DOn DTw DCo DPo DIw DRp DRun
theorem walk {l : PySem.W.OpenLaw} {q : Program} {loose : List Str} {XP : (Str → Option Value) → Heap → Prop} {YP : World → Heap → Prop} {d : DefRec} {K : Params → PySem.W.Frag} (hn : l.most = some 63) (hdf : d.params.defaults = [])
    (hY : ∀ (w : World) (h : Heap), YP w h → (K w.params).In h)
    (F : ∀ (w : World) (mg : Str → Option Value) (fa : Addr) (h : Heap), (K w.params).In h → h.Ns mainGlobals mg → mg d.name = some (.ref fa) →
      ∃ fd : FuncData, (∀ (s : Shared) (u : Value), BindsTo s fd ⟨[u], []⟩ [("_law_script", u)]) ∧ ∀ base : Heap, (K w.params).In base → base.Ns mainGlobals mg → FnOk l.prog w (K w.params) mg base CX0 37 fa fd ["_law_script"] (spLaw (K w.params))) :
    PySem.W.WalkO q loose XP YP l.row.toRowW d [] (fun f vs => PySem.call f vs) :=
  L2.walk_of (n := 63) (k := 37) (x := "_law_script") (CX := fun _ => CX0) (sp := fun w => spLaw (K w.params)) hn (by decide) hdf ⟨rfl, by decide, by decide⟩ hY F (fun _ _ a ns hl _ hS => ⟨a, ns, rfl, hS, hl, fun _ => rfl⟩) fun _ _ _ _ _ z => z
end Js

open PySem PySem.W PyProof.Rows in
set_option maxRecDepth 100000 in
set_option maxHeartbeats 0 in
theorem PySem.Challenge.cw_judgeslip_k18_whole_programs_told_holds : PySem.Challenge.rw_judgeslip_k18_whole_programs_told.Holds := by
  w_on; o_law; k_head; (case hw => w_witness2)
  k_fill
  refine Js.walk (l := PySem.Challenge.rw_judgeslip_k18_whole_programs_told) rfl rfl (fun w h Y => PySem.W.kIn_of Y) ?F
  case F =>
    intro w mg fa h KX G hmg
    refine' Js.all_mk KX G hmg ?aC ?pg ?hd ?po ?sa ?mkC ?kc ?nF ?nS ?nZ ?ca ?cn ?ct ?cm ?neC ?aM ?aI ?iI ?lI ?cI ?kI ?lT ?aHd ?iHd ?lHd ?cHd ?kHd ?aTl ?iTl ?lTl ?cTl ?kTl ?aEq ?iEq ?lEq ?cEq ?kEq ?aSt ?iSt ?lSt ?cSt ?kSt ?aPa ?lPa ?cPa ?kPa ?aAl ?lAl ?cAl ?kAl ?aSg ?lSg ?cSg ?kSg ?aIn ?lIn ?cIn ?kIn ?aFt ?lFt ?cFt ?kFt ?aHf ?lHf ?cHf ?kHf ?aRi ?lRi ?cRi ?kRi ?aLk ?lLk ?cLk ?kLk ?aLy ?lLy ?cLy ?kLy ?aNi ?lNi ?cNi ?kNi ?aRw ?lRw ?cRw ?kRw ?aDw ?lDw ?cDw ?kDw ?aNu ?lNu ?cNu ?kNu ?aRo ?lRo ?cRo ?kRo ?aCo ?lCo ?cCo ?kCo ?aRc ?lRc ?cRc ?kRc ?aDc ?lDc ?cDc ?kDc ?aPc ?lPc ?cPc ?kPc ?aCn ?lCn ?cCn ?kCn ?aPp ?lPp ?cPp ?kPp ?aPo ?lPo ?cPo ?kPo ?aOt ?lOt ?cOt ?kOt ?aDt ?lDt ?cDt ?kDt ?aKt ?lKt ?cKt ?kKt ?aPt ?lPt ?cPt ?kPt ?aIc ?lIc ?cIc ?kIc ?aRp ?lRp ?cRp ?kRp ?aAh ?lAh ?cAh ?kAh ?aT2 ?lT2 ?cT2 ?kT2 ?aFw ?lFw ?cFw ?kFw ?aRr ?lRr ?cRr ?kRr ?aRd ?lRd ?cRd ?kRd ?aRl ?lRl ?cRl ?kRl ?aRn ?lRn ?cRn ?kRn ?aRt ?lRt ?cRt ?kRt ?aRe ?lRe ?cRe ?kRe ?aWh ?lWh ?cWh ?kWh ?aDu ?lDu ?cDu ?kDu ?aYe ?lYe ?cYe ?kYe ?aFn ?lFn ?cFn ?kFn ?aDo ?lDo ?cDo ?kDo ?aMd ?lMd ?cMd ?kMd ?aBa ?lBa ?cBa ?kBa ?aTa ?lTa ?cTa ?kTa ?aTh ?lTh ?cTh ?kTh ?aNa ?lNa ?cNa ?kNa ?aDe ?lDe ?cDe ?kDe ?aDs ?lDs ?cDs ?kDs ?aTo ?lTo ?cTo ?kTo ?aOn ?lOn ?cOn ?kOn ?aTw ?lTw ?cTw ?kTw ?aLi ?lLi ?cLi ?kLi ?aLaw ?lLaw ?cLaw ?kLaw ?aP ?pgP ?hdP ?poP ?saP ?mkCP ?kcP ?nDP ?nPP ?caP ?cmP ?neP ?aFm ?lFm ?litF ?lowF ?aN1 ?aN2 ?aN3 ?kii ?kib ?ktt ?kss ?fm0 ?fm1 ?fm2 ?fm3 ?fm4 ?fm5 ?fm6 ?aPI ?iPI ?lPI ?cPI ?kPI ?aPL ?iPL ?lPL ?cPL ?kPL ?aPE ?iPE ?lPE ?cPE ?kPE ?aPS ?iPS ?lPS ?cPS ?kPS ?aCR ?pgR ?hdR ?poR ?saR ?mkR ?kcR ?caR ?cmR ?neR ?n0R ?n1R ?n2R ?aRQ ?iRQ ?lRQ ?cRQ ?kRQ ?aRI ?iRI ?lRI ?cRI ?kRI ?tRI ?aRu ?lRu ?cRu ?kRu ?tRu ?aN ?xN ?ovN ?saN ?exN ?tyN ?kN ?plN ?vV ?iN ?tfN ?lN ?cN ?kfN ?hdN ?scN ?aZ ?xZ ?ovZ ?saZ ?exZ ?tyZ ?kZ ?plZ ?vVZ ?iZ ?tfZ ?lZ ?cZ ?kfZ ?hdZ ?scZ ?kni ?aCD ?pgD ?hdD ?poD ?saD ?mkD ?kcD ?caD ?cmD ?neD ?n0D ?n1D ?n2D ?aDI ?iDI ?lDI ?cDI ?kDI ?aL ?aLoo ?lLoo ?aTak ?lTak ?aNT ?nCD ?kyF ?z_len ?z_range ?z_isinstance ?z_abs ?z_int ?z_str ?z_max ?z_min ?z_all ?z_bool ?z_tuple ?z_zip ?z_enumerate ?z_list ?z_OverflowError ?z_reversed ?z_ValueError
    (case aC => k_is)
    (case pg => k_is)
    (case hd => k_is)
    (case po => k_is)
    (case sa => k_is)
    (case mkC => k_is)
    (case kc => k_is)
    (case nF => k_is)
    (case nS => k_is)
    (case nZ => k_is)
    (case ca => k_is)
    (case cn => k_is)
    (case ct => k_is)
    (case cm => k_is)
    (case neC => k_is)
    (case aM => k_is)
    (case aI => k_is)
    (case iI => k_is)
    (case lI => k_is)
    (case cI => k_is)
    (case kI => k_is)
    (case lT => k_is)
    (case aHd => k_is)
    (case iHd => k_is)
    (case lHd => k_is)
    (case cHd => k_is)
    (case kHd => k_is)
    (case aTl => k_is)
    (case iTl => k_is)
    (case lTl => k_is)
    (case cTl => k_is)
    (case kTl => k_is)
    (case aEq => k_is)
    (case iEq => k_is)
    (case lEq => k_is)
    (case cEq => k_is)
    (case kEq => k_is)
    (case aSt => k_is)
    (case iSt => k_is)
    (case lSt => k_is)
    (case cSt => k_is)
    (case kSt => k_is)
    (case aPa => k_is)
    (case lPa => k_is)
    (case cPa => k_is)
    (case kPa => k_is)
    (case aAl => k_is)
    (case lAl => k_is)
    (case cAl => k_is)
    (case kAl => k_is)
    (case aSg => k_is)
    (case lSg => k_is)
    (case cSg => k_is)
    (case kSg => k_is)
    (case aIn => k_is)
    (case lIn => k_is)
    (case cIn => k_is)
    (case kIn => k_is)
    (case aFt => k_is)
    (case lFt => k_is)
    (case cFt => k_is)
    (case kFt => k_is)
    (case aHf => k_is)
    (case lHf => k_is)
    (case cHf => k_is)
    (case kHf => k_is)
    (case aRi => k_is)
    (case lRi => k_is)
    (case cRi => k_is)
    (case kRi => k_is)
    (case aLk => k_is)
    (case lLk => k_is)
    (case cLk => k_is)
    (case kLk => k_is)
    (case aLy => k_is)
    (case lLy => k_is)
    (case cLy => k_is)
    (case kLy => k_is)
    (case aNi => k_is)
    (case lNi => k_is)
    (case cNi => k_is)
    (case kNi => k_is)
    (case aRw => k_is)
    (case lRw => k_is)
    (case cRw => k_is)
    (case kRw => k_is)
    (case aDw => k_is)
    (case lDw => k_is)
    (case cDw => k_is)
    (case kDw => k_is)
    (case aNu => k_is)
    (case lNu => k_is)
    (case cNu => k_is)
    (case kNu => k_is)
    (case aRo => k_is)
    (case lRo => k_is)
    (case cRo => k_is)
    (case kRo => k_is)
    (case aCo => k_is)
    (case lCo => k_is)
    (case cCo => k_is)
    (case kCo => k_is)
    (case aRc => k_is)
    (case lRc => k_is)
    (case cRc => k_is)
    (case kRc => k_is)
    (case aDc => k_is)
    (case lDc => k_is)
    (case cDc => k_is)
    (case kDc => k_is)
    (case aPc => k_is)
    (case lPc => k_is)
    (case cPc => k_is)
    (case kPc => k_is)
    (case aCn => k_is)
    (case lCn => k_is)
    (case cCn => k_is)
    (case kCn => k_is)
    (case aPp => k_is)
    (case lPp => k_is)
    (case cPp => k_is)
    (case kPp => k_is)
    (case aPo => k_is)
    (case lPo => k_is)
    (case cPo => k_is)
    (case kPo => k_is)
    (case aOt => k_is)
    (case lOt => k_is)
    (case cOt => k_is)
    (case kOt => k_is)
    (case aDt => k_is)
    (case lDt => k_is)
    (case cDt => k_is)
    (case kDt => k_is)
    (case aKt => k_is)
    (case lKt => k_is)
    (case cKt => k_is)
    (case kKt => k_is)
    (case aPt => k_is)
    (case lPt => k_is)
    (case cPt => k_is)
    (case kPt => k_is)
    (case aIc => k_is)
    (case lIc => k_is)
    (case cIc => k_is)
    (case kIc => k_is)
    (case aRp => k_is)
    (case lRp => k_is)
    (case cRp => k_is)
    (case kRp => k_is)
    (case aAh => k_is)
    (case lAh => k_is)
    (case cAh => k_is)
    (case kAh => k_is)
    (case aT2 => k_is)
    (case lT2 => k_is)
    (case cT2 => k_is)
    (case kT2 => k_is)
    (case aFw => k_is)
    (case lFw => k_is)
    (case cFw => k_is)
    (case kFw => k_is)
    (case aRr => k_is)
    (case lRr => k_is)
    (case cRr => k_is)
    (case kRr => k_is)
    (case aRd => k_is)
    (case lRd => k_is)
    (case cRd => k_is)
    (case kRd => k_is)
    (case aRl => k_is)
    (case lRl => k_is)
    (case cRl => k_is)
    (case kRl => k_is)
    (case aRn => k_is)
    (case lRn => k_is)
    (case cRn => k_is)
    (case kRn => k_is)
    (case aRt => k_is)
    (case lRt => k_is)
    (case cRt => k_is)
    (case kRt => k_is)
    (case aRe => k_is)
    (case lRe => k_is)
    (case cRe => k_is)
    (case kRe => k_is)
    (case aWh => k_is)
    (case lWh => k_is)
    (case cWh => k_is)
    (case kWh => k_is)
    (case aDu => k_is)
    (case lDu => k_is)
    (case cDu => k_is)
    (case kDu => k_is)
    (case aYe => k_is)
    (case lYe => k_is)
    (case cYe => k_is)
    (case kYe => k_is)
    (case aFn => k_is)
    (case lFn => k_is)
    (case cFn => k_is)
    (case kFn => k_is)
    (case aDo => k_is)
    (case lDo => k_is)
    (case cDo => k_is)
    (case kDo => k_is)
    (case aMd => k_is)
    (case lMd => k_is)
    (case cMd => k_is)
    (case kMd => k_is)
    (case aBa => k_is)
    (case lBa => k_is)
    (case cBa => k_is)
    (case kBa => k_is)
    (case aTa => k_is)
    (case lTa => k_is)
    (case cTa => k_is)
    (case kTa => k_is)
    (case aTh => k_is)
    (case lTh => k_is)
    (case cTh => k_is)
    (case kTh => k_is)
    (case aNa => k_is)
    (case lNa => k_is)
    (case cNa => k_is)
    (case kNa => k_is)
    (case aDe => k_is)
    (case lDe => k_is)
    (case cDe => k_is)
    (case kDe => k_is)
    (case aDs => k_is)
    (case lDs => k_is)
    (case cDs => k_is)
    (case kDs => k_is)
    (case aTo => k_is)
    (case lTo => k_is)
    (case cTo => k_is)
    (case kTo => k_is)
    (case aOn => k_is)
    (case lOn => k_is)
    (case cOn => k_is)
    (case kOn => k_is)
    (case aTw => k_is)
    (case lTw => k_is)
    (case cTw => k_is)
    (case kTw => k_is)
    (case aLi => k_is)
    (case lLi => k_is)
    (case cLi => k_is)
    (case kLi => k_is)
    (case aLaw => k_is)
    (case lLaw => k_is)
    (case cLaw => k_is)
    (case kLaw => k_is)
    (case aP => k_is)
    (case pgP => k_is)
    (case hdP => k_is)
    (case poP => k_is)
    (case saP => k_is)
    (case mkCP => k_is)
    (case kcP => k_is)
    (case nDP => k_is)
    (case nPP => k_is)
    (case caP => k_is)
    (case cmP => k_is)
    (case neP => k_is)
    (case aFm => k_is)
    (case lFm => k_is)
    (case litF => (repeat' (first | exact True.intro | refine ⟨⟨_, _, rfl, rfl⟩, ?_⟩)))
    (case lowF => (first | rfl | decide +kernel | k_is))
    (case aN1 => k_is)
    (case aN2 => k_is)
    (case aN3 => k_is)
    (case kii => (first | k_is | rfl | decide +kernel))
    (case kib => (first | k_is | rfl | decide +kernel))
    (case ktt => (first | k_is | rfl | decide +kernel))
    (case kss => (first | k_is | rfl | decide +kernel))
    (case fm0 => k_is)
    (case fm1 => k_is)
    (case fm2 => k_is)
    (case fm3 => k_is)
    (case fm4 => k_is)
    (case fm5 => k_is)
    (case fm6 => k_is)
    (case aPI => k_is)
    (case iPI => k_is)
    (case lPI => k_is)
    (case cPI => k_is)
    (case kPI => k_is)
    (case aPL => k_is)
    (case iPL => k_is)
    (case lPL => k_is)
    (case cPL => k_is)
    (case kPL => k_is)
    (case aPE => k_is)
    (case iPE => k_is)
    (case lPE => k_is)
    (case cPE => k_is)
    (case kPE => k_is)
    (case aPS => k_is)
    (case iPS => k_is)
    (case lPS => k_is)
    (case cPS => k_is)
    (case kPS => k_is)
    (case aCR => k_is)
    (case pgR => k_is)
    (case hdR => k_is)
    (case poR => k_is)
    (case saR => k_is)
    (case mkR => k_is)
    (case kcR => k_is)
    (case caR => k_is)
    (case cmR => k_is)
    (case neR => k_is)
    (case n0R => k_is)
    (case n1R => k_is)
    (case n2R => k_is)
    (case aRQ => k_is)
    (case iRQ => k_is)
    (case lRQ => k_is)
    (case cRQ => k_is)
    (case kRQ => k_is)
    (case aRI => k_is)
    (case iRI => k_is)
    (case lRI => k_is)
    (case cRI => k_is)
    (case kRI => k_is)
    (case tRI => k_is)
    (case aRu => k_is)
    (case lRu => k_is)
    (case cRu => k_is)
    (case kRu => k_is)
    (case tRu => k_is)
    (case aN => k_is)
    (case xN => k_is)
    (case ovN => (first | kx_is | k_is | rfl | decide +kernel))
    (case saN => k_is)
    (case exN => k_is)
    (case tyN => k_is)
    (case kN => k_is)
    (case plN => k_is)
    (case vV => k_is)
    (case iN => k_is)
    (case tfN => k_is)
    (case lN => k_is)
    (case cN => k_is)
    (case kfN => k_is)
    (case hdN => k_is)
    (case scN => (first | rfl | k_is))
    (case aZ => k_is)
    (case xZ => k_is)
    (case ovZ => (first | kx_is | k_is | rfl | decide +kernel))
    (case saZ => k_is)
    (case exZ => k_is)
    (case tyZ => k_is)
    (case kZ => k_is)
    (case plZ => k_is)
    (case vVZ => k_is)
    (case iZ => k_is)
    (case tfZ => k_is)
    (case lZ => k_is)
    (case cZ => k_is)
    (case kfZ => k_is)
    (case hdZ => k_is)
    (case scZ => (first | rfl | k_is))
    (case kni => (first | k_is | rfl | decide +kernel))
    (case aCD => k_is)
    (case pgD => k_is)
    (case hdD => k_is)
    (case poD => k_is)
    (case saD => k_is)
    (case mkD => k_is)
    (case kcD => k_is)
    (case caD => k_is)
    (case cmD => k_is)
    (case neD => k_is)
    (case n0D => k_is)
    (case n1D => k_is)
    (case n2D => k_is)
    (case aDI => k_is)
    (case iDI => k_is)
    (case lDI => k_is)
    (case cDI => k_is)
    (case kDI => k_is)
    (case aL => k_is)
    (case aLoo => k_is)
    (case lLoo => k_is)
    (case aTak => k_is)
    (case lTak => k_is)
    (case aNT => k_is)
    (case nCD => (first | decide | (intro h; cases h) | simp | omega))
    (case kyF => (repeat' (first | exact True.intro | refine ⟨⟨_, rfl⟩, ?_⟩)))
    (case z_len => k_is)
    (case z_range => k_is)
    (case z_isinstance => k_is)
    (case z_abs => k_is)
    (case z_int => k_is)
    (case z_str => k_is)
    (case z_max => k_is)
    (case z_min => k_is)
    (case z_all => k_is)
    (case z_bool => k_is)
    (case z_tuple => k_is)
    (case z_zip => k_is)
    (case z_enumerate => k_is)
    (case z_list => k_is)
    (case z_OverflowError => k_is)
    (case z_reversed => k_is)
    (case z_ValueError => k_is)
