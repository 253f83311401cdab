import PyProof.Rows.All
import Wide.All
import OpenK.AllK
import Wide.FinOn
import PyProof.EqAt
import PyProof.EqKinds
import PyProof.TupleCall
import HandS.ForMost
import HandS.ForExc
import HandS.IsInst
import HandS.NoneIn
import HandS.Defaults
import HandS.MakeKw
import HandS.OwnEq
import HandS.Walk
import HandS.Rev
import HandS.FStr
import HandS.More
import KE.KCallOwn
import HandS.Conv
import KE.KStateDown
import HandS.Base
import HandS.Call
import HandS.Ends
import HandS.Exc
import HandS.Words
import HandS.WordsExc
import HandS.Head0
import HandS.Head1
import HandS.Head2
import HandS.HeadEnd
import HandS.HeadHook1
import HandS.HeadHook2
import HandS.HeadHook3
import HandS.HeadHook4
import KE.KExcLine
import HandS.ExcIs
import PyProof.NeKinds
import HandS.Zip
import HandS.Zip0
import KE.GoesZip
import KE.GoesMore
import HandS.Replace
import HandS.TryOnly
import HandS.ExcInit
import HandS.Star
import PyProof.ListStr
import HandS.ExcField
import HandS.ExcOwn
import KE.KExcIs
import KE.KExcInit
import PyProof.ExcBaseAll.OverflowError
import PyProof.ExcBaseAll.ValueError
import HandS.HotCalls
import HandS.ExcInitHot
import HandS.Comp
import HandS.ExcCtx
import KE.GoesComp
import KE.GoesRaise
import HandS.Style
import HandS.TupAny
import PyProof.Rows.EqNone
import HandS.Records
import HandS.AnyAll
import PySem.Challenge.RW_judgeslip_k10_no_texts_of_programs
set_option Elab.async false
set_option linter.all false
set_option maxRecDepth 100000
set_option maxHeartbeats 2000000
namespace L2
open PySem PySem.Spec PyProof.Rows
section
variable {X : Cx} {CX : CXT} {n : Nat} {C f : Addr} {fd : FuncData} {ps : List Str} {sp : Sp} {E : XK} {pins : List (Addr × Obj)} {σ : St} {H : Hp} {s : Shared}
theorem run_fnA {A : Around} {Q : VK} {us : List Value} {vs : List V} (F : FnOk X.prog X.w X.K X.mg X.base CX n f fd ps sp) (hr : Room n A) (e0 : Env0 X.prog X.w X.K X.mg X.base A X.stack s H) (hb : Binds X.K fd ps []) (hx : Passes CX X E)
    (I : Inv X pins σ H s) (r : Vals vs us) (h : sp vs H Q E) : wpAny (model X.prog X.w) A (call (.ref f) us) (EP X pins σ Q) X.xe s := by
  have hl : (us ++ []).length = ps.length := by rw [List.append_nil, ← r.length]; exact F.len _ _ _ _ h
  have hb' := hb s us I.kIn hl
  rw [List.append_nil] at hb'
  refine wpAny_call (codeAny_mono (F.run A X.stack s H ⟨us, []⟩ us vs Q E hr e0 hb' r h) fun r s' hq => ?_)
  cases r with
  | error e => exact hx pins σ H s e s' I hq
  | ok fl =>
    cases fl with
    | ret u => exact I.after hq
    | next => exact False.elim hq
    | brk => exact False.elim hq
    | cont => exact False.elim hq
theorem inst_of {a dx : Addr} {fs : List (Str × V)} (I : Inv X pins σ H s) (ha : H a = some (.ins C dx fs)) : ∃ od, PySem.W.InstAt s.heap a (PySem.W.instObj C dx) C (some od) := by
  obtain ⟨mA, J, _⟩ := ins_get I.hok ha
  obtain ⟨od, J, _⟩ := J.look
  exact ⟨od, J⟩
structure Own (K : PySem.W.Frag) (C : Addr) (name : Str) (f : Addr) : Prop where
  at_ : PySem.W.findIn K (.ref C) name = some (some (.ref f))
  fn : PySem.W.isFn K (.ref f) = true
def rStrOwn (C : Addr) (sp : Sp) (E : XK) : List V → Hp → VK → Prop := fun xs H Q => ∃ a dx fs, xs = [V.ref a] ∧ H a = some (.ins C dx fs) ∧ sp [.ref a] H (fun z H' => ∃ i : Str, z = .str i ∧ Q (.str i) H') E
theorem call_strOwn (o : Own X.K C "__str__" f) (F : FnOk X.prog X.w X.K X.mg X.base CX n f fd ps sp) (hb : Binds X.K fd ps []) (hr : Room (n + 2) X.A) (hx : Passes CX X E) : CallR X (.type "str") (rStrOwn C sp E) := by
  intro pins s σ H xs us Q I r h
  obtain ⟨a, dx, fs, rfl, ha, q⟩ := h
  obtain ⟨u, rfl, ru⟩ := vals1 r
  cases (show u = Value.ref a from ru)
  obtain ⟨od, J⟩ := inst_of I ha
  have hr2 : Room n X.A.in1.in1 := (show Room (n + 1) X.A.in1 from Room.in1 hr).in1
  refine PySem.W.kso_call hr2.units0 I.kIn J o.at_ o.fn (wpAny_mono (run_fnA (us := [.ref a]) (vs := [.ref a]) F hr2 I.env0.in1.in1 hb hx I (.cons rfl .nil) q) (fun w s' z => ?_) fun _ _ x => x)
  obtain ⟨z', H', I', rz, i, ei, qz⟩ := z
  subst ei
  obtain ⟨t, e⟩ := (show ∃ t, w = Value.str i t from rz)
  cases e
  exact ⟨.str i, H', I', ⟨_, rfl⟩, qz⟩
theorem rc_own {A : Around} {Q : Bool → Hp → Prop} {a b dx dy : Addr} {fs gs : List (Str × V)} (o : Own X.K C "__eq__" f) (F : FnOk X.prog X.w X.K X.mg X.base CX n f fd ps sp) (hb : Binds X.K fd ps []) (hr : Room n A) (e0 : Env0 X.prog X.w X.K X.mg X.base A X.stack s H) (hx : Passes CX X E)
    (I : Inv X pins σ H s) (ha : H a = some (.ins C dx fs)) (hb' : H b = some (.ins C dy gs)) (q : sp [.ref a, .ref b] H (fun z H' => ∃ b, z = .bl b ∧ Q b H') E) :
    wpAny (model X.prog X.w) A (richCompare .Eq (.ref a) (.ref b)) (fun v s' => ∃ r, v = .bool r ∧ ∃ H', Inv X pins σ H' s' ∧ Q r H') X.xe s := by
  obtain ⟨od, J⟩ := inst_of I ha
  obtain ⟨od', J'⟩ := inst_of I hb'
  obtain ⟨m, hF⟩ := I.fr
  refine PySem.W.cmp_K (op := .Eq) (tb := .ref C) hr.units0 hF I.ok.mod.kin J J'.type (by simp [PySem.W.notFirst]) o.at_ o.fn (wpAny_mono (run_fnA (us := [.ref a, .ref b]) (vs := [.ref a, .ref b]) F hr e0 hb hx I (.cons rfl (.cons rfl .nil)) q) (fun w s' z => ?_) fun _ _ x => x)
  obtain ⟨z', H', I', rz, i, ei, qz⟩ := z
  subst ei
  cases (show w = Value.bool i from rz)
  exact ⟨i, rfl, H', I', qz⟩
end
end L2
set_option Elab.async false
set_option linter.all false
set_option maxRecDepth 100000
set_option maxHeartbeats 2000000
namespace L2
open PySem PySem.Spec PyProof.Rows
abbrev Tells := V → V → Bool → Hp → Prop
def EqT (X : Cx) (n : Nat) (D : Tells) : Prop :=
  ∀ (A : Around) (pins : List (Addr × Obj)) (s : Shared) (σ : St) (H : Hp) (x y : V) (u v : Value) (r : Bool), Sub X n A → Inv X pins σ H s → RelV x u → RelV y v → D x y r H →
    wpAny (model X.prog X.w) A (eqBool u v) (fun r' s' => r' = r ∧ ∃ H', Inv X pins σ H' s' ∧ Same H H') X.xe s
theorem eqT_own {X : Cx} {CX : CXT} {n : Nat} {C f : Addr} {fd : FuncData} {ps : List Str} {sp : Sp} {E : XK} {D : Tells} (o : Own X.K C "__eq__" f) (F : FnOk X.prog X.w X.K X.mg X.base CX n f fd ps sp) (hb : Binds X.K fd ps []) (hx : Passes CX X E)
    (hD : ∀ x y r H, D x y r H → ∃ a b dx dy fs gs, x = .ref a ∧ y = .ref b ∧ H a = some (.ins C dx fs) ∧ H b = some (.ins C dy gs) ∧ (a = b → r = true) ∧ sp [.ref a, .ref b] H (fun z H' => ∃ b, z = .bl b ∧ b = r ∧ Same H H') E) : EqT X n D := by
  intro A pins s σ H x y u v r sb I rx ry d
  obtain ⟨a, b, dx, dy, fs, gs, rfl, rfl, ha, hb', hab, q⟩ := hD _ _ _ _ d
  cases (show u = Value.ref a from rx)
  cases (show v = Value.ref b from ry)
  by_cases hc : a = b
  · subst hc
    rw [hab rfl]
    exact SeqAt.EqAt.same (A := A) (s := s) (.ref a) X.prog X.w X.xe _ ⟨rfl, H, I, Same.refl H⟩
  · have e0 : Env0 X.prog X.w X.K X.mg X.base A X.stack s H := by
      have e := I.env0
      exact ⟨by rw [sb.fr]; exact e.frames, e.mod, e.bs, e.bsz, e.funs, e.frf, e.hok, e.bare⟩
    refine GQ.eqBool_refG hc (wpAny_mono (rc_own (Q := fun r' H' => r' = r ∧ Same H H') o F hb sb.room e0 hx I ha hb' q) (fun w s' z => ?_) fun _ _ x => x)
    obtain ⟨r', hw, H', I', er, sm⟩ := z
    exact ⟨r', hw, er, H', I', sm⟩
def gSlice (to : TE) (tl th : TO) : TG := fun v σ H Q => to σ H fun o H1 => tl σ H1 fun l H2 => th σ H2 fun u H3 => ∃ (p q : Addr) (xs ys : List V) (a c : Int), o = .ref p ∧ v = .ref q ∧ l = some a ∧ u = some c ∧ H3 p = some (.lst xs) ∧ H3 q = some (.lst ys) ∧ p ≠ q ∧
  0 ≤ a ∧ a ≤ c ∧ c ≤ xs.length ∧ xs.length + ys.length ≤ sizeLine ∧ Q σ (upd H3 p (.lst (xs.take a.toNat ++ ys ++ xs.drop c.toNat)))
theorem pg_slice {X : Cx} {o : Expr} {lo hi : Option Expr} {to : TE} {tl th : TO} {p2 pos : Pos} (ho : PE X o to) (hl : PO X lo tl) (hu : PO X hi th)
    (ha : ∀ v, assign (.Subscript o (.Slice lo hi none p2) pos) X.env v = (do
      let ov ← holding [v] (eval o X.env)
      let iv ← holding [v, ov] (eval (.Slice lo hi none p2) X.env)
      standAt pos
      holding [v, ov, iv] (setItem ov iv v)
      release [iv, v, ov] []) := by intro _; rfl) : PG X (.Subscript o (.Slice lo hi none p2) pos) (gSlice to tl th) := by
  refine ⟨fun pins s σ H v u Q I r h => ?_⟩
  rw [ha]
  refine wpAny_bind (wpAny_holding (thn (ho.run pins s σ H _ I h) fun ov s1 ⟨x, H1, I1, r1, q1⟩ => ?_))
  refine wpAny_bind (wpAny_holding (wpAny_Slice (thn (hl.run pins s1 σ H1 _ I1 q1) fun vl s2 ⟨l, H2, I2, pl, q2⟩ => thn (hu.run pins s2 σ H2 _ I2 q2) fun vu s3 ⟨m, H3, I3, pu, q3⟩ => ?_)))
  rw [evalPart_none]
  refine wpAny_pure ?_
  have I4 : Inv X pins σ H3 { s3 with heap := s3.heap.push { cls := .type "slice", data := .fields #[vl, vu, .none] } } := I3.kept (t' := s3.toks) fun b ob q => Heap.get?_push_of_some _ q
  obtain ⟨p, q, xs, ys, a, c, rfl, rfl, rfl, rfl, hp, hq, hne, h0, hac, hc, hz, k⟩ := q3
  cases (show ov = Value.ref p from r1)
  cases (show u = Value.ref q from r)
  refine wpAny_bind (wpAny_standAt (wpAny_bind (wpAny_holding ?_)))
  have ra : RelV (.int a) vl := by cases pl; exact ⟨_, rfl⟩
  have rc : RelV (.int c) vu := by cases pu; exact ⟨_, rfl⟩
  exact set_slice I4 hp hq hne (Heap.IsSliceOf.new ..) ra rc h0 hac hc hz fun s' I5 => wpAny_release ⟨σ, _, I5, k⟩
def Itse (x : Str) : It := ⟨fun i _ => i < x.cps.size, fun i H v H' => ∃ T c, v = .ref T ∧ H T = none ∧ H' = upd H T (.tup [.int (i : Nat), .str ⟨#[c]⟩]) ∧ x.cps[i]? = some c, fun i _ => i = x.cps.size⟩
theorem draws_str {prog : Program} {w : World} {A : Around} (hh : A.handled = none) (it : Addr) (x : Str) (t : Tok) :
    Draws prog w A it [it] x.cps.size (fun i v => ∃ c u, x.cps[i]? = some c ∧ v = .str ⟨#[c]⟩ u) (fun i h => h.IsStrIter it (strIterType x) x t i) := by
  unfold strIterType
  split
  · exact Draws.strAscii hh it x t
  · exact Draws.strWide hh it x t
theorem turn_enumS {P : Program} {w : World} {K : PySem.W.Frag} {elts : List Expr} {kk : Nat} {tpos : Pos} (x : Str) (t : Tok) (e it : Addr) :
    Turn P w K (.Tuple elts kk tpos) (Itse x) [e, it] e (fun i h => (∃ old, IsEnum h e it ((i : Nat) : Int) old) ∧ h.IsStrIter it (strIterType x) x t i ∧ e ≠ it) where
  mem := by simp
  obj := fun i h st b hb => by
    obtain ⟨⟨old, he⟩, ⟨o, ho, hc, hd⟩, _⟩ := st
    have e' : b = e ∨ b = it := by simpa using hb
    rcases e' with z | z
    · rw [z]; exact ⟨_, he, fun v q => nomatch q⟩
    · rw [z]; exact ⟨o, ho, fun v q => by rw [hd] at q; cases q⟩
  keep := fun i h h' st k => let ⟨⟨old, he⟩, ⟨o, ho, r⟩, hne⟩ := st; ⟨⟨old, k e (by simp) _ he⟩, ⟨o, k it (by simp) o ho, r⟩, hne⟩
  item := by
    intro X hP hw hK hc i pins s σ H E I hf st hg
    subst hP hw hK
    obtain ⟨⟨old, he⟩, hit, hne⟩ := st
    have hel : e < s.heap.objs.size := Heap.lt_size he
    have hil : it < s.heap.objs.size := by obtain ⟨_, q, _⟩ := hit; exact Heap.lt_size q
    refine wpAny_pyNext_enum_itemD (draws_str (A := X.A.in1) (show X.A.in1.handled = none from I.ok.hd hc) it x t) he hit hg hne (by simpa using hne) fun u h' tk hPx ho hit' hT hsz hk => ?_
    obtain ⟨c, tu, hcx, rfl⟩ := hPx
    refine ⟨_, rfl, wpAny_letOwnedTupleGo_enum (s := { s with heap := h', toks := tk + 1 }) ho fun h'' he' sb => ?_⟩
    have hT2 : h''.get? s.heap.objs.size = some { cls := .type "tuple", data := .seq #[.int i tk, .str ⟨#[c]⟩ tu] } := (sb.2 _ (Nat.ne_of_gt hel)).trans hT
    have new : ObjOk X.prog X.w (upd H s.heap.objs.size (.tup [.int (i : Nat), .str ⟨#[c]⟩])) h'' s.heap.objs.size (.tup [.int (i : Nat), .str ⟨#[c]⟩]) :=
      ⟨by show 2 ≤ sizeLine; decide, [.int i tk, .str ⟨#[c]⟩ tu], .cons ⟨_, rfl⟩ (.cons ⟨_, rfl⟩ .nil), ⟨_, hT2, rfl, _, rfl⟩⟩
    have I1 : Inv X pins σ (upd H s.heap.objs.size (.tup [.int (i : Nat), .str ⟨#[c]⟩])) { s with heap := h'', toks := tk + 1 } :=
      I.turnedNew (ch := [e, it]) (fun b ob hb q => (sb.2 b (fun z => hb (by simp [z]))).trans (hk b ob (fun z => hb (by simp [z])) (fun z => hb (by simp [z])) q)) hf (Nat.le_refl _) new
    refine ⟨.ref s.heap.objs.size, _, I1, rfl, ⟨_, c, rfl, I.hok.fresh (Nat.le_refl _), rfl, hcx⟩, ⟨⟨.str ⟨#[c]⟩ tu, ?_⟩, ?_, hne⟩, fun b hb => ?_⟩
    · have e1 : ((i + 1 : Nat) : Int) = (i : Int) + 1 := by omega
      rw [e1]; exact he'
    · obtain ⟨o, q, r⟩ := hit'
      exact ⟨o, (sb.2 it (Ne.symm hne)).trans q, r⟩
    · have hb' : b < s.heap.objs.size := by
        have e' : b = e ∨ b = it := by simpa using hb
        rcases e' with z | z
        · rw [z]; exact hel
        · rw [z]; exact hil
      rw [upd_ne (Nat.ne_of_lt hb')]
      exact (hf b hb).1
  done := by
    intro X hP hw hK hc i pins s σ H E I hf st hg
    subst hP hw hK
    obtain ⟨⟨old, he⟩, hit, hne⟩ := st
    obtain ⟨f0, f1, f2, f3, f4, f5⟩ := hf it (by simp)
    have hin : i = x.cps.size := hg
    subst hin
    exact wpAny_pyNext_enum_endD (draws_str (A := X.A.in1) (show X.A.in1.handled = none from I.ok.hd hc) it x t) he hit fun h' eb => ⟨rfl, I.turned (t' := s.toks) (fun b o hb q => eb b o hb q) f0 f1 f3 f4 f5⟩
  self := fun A i s Q E st h => let ⟨⟨_, he⟩, _⟩ := st; wpAny_pyIter_enum he h
def iEnumS (ta : TA) : TI := fun σ H R => ta σ H fun vs H1 => ∃ x, vs = [.str x] ∧ R (Itse x) H1
theorem pi_enumS {X : Cx} {e : Expr} {ta : TA} {p pos tpos : Pos} {elts : List Expr} {kk : Nat} (hg : Gl X "enumerate") (hm : X.mg "enumerate" = none) (ha : PA X [e] ta) (hs : starEach [e] X.env = [(false, eval e X.env)] := by rfl) :
    PI X (.Tuple elts kk tpos) (.Call (.Name "enumerate" p) [e] [] pos) (iEnumS ta) := by
  refine ⟨fun pins s σ H R I h => ?_⟩
  refine Call_ (ld_blt I hg hm boot_enumerate (PyProof.Rows.callWith_type1 (thn (ha.run pos pins s σ H _ I h) fun us s1 ⟨vs, H1, I1, r1, q1⟩ => ?_) hs rfl))
  obtain ⟨x, ex, q⟩ := q1
  subst ex
  obtain ⟨u, rfl, ru⟩ := vals1 r1
  obtain ⟨t, rfl⟩ := ru
  refine call_enumerate_str fun h' he hit hsz hk => wpAny_pyIter_enum he ?_
  have I2 : Inv X pins σ H1 { s1 with heap := h' } := I1.kept (t' := s1.toks) hk
  refine ⟨s1.heap.objs.size + 1, [s1.heap.objs.size + 1, s1.heap.objs.size], _, _, H1, rfl, I2, turn_enumS x t (s1.heap.objs.size + 1) s1.heap.objs.size, ⟨⟨.none, he⟩, hit, Nat.succ_ne_self _⟩, fun b hb => ?_, q⟩
  have e' : b = s1.heap.objs.size + 1 ∨ b = s1.heap.objs.size := by simpa using hb
  have hle : s1.heap.objs.size ≤ b := by
    rcases e' with z | z
    · rw [z]; exact Nat.le_add_right _ _
    · rw [z]; exact Nat.le_refl _
  exact I1.fpOk hle (I1.hok.fresh hle)
theorem walk_enumS {z : Str} : Walk (Itse z) z.cps.size (fun _ => True) (fun i H v H' => ∃ T c, v = .ref T ∧ H T = none ∧ H' = upd H T (.tup [.int (i : Nat), .str ⟨#[c]⟩]) ∧ z.cps[i]? = some c) :=
  ⟨fun _ _ h _ => h, fun _ _ => rfl, fun _ _ _ _ _ _ y => y⟩
end L2
set_option Elab.async false
set_option linter.all false
set_option maxRecDepth 100000
set_option maxHeartbeats 2000000
namespace L2
open PySem PySem.Spec PyProof.Rows
end L2
set_option Elab.async false
set_option linter.all false
set_option maxRecDepth 100000
set_option maxHeartbeats 2000000
namespace Js
open PySem L2
inductive Tr where
  | nil
  | pr (l r : Tr)
  deriving DecidableEq
namespace Tr
def size : Tr → Nat
  | nil => 0
  | pr l r => 1 + l.size + r.size
def codes : Tr → List Nat
  | nil => [46]
  | pr l r => 40 :: (l.codes ++ (r.codes ++ [41]))
def text (t : Tr) : Str := ⟨t.codes.toArray⟩
theorem text_list (t : Tr) : t.text.cps.toList = t.codes := rfl
theorem codes_len : ∀ t : Tr, t.codes.length = 3 * t.size + 1
  | nil => rfl
  | pr l r => by
    have h1 := codes_len l
    have h2 := codes_len r
    simp only [codes, size, List.length_cons, List.length_append, List.length_nil]
    omega
theorem text_len (t : Tr) : t.text.length = 3 * t.size + 1 := by
  have h : t.text.length = t.codes.length := by
    show t.codes.toArray.size = _
    rw [List.size_toArray]
  rw [h, codes_len]
theorem size_nil {t : Tr} (h : t.size = 0) : t = nil := by
  cases t with
  | nil => rfl
  | pr l r => simp [size] at h
theorem small_eq {t u : Tr} (h : t.size = u.size) (h1 : t.size ≤ 1) : t = u := by
  cases t with
  | nil => exact (size_nil h.symm).symm
  | pr l r =>
    cases u with
    | nil => simp [size] at h
    | pr l' r' =>
      simp only [size] at h h1
      have e1 := size_nil (t := l) (by omega)
      have e2 := size_nil (t := r) (by omega)
      have e3 := size_nil (t := l') (by omega)
      have e4 := size_nil (t := r') (by omega)
      rw [e1, e2, e3, e4]
end Tr
open Tr (small_eq)
theorem n_fs : ¬ (("first" : Str) = "second") := by decide +kernel
theorem n_fz : ¬ (("first" : Str) = "size") := by decide +kernel
theorem n_sz : ¬ (("second" : Str) = "size") := by decide +kernel
def tf (f s : V) (n : Int) : List (Str × V) := putF "size" (.int n) (putF "second" s (putF "first" f []))
theorem tf_first (f s : V) (n : Int) : (tf f s n).lookup ("first" : Str) = some f := by
  unfold tf
  rw [lookup_putF, if_neg n_fz, lookup_putF, if_neg n_fs, lookup_putF, if_pos rfl]
theorem tf_second (f s : V) (n : Int) : (tf f s n).lookup ("second" : Str) = some s := by
  unfold tf
  rw [lookup_putF, if_neg n_sz, lookup_putF, if_pos rfl]
theorem tf_size (f s : V) (n : Int) : (tf f s n).lookup ("size" : Str) = some (.int n) := by
  unfold tf
  rw [lookup_putF, if_pos rfl]
inductive Th (C : Addr) (H : Hp) : Addr → Tr → Prop where
  | nil {a dx : Addr} (h : H a = some (.ins C dx (tf .non .non 0))) : Th C H a .nil
  | pr {a dx b c : Addr} {l r : Tr} (h : H a = some (.ins C dx (tf (.ref b) (.ref c) ((Tr.pr l r).size : Nat)))) (hl : Th C H b l) (hr : Th C H c r) : Th C H a (.pr l r)
def KT (H H' : Hp) : Prop := ∀ a o, H a = some o → (∀ xs, o ≠ HO.lst xs) → H' a = some o
theorem KT.of {H H' : Hp} (s : Same H H') : KT H H' := fun _ _ h _ => s _ _ h
theorem KT.refl (H : Hp) : KT H H := fun _ _ h _ => h
theorem KT.trans {H H1 H2 : Hp} (a : KT H H1) (b : KT H1 H2) : KT H H2 := fun x o h n => b x o (a x o h n) n
theorem KT.lst {H : Hp} {p : Addr} {o : HO} {xs : List V} (hp : H p = some (.lst xs)) : KT H (upd H p o) := fun a u h n => by
  rw [upd_ne]
  · exact h
  · intro e
    subst e
    exact n _ (Option.some.inj (h.symm.trans hp))
theorem KT.new {H : Hp} {p : Addr} {o : HO} (hp : H p = none) : KT H (upd H p o) := fun a u h n => by
  rw [upd_ne (ne_of_none h hp)]
  exact h
theorem _root_.L2.Same.new {H : Hp} {p : Addr} {o : HO} (hp : H p = none) : Same H (upd H p o) := fun a u h => by
  rw [upd_ne (ne_of_none h hp)]
  exact h
theorem _root_.L2.Same.set {H0 H : Hp} {p : Addr} {o : HO} (s : Same H0 H) (hp : H0 p = none) : Same H0 (upd H p o) := fun a u h => by
  rw [upd_ne (ne_of_none h hp)]
  exact s _ _ h
theorem Th.kt {C : Addr} {H H' : Hp} (k : KT H H') {a : Addr} {t : Tr} (h : Th C H a t) : Th C H' a t := by
  induction h with
  | nil h => exact .nil (k _ _ h (fun _ e => nomatch e))
  | pr h _ _ ih1 ih2 => exact .pr (k _ _ h (fun _ e => nomatch e)) ih1 ih2
theorem Th.same {C : Addr} {H H' : Hp} (s : Same H H') {a : Addr} {t : Tr} (h : Th C H a t) : Th C H' a t := h.kt (KT.of s)
theorem Th.obj {C : Addr} {H : Hp} {a : Addr} {t : Tr} (h : Th C H a t) : ∃ dx f s, H a = some (.ins C dx (tf f s (t.size : Nat))) := by
  cases h with
  | nil h => exact ⟨_, _, _, h⟩
  | pr h _ _ => exact ⟨_, _, _, h⟩
theorem tf_ref_inj {C dx dx' : Addr} {f s f' s' : V} {n n' : Int} (h : HO.ins C dx (tf f s n) = HO.ins C dx' (tf f' s' n')) : f = f' ∧ s = s' ∧ n = n' := by
  injection h with _ _ h3
  have e1 := congrArg (List.lookup ("first" : Str)) h3
  have e2 := congrArg (List.lookup ("second" : Str)) h3
  have e3 := congrArg (List.lookup ("size" : Str)) h3
  rw [tf_first, tf_first] at e1
  rw [tf_second, tf_second] at e2
  rw [tf_size, tf_size] at e3
  exact ⟨Option.some.inj e1, Option.some.inj e2, V.int.inj (Option.some.inj e3)⟩
theorem Th.inj {C : Addr} {H : Hp} {a : Addr} {t u : Tr} (h : Th C H a t) (h' : Th C H a u) : t = u := by
  induction h generalizing u with
  | nil h =>
    cases h' with
    | nil _ => rfl
    | pr h' _ _ =>
      have e := Option.some.inj (h.symm.trans h')
      exact V.noConfusion (tf_ref_inj e).1
  | pr h _ _ ih1 ih2 =>
    cases h' with
    | nil h' =>
      have e := Option.some.inj (h.symm.trans h')
      exact V.noConfusion (tf_ref_inj e).1
    | pr h' h1 h2 =>
      have e := tf_ref_inj (Option.some.inj (h.symm.trans h'))
      have e1 := V.ref.inj e.1
      have e2 := V.ref.inj e.2.1
      subst e1 e2
      rw [ih1 h1, ih2 h2]
theorem Th.pair {C : Addr} {H : Hp} {a : Addr} {l r : Tr} (h : Th C H a (.pr l r)) : ∃ dx b c, H a = some (.ins C dx (tf (.ref b) (.ref c) ((Tr.pr l r).size : Nat))) ∧ Th C H b l ∧ Th C H c r := by
  cases h with
  | pr h hl hr => exact ⟨_, _, _, h, hl, hr⟩
theorem last_rev {α : Type} (v : α) (r : List α) : (v :: r).reverse[(v :: r).reverse.length - 1]? = some v := by
  rw [List.reverse_cons, List.length_append, List.length_reverse]
  show (r.reverse ++ [v])[r.length + 1 - 1]? = some v
  rw [Nat.add_sub_cancel, List.getElem?_append_right (by rw [List.length_reverse]; exact Nat.le_refl _), List.length_reverse, Nat.sub_self]
  rfl
theorem drop_rev {α : Type} (v : α) (r : List α) : (v :: r).reverse.dropLast = r.reverse := by
  rw [List.reverse_cons, List.dropLast_concat]
theorem push_rev {α : Type} (v : α) (r : List α) : r.reverse ++ [v] = (v :: r).reverse := by
  rw [List.reverse_cons]
def PrAt (C : Addr) (H : Hp) (v : V) (p : Tr × Tr) : Prop := ∃ q a b, v = .ref q ∧ H q = some (.tup [.ref a, .ref b]) ∧ Th C H a p.1 ∧ Th C H b p.2
theorem PrAt.kt {C : Addr} {H H' : Hp} (k : KT H H') {v : V} {p : Tr × Tr} (h : PrAt C H v p) : PrAt C H' v p := by
  obtain ⟨q, a, b, e, hq, h1, h2⟩ := h
  exact ⟨q, a, b, e, k _ _ hq (fun _ e => nomatch e), h1.kt k, h2.kt k⟩
theorem prs_kt {C : Addr} {H H' : Hp} (k : KT H H') : ∀ {rs : List V} {ps : List (Tr × Tr)}, Paired (PrAt C H) rs ps → Paired (PrAt C H') rs ps
  | _, _, .nil => .nil
  | _, _, .cons h t => .cons (h.kt k) (prs_kt k t)
def pm (ps : List (Tr × Tr)) : Nat := (ps.map fun p => 2 * p.1.size + 1).sum
theorem pm_cons (p : Tr × Tr) (ps : List (Tr × Tr)) : pm (p :: ps) = 2 * p.1.size + 1 + pm ps := by simp [pm]
theorem pm_len : ∀ ps : List (Tr × Tr), ps.length ≤ pm ps
  | [] => Nat.zero_le _
  | p :: ps => by
    have := pm_len ps
    rw [pm_cons, List.length_cons]
    omega
def WtAt (C : Addr) (H : Hp) (v : V) (o : Option Tr) : Prop := (v = .non ∧ o = none) ∨ ∃ a t, v = .ref a ∧ o = some t ∧ Th C H a t
theorem WtAt.kt {C : Addr} {H H' : Hp} (k : KT H H') {v : V} {o : Option Tr} (h : WtAt C H v o) : WtAt C H' v o := by
  rcases h with h | ⟨a, t, e1, e2, h⟩
  · exact .inl h
  · exact .inr ⟨a, t, e1, e2, h.kt k⟩
theorem wts_kt {C : Addr} {H H' : Hp} (k : KT H H') : ∀ {rs : List V} {ps : List (Option Tr)}, Paired (WtAt C H) rs ps → Paired (WtAt C H') rs ps
  | _, _, .nil => .nil
  | _, _, .cons h t => .cons (h.kt k) (wts_kt k t)
def wout : Option Tr → List Nat
  | none => [41]
  | some t => t.codes
def wouts (ps : List (Option Tr)) : List Nat := (ps.map wout).flatten
theorem wouts_cons (p : Option Tr) (ps : List (Option Tr)) : wouts (p :: ps) = wout p ++ wouts ps := by simp [wouts]
def wm1 : Option Tr → Nat
  | none => 1
  | some t => 3 * t.size + 1
def wm (ps : List (Option Tr)) : Nat := (ps.map wm1).sum
theorem wm_cons (p : Option Tr) (ps : List (Option Tr)) : wm (p :: ps) = wm1 p + wm ps := by simp [wm]
theorem wm_len : ∀ ps : List (Option Tr), ps.length ≤ wm ps
  | [] => Nat.zero_le _
  | p :: ps => by
    have := wm_len ps
    rw [wm_cons, List.length_cons]
    cases p with
    | none => simp only [wm1]; omega
    | some t => simp only [wm1]; omega
theorem line4 : 100000 < sizeLine := by rw [sizeLine_eq]; decide
end Js
set_option Elab.async false
set_option linter.all false
set_option maxRecDepth 100000
set_option maxHeartbeats 2000000
namespace Js
open PySem L2
def top (i : Nat) : Stmt := PySem.Challenge.pw_judgeslip_k10_no_texts_of_programs.main.body.getD i (.Pass ⟨0, 0, 0, 0⟩)
abbrev sInit : Stmt := inClass (top 11) 0
abbrev sEq : Stmt := inClass (top 11) 4
abbrev sStr : Stmt := inClass (top 11) 5
abbrev sPairs : Stmt := top 12
abbrev sAlike : Stmt := top 13
abbrev sSigns : Stmt := top 14
structure Txt (K : PySem.W.Frag) (mg : Str → Option Value) (C : Addr) : Prop where
  cl : Cls K C
  nF : NoAttr K C "first"
  nS : NoAttr K C "second"
  nZ : NoAttr K C "size"
  mgC : mg "Thing" = some (.ref C)
  mgM : ∃ t, mg "MOST_PAIRS" = some (.int 4000 t)
  len : mg "len" = none
  range : mg "range" = none
  isi : mg "isinstance" = none
  ca : PySem.W.findIn K (.ref C) "__class__" = some (some (.builtin "object.__class__"))
  cn : PySem.W.specialIn K (.builtin "object.__class__") "__get__" = some (some (.builtin "getset_descriptor.__get__"))
  ct : PySem.W.takesIn K (.builtin "object.__class__") = some true
  cm : PySem.W.mroIn K C (.type "object") = some true
  ne : PySem.W.findIn K (.ref C) "__ne__" = some (some (.builtin "object.__ne__"))
structure At (K : PySem.W.Frag) (mg : Str → Option Value) (x : Str) (st : Stmt) (ps : List Str) (f : Addr) (fd : FuncData) : Prop where
  F : Fun K x x st f fd
  mgf : mg x = some (.ref f)
  b : Binds K fd ps []
def PairsOf (C : Addr) (H : Hp) (x y : V) (n : Nat) : Prop := (x = .non ∧ y = .non ∧ n = 0) ∨ ∃ a b t u, x = .ref a ∧ y = .ref b ∧ Th C H a t ∧ Th C H b u ∧ n = 1 + t.size + u.size
def spPairs (C : Addr) : Sp := fun vs H Q _ => ∃ x y n, vs = [x, y] ∧ PairsOf C H x y n ∧ Q (.int (n : Nat)) H
def spInit (C : Addr) : Sp := fun vs H Q _ => ∃ (p dx : Addr) (x y : V) (n : Nat), vs = [.ref p, x, y] ∧ H p = some (.ins C dx []) ∧ PairsOf C H x y n ∧ n ≤ 4000 ∧ Q .non (upd H p (.ins C dx (tf x y (n : Nat))))
def spEqT (C : Addr) : Sp := fun vs H Q _ => ∃ a b t u, vs = [.ref a, .ref b] ∧ Th C H a t ∧ Th C H b u ∧ t.size ≤ 4000 ∧ ∀ H', Same H H' → Q (.bl (decide (t = u))) H'
def sgn (c : Nat) : V := .str ⟨#[c]⟩
def spSigns (C : Addr) : Sp := fun vs H Q _ => ∃ a t, vs = [.ref a] ∧ Th C H a t ∧ t.size ≤ 4000 ∧ ∀ p H', Same H H' → H p = none → H' p = some (.lst (t.codes.map sgn)) → Q (.ref p) H'
def spStr (C : Addr) : Sp := fun vs H Q _ => ∃ a t, vs = [.ref a] ∧ Th C H a t ∧ t.size ≤ 4000 ∧ ∀ H', Same H H' → Q (.str t.text) H'
theorem mk_pr {C a b : Addr} {H : Hp} {t u : Tr} {Q : VK} {E : XK} (ha : Th C H a t) (hb : Th C H b u) (hz : 1 + t.size + u.size ≤ 4000) (k : ∀ x H', Same H H' → H x = none → Th C H' x (.pr t u) → Q (.ref x) H') :
    ∀ x dx, H x = none → H dx = none → dx ≠ x → spInit C (.ref x :: ([.ref a, .ref b] ++ [])) (upd (upd H dx (.own x)) x (.ins C dx [])) (fun v H3 => v = .non ∧ Q (.ref x) H3) E := by
  intro x dx nx ndx ne
  have s0 : Same H (upd (upd H dx (.own x)) x (.ins C dx [])) := fun b o e => by
    rw [upd_ne (ne_of_none e nx), upd_ne (ne_of_none e ndx)]
    exact e
  refine ⟨x, dx, _, _, 1 + t.size + u.size, rfl, upd_same, .inr ⟨a, b, t, u, rfl, rfl, ha.same s0, hb.same s0, rfl⟩, hz, rfl, ?_⟩
  rw [upd_upd]
  have s1 : Same H (upd (upd H dx (.own x)) x (.ins C dx (tf (.ref a) (.ref b) ((1 + t.size + u.size : Nat) : Int)))) := fun b o e => by
    rw [upd_ne (ne_of_none e nx), upd_ne (ne_of_none e ndx)]
    exact e
  exact k x _ s1 nx (.pr upd_same (ha.same s1) (hb.same s1))
theorem mk_nil {C : Addr} {H : Hp} {Q : VK} {E : XK} (k : ∀ x H', Same H H' → H x = none → Th C H' x .nil → Q (.ref x) H') :
    ∀ x dx, H x = none → H dx = none → dx ≠ x → spInit C (.ref x :: ([] ++ [.non, .non])) (upd (upd H dx (.own x)) x (.ins C dx [])) (fun v H3 => v = .non ∧ Q (.ref x) H3) E := by
  intro x dx nx ndx ne
  refine ⟨x, dx, _, _, 0, rfl, upd_same, .inl ⟨rfl, rfl, rfl⟩, by decide, rfl, ?_⟩
  rw [upd_upd]
  have s1 : Same H (upd (upd H dx (.own x)) x (.ins C dx (tf .non .non ((0 : Nat) : Int)))) := fun b o e => by
    rw [upd_ne (ne_of_none e nx), upd_ne (ne_of_none e ndx)]
    exact e
  exact k x _ s1 nx (.nil upd_same)
section
variable {P : Program} {w : World} {K : PySem.W.Frag} {mg : Str → Option Value} {base : Heap} {C : Addr}
theorem scP : FnScope ["first", "second"] ["first", "second"] (defScope sPairs) := ⟨rfl, rfl, rfl, by decide +kernel, rfl, by decide +kernel, by decide +kernel⟩
theorem ok_pairs {f : Addr} {fd : FuncData} (F : Fun K "pairs_in" "pairs_in" sPairs f fd) (T : Txt K mg C) : FnOk P w K mg base CX0 1 f fd ["first", "second"] (spPairs C) := by
  refine F.ok scP (fun vs H Q E h => ?_) (fun cdv A outer s H vs Q E hr h => ?_)
  · obtain ⟨x, y, n, rfl, _⟩ := h
    rfl
  · obtain ⟨x, y, n, rfl, hp, k⟩ := h
    refine ⟨_, pss_cons (ps_if (PW.pt (pw_and (pt_cmp (pc_isN (pv 0))) (pw_and1 (pt_cmp (pc_isN (pv 1)))))) (pss_one (ps_ret pe_int)) pss_nil)
      (pss_one (ps_ret (pe_op op_add (pe_op op_add pe_int (pe_fld (pv 0) rfl)) (pe_fld (pv 1) rfl)))), ?_⟩
    rcases hp with ⟨rfl, rfl, rfl⟩ | ⟨a, b, t, u, rfl, rfl, ha, hb, rfl⟩
    · refine ⟨_, rfl, _, rfl, ?_⟩
      refine iteT ⟨_, rfl, _, rfl, ?_⟩
      exact iteT k
    · refine ⟨_, rfl, _, rfl, ?_⟩
      refine iteF ?_
      refine iteF ?_
      obtain ⟨dx, f1, s1, h1⟩ := ha.obj
      obtain ⟨dy, f2, s2, h2⟩ := hb.obj
      refine ⟨_, rfl, _, _, _, _, _, rfl, h1, T.cl, T.nZ, tf_size _ _ _, _, _, rfl, rfl, _, rfl, _, _, _, _, _, rfl, h2, T.cl, T.nZ, tf_size _ _ _, _, _, rfl, rfl, ?_⟩
      have e : ((1 : Int) + (t.size : Nat) + (u.size : Nat)) = ((1 + t.size + u.size : Nat) : Int) := by omega
      show Q (V.int ((1 : Int) + (t.size : Nat) + (u.size : Nat))) H
      rw [e]
      exact k
theorem scI : FnScope ["self", "first", "second", "size"] ["self", "first", "second"] (defScope sInit) := ⟨rfl, rfl, rfl, by decide +kernel, rfl, by decide +kernel, by decide +kernel⟩
theorem ok_init {f fP : Addr} {fd fdP : FuncData} (F : FunD K "__init__" "Thing.__init__" (defArgs sInit) (defBody sInit) (defScope sInit) [.non, .non] [] f fd) (T : Txt K mg C) (AP : At K mg "pairs_in" sPairs ["first", "second"] fP fdP) : FnOk P w K mg base CX0 2 f fd ["self", "first", "second"] (spInit C) := by
  have GP : FnOk P w K mg base CX0 1 fP fdP ["first", "second"] (spPairs C) := ok_pairs AP.F T
  obtain ⟨tm, mgM⟩ := T.mgM
  refine F.ok scI (fun vs H Q E h => ?_) (fun cdv A outer s H vs Q E hr h => ?_)
  · obtain ⟨p, dx, x, y, n, rfl, _⟩ := h
    rfl
  · obtain ⟨p, dx, x, y, n, rfl, hp, hxy, hn, k⟩ := h
    refine ⟨_, PSs.nox (pss_cons (ps_set (i := 3) scI.nd rfl (Or.inl rfl) (pe_call GP hr rfl AP.mgf AP.F.kp AP.b .nil pass0 (pa_cons (pv 1) (pa_cons (pv 2) pa_nil))))
      (pss_cons (ps_if (pt_cmpR op_gt (pv 3) (pe_glob (v := .int 4000) rfl mgM ⟨_, rfl⟩) (nomark _)) (pss_one ps_never) pss_nil)
      (pss_cons (ps_fld (pv 0) (pv 1) rfl) (pss_cons (ps_fld (pv 0) (pv 2) rfl) (pss_one (ps_fld (pv 0) (pv 3) rfl)))))), ?_⟩
    refine ⟨_, rfl, _, rfl, x, y, n, rfl, hxy, ?_⟩
    refine ⟨_, rfl, _, _, rfl, rfl, _, rfl, ?_⟩
    have ed : decide ((4000 : Int) < (n : Nat)) = false := decide_eq_false (by omega)
    rw [ed]
    refine iteF ?_
    refine ⟨_, rfl, _, rfl, p, C, dx, [], rfl, hp, T.cl, T.nF, (by show 0 < 1000; decide), ?_⟩
    refine ⟨_, rfl, _, rfl, p, C, dx, _, rfl, upd_same, T.cl, T.nS, Nat.lt_of_le_of_lt (length_putF _ _ _) (by show 0 + 1 < 1000; decide), ?_⟩
    refine ⟨_, rfl, _, rfl, p, C, dx, _, rfl, upd_same, T.cl, T.nZ, ?_, ?_⟩
    · have h1 := length_putF "first" x []
      have h2 := length_putF "second" y (putF "first" x [])
      simp only [List.length_nil] at h1
      omega
    · show Q .non (upd (upd (upd H p _) p _) p (.ins C dx (tf x y (n : Nat))))
      rw [upd_upd, upd_upd]
      exact k
end
end Js
set_option Elab.async false
set_option linter.all false
set_option maxRecDepth 100000
set_option maxHeartbeats 2000000
namespace Js
open PySem PySem.Spec PyProof.Rows L2
def intB (K : PySem.W.Frag) (d : Addr) (x : Str) (n : Int) : Bool := match PySem.W.nsIn K d x with
  | some (some (.int j _)) => decide (j = n)
  | _ => false
theorem int_raw {K : PySem.W.Frag} {d : Addr} {x : Str} {n : Int} (h : intB K d x n = true) : ∃ t, PySem.W.nsIn K d x = some (some (.int n t)) := by
  unfold intB at h
  split at h
  · rename_i j t e
    rw [← of_decide_eq_true h]
    exact ⟨t, e⟩
  · cases h
def strB (K : PySem.W.Frag) (d : Addr) (x z : Str) : Bool := match PySem.W.nsIn K d x with
  | some (some (.str y _)) => decide (y = z)
  | _ => false
theorem str_raw {K : PySem.W.Frag} {d : Addr} {x z : Str} (h : strB K d x z = true) : ∃ t, PySem.W.nsIn K d x = some (some (.str z t)) := by
  unfold strB at h
  split at h
  · rename_i j t e
    rw [← of_decide_eq_true h]
    exact ⟨t, e⟩
  · cases h
def tupK (K : PySem.W.Frag) (a : Addr) (vs : List V) : Bool := match K.lookup a with
  | some ⟨.type c, _, .seq its _, _⟩ => decide (c = "tuple") && He.relAll vs its.toList
  | _ => false
theorem tup_raw {K : PySem.W.Frag} {a : Addr} {vs : List V} (h : tupK K a vs = true) : ∃ od its n sl, K.lookup a = some ⟨.type "tuple", od, .seq its n, sl⟩ ∧ Vals vs its.toList := by
  unfold tupK at h
  split at h
  · rename_i c od its n sl e
    obtain ⟨h1, h2⟩ := He.ba h
    have e1 : c = "tuple" := of_decide_eq_true h1
    rw [e1] at e
    exact ⟨od, its, n, sl, e, He.relAll_ok h2⟩
  · cases h
def excB (K : PySem.W.Frag) (C : Addr) (bm : List Value) (newId : String) : Bool := match K.lookup C with
  | some ⟨.type "type", _, .cls cd, sl⟩ => (match cd.mro, sl.toList with
    | .ref C' :: bm', [_, _, _, _, some (.builtin n), _] => C' == C && n == newId && !cd.hasDel && decide (bm' = bm) && cd.hasDict
    | _, _ => false)
  | _ => false
theorem exc_raw {K : PySem.W.Frag} {C : Addr} {bm : List Value} {newId : String} (q : excB K C bm newId = true) : ∃ nm qn N bs sn sub ab col dd k0 k1 k2 k3 k5,
    K.lookup C = some (excClassObj nm qn C N bs bm true sn sub ab col dd k0 k1 k2 k3 k5 newId) := by
  unfold excB at q
  split at q
  · rename_i dd cd sl ho
    split at q
    · rename_i C' bm' k0 k1 k2 k3 n k5 hm hs
      simp only [Bool.and_eq_true, beq_iff_eq, Bool.not_eq_true', decide_eq_true_eq] at q
      obtain ⟨⟨⟨⟨rfl, rfl⟩, hdel⟩, rfl⟩, hd⟩ := q
      obtain ⟨nm, bs, mro, ns, qn, hdd, sn, sub, ab, col, del⟩ := cd
      dsimp only at hm hdel hd
      subst hm hdel hd
      have hsl : sl = #[k0, k1, k2, k3, some (.builtin n), k5] := by
        obtain ⟨l⟩ := sl
        simp only at hs
        rw [hs]
      subst hsl
      exact ⟨nm, qn, ns, bs, sn, sub, ab, col, dd, k0, k1, k2, k3, k5, ho⟩
    · cases q
  · cases q
section
variable {fa : List He.Fa} {fn : List He.DefD} {K : PySem.W.Frag}
theorem fn_one (c : He.SaysD fa fn K) (i : Nat) {d : He.DefD} (h : fn[i]? = some d) : He.fnW K d.at_ = d.val ∧ d.ok K = true := by
  have c2 := (He.ba (show ((fa.all fun f => f.ok K) && fn.all fun d => d.ok K) = true from congrArg (fun z : He.AlD => z.1) c)).2
  have e : fn.map (fun d => He.fnW K d.at_) = fn.map He.DefD.val := congrArg (fun z : He.AlD => z.2) c
  have e2 : (fn.map fun d => He.fnW K d.at_)[i]? = (fn.map He.DefD.val)[i]? := by rw [e]
  rw [List.getElem?_map, List.getElem?_map, h] at e2
  exact ⟨Option.some.inj e2, List.all_eq_true.mp c2 d (List.mem_of_getElem? h)⟩
theorem fn_any (c : He.SaysD fa fn K) (i : Nat) {p : Str × Option Str} {name qual : Str} {st : Stmt} {dl : List He.Dv} (h : fn[i]? = some ⟨p, name, qual, defArgs st, defBody st, defScope st, dl, []⟩) :
    ∃ oc od osl dV kV dc pm an cd ct, K.lookup (He.fAd K p) = some ⟨oc, od, .func (PySem.W.fnOf name qual (defArgs st) (defBody st) (defScope st) dV kV dc pm an cd ct), osl⟩ ∧ PySem.W.codeIn K cd qual = true ∧ He.dflB K dV (dl.map (He.Dv.v K)) = true := by
  obtain ⟨e, c1⟩ := fn_one c i h
  obtain ⟨kp, c2⟩ := He.ba c1
  unfold He.fnW at e
  dsimp only at e c2
  cases q : K.lookup (He.fAd K p) with
  | none =>
    rw [q] at c2
    cases c2
  | some o =>
    obtain ⟨oc, od, dt, osl⟩ := o
    rw [q] at c2 e
    cases dt with
    | func fd =>
      obtain ⟨n1, n2, n3, n4, n5, n6, n7, n8, n9, n10, n11, n12, n13, n14, n15⟩ := fd
      have e2 : (some (n1, n2, n3, n4, n5, n6, n7, n15) : He.FnW) = some (name, qual, defArgs st, .stmts (defBody st), defScope st, mainGlobals, [], builtinsNs) := e
      simp only [Option.some.injEq, Prod.mk.injEq] at e2
      obtain ⟨h1, h2, h3, h4, h5, h6, h7, h8⟩ := e2
      subst h1 h2 h3 h4 h5 h6 h7 h8
      have c3 : (PySem.W.codeIn K n13 n2 && (He.dflB K n8 (dl.map (He.Dv.v K)) && He.kwdB K n9 [])) = true := c2
      obtain ⟨k1, k2⟩ := He.ba c3
      obtain ⟨k3, k4⟩ := He.ba k2
      exact ⟨oc, od, osl, n8, n9, n10, n11, n12, n13, n14, rfl, k1, k3⟩
    | _ => cases c2
theorem fn_raw (c : He.SaysD fa fn K) (i : Nat) (p : Str × Option Str) (name qual : Str) (st : Stmt) (h : fn[i]? = some ⟨p, name, qual, defArgs st, defBody st, defScope st, [], []⟩) :
    ∃ oc od osl kV dc pm an cd ct, K.lookup (He.fAd K p) = some ⟨oc, od, .func (PySem.W.fnOf name qual (defArgs st) (defBody st) (defScope st) .none kV dc pm an cd ct), osl⟩ ∧ PySem.W.codeIn K cd qual = true := by
  obtain ⟨oc, od, osl, dV, kV, dc, pm, an, cd, ct, e, h1, h2⟩ := fn_any c i h
  cases dV with
  | none => exact ⟨oc, od, osl, kV, dc, pm, an, cd, ct, e, h1⟩
  | _ => cases h2
theorem fn_rawD (c : He.SaysD fa fn K) (i : Nat) (p : Str × Option Str) (name qual : Str) (st : Stmt) (v : He.Dv) (vs : List He.Dv) (h : fn[i]? = some ⟨p, name, qual, defArgs st, defBody st, defScope st, v :: vs, []⟩) :
    ∃ oc od osl T kV dc pm an cd ct ot odt its nt slt, K.lookup (He.fAd K p) = some ⟨oc, od, .func (PySem.W.fnOf name qual (defArgs st) (defBody st) (defScope st) (.ref T) kV dc pm an cd ct), osl⟩ ∧ PySem.W.codeIn K cd qual = true ∧
      K.lookup T = some ⟨ot, odt, .seq its nt, slt⟩ ∧ Vals ((v :: vs).map (He.Dv.v K)) its.toList := by
  obtain ⟨oc, od, osl, dV, kV, dc, pm, an, cd, ct, e, h1, h2⟩ := fn_any c i h
  cases dV with
  | ref T =>
    have h3 : (match K.lookup T with
      | some ⟨_, _, .seq its _, _⟩ => He.relAll ((v :: vs).map (He.Dv.v K)) its.toList
      | _ => false) = true := h2
    cases q : K.lookup T with
    | none =>
      rw [q] at h3
      cases h3
    | some o =>
      obtain ⟨ot, odt, dt, slt⟩ := o
      rw [q] at h3
      cases dt with
      | seq its n => exact ⟨oc, od, osl, T, kV, dc, pm, an, cd, ct, ot, odt, its, n, slt, e, h1, q, He.relAll_ok h3⟩
      | _ => cases h3
  | _ => cases h2
end
theorem tab_keys {fa : List He.Fa} {fn : List He.DefD} {ts : List He.Tab} {w : World} {K : PySem.W.Frag} (c : He.SaysT fa fn ts w K) (i : Nat) {t : He.Tab} (h : ts[i]? = some t) : ∃ es n, KDict K w (t.1 K) es n ∧ es.toList.map He.keyOf = He.keysIn w.params t.2 := by
  obtain ⟨es, n, d⟩ := c.tab i h
  refine ⟨es, n, d, ?_⟩
  have e : ts.map (fun t => He.dicW K (t.1 K)) = ts.map fun t => some (He.keysIn w.params t.2) := congrArg (fun z : He.AlT => z.2) c
  have e2 : (ts.map fun t => He.dicW K (t.1 K))[i]? = (ts.map fun t => some (He.keysIn w.params t.2))[i]? := by rw [e]
  rw [List.getElem?_map, List.getElem?_map, h] at e2
  have e3 : He.dicW K (t.1 K) = some (He.keysIn w.params t.2) := Option.some.inj e2
  unfold He.dicW at e3
  rw [d.at_] at e3
  dsimp only at e3
  split at e3
  · exact Option.some.inj e3
  · cases e3
section
variable (as : List Addr) (fn : List He.DefD) (ts : List He.Tab) (ex : PySem.W.Frag → Bool)
def hookC : PySem.W.Hook where
  α := He.AlT × Bool
  obs := fun s => (He.obsT [] fn ts (He.frG s.heap.get? as), ex (He.frG s.heap.get? as))
  val := fun w => (He.valT fn ts w, true)
  says := fun w h => ∃ K : PySem.W.Frag, K.In h ∧ He.SaysT [] fn ts w K ∧ ex K = true
  of := fun _ _ e => ⟨_, He.frG_in, congrArg (fun z : He.AlT × Bool => z.1) e, congrArg (fun z : He.AlT × Bool => z.2) e⟩
  keeps := fun _ _ _ ⟨K, hK, c⟩ k => ⟨K, PySem.W.Frag.In.keeps hK k, c⟩
def obC (s : PySem.W.SharedT) : He.AlT × Bool := (He.obsT [] fn ts (He.frG (HandSHeadRun.getT s) as), ex (He.frG (HandSHeadRun.getT s) as))
theorem obC_eq (s : PySem.W.SharedT) : obC as fn ts ex s = (hookC as fn ts ex).obs s.abs := by
  have e : HandSHeadRun.getT s = s.abs.heap.get? := funext (HandSHeadRun.getT_eq s)
  unfold obC
  rw [e]
  rfl
end
theorem run_join {r : PySem.W.OpenRow} {q : Program} {as : List Addr} {fn : List He.DefD} {ts : List He.Tab} {ex : PySem.W.Frag → Bool} {M : Nat} {loose : List Str} {w : World} (h0 : HandSHeadRun.RunEq r q PySem.W.Hook.none (fun _ => ()) M loose w)
    (h1 : ∀ os : OsState, (HandSHeadRun.endF (HandSHeadRun.stepQ (HandSHeadRun.denQ HandSHeadRun.tabQ) r.prog w) M r.prog w os).map (fun s => He.obsT [] fn ts (He.frG (HandSHeadRun.getT s) as)) = some (He.valT fn ts w))
    (h2 : ∀ os : OsState, (HandSHeadRun.endF (HandSHeadRun.stepQ (HandSHeadRun.denQ HandSHeadRun.tabQ) r.prog w) M r.prog w os).map (fun s => ex (He.frG (HandSHeadRun.getT s) as)) = some true) :
    HandSHeadRun.RunEq r q (hookC as fn ts ex) (obC as fn ts ex) M loose w := by
  intro os
  have a0 := h0 os
  have a1 := h1 os
  have a2 := h2 os
  revert a0 a1 a2
  generalize HandSHeadRun.endF (HandSHeadRun.stepQ (HandSHeadRun.denQ HandSHeadRun.tabQ) r.prog w) M r.prog w os = o
  intro a0 a1 a2
  cases o with
  | none => cases a1
  | some s =>
    have b0 := Option.some.inj a0
    have b1 : He.obsT [] fn ts (He.frG (HandSHeadRun.getT s) as) = He.valT fn ts w := Option.some.inj a1
    have b2 : ex (He.frG (HandSHeadRun.getT s) as) = true := Option.some.inj a2
    obtain ⟨c1, c2⟩ := Prod.mk.inj b0
    obtain ⟨c2, _⟩ := Prod.mk.inj c2
    show some (_, _, (He.obsT [] fn ts (He.frG (HandSHeadRun.getT s) as), ex (He.frG (HandSHeadRun.getT s) as))) = some (true, _, (He.valT fn ts w, true))
    rw [b1, b2, c1, c2]
theorem ex_at {K : PySem.W.Frag} {l : List (PySem.W.Frag → Bool)} (h : (l.all fun f => f K) = true) (i : Nat) {f : PySem.W.Frag → Bool} (e : l[i]? = some f) : f K = true := List.all_eq_true.mp h f (List.mem_of_getElem? e)
end Js
set_option Elab.async false
set_option linter.all false
set_option maxRecDepth 100000
set_option maxHeartbeats 0
namespace Js
open PySem PySem.Spec PyProof.Rows L2
def hnm0 : List Str := ["_wall", "NoText", "NoProgram", "NoStep", "TooGreat", "NoRoom", "NoName", "NoSaying", "MOST_PAIRS", "Thing", "pairs_in", "alike", "signs", "MANY_NAMES", "MOST_DEEDS", "MOST_FLOORS", "LETTERS", "FORMS", "Program", "is_name", "fits", "has_form", "names_in", "rows_in", "look_through", "lay_out", "row_words", "deed_words", "read_thing", "is_whole"]
def hnm1 : List Str := ["signs_due", "LOOKS", "TAKERS", "Reader", "read_program", "ahead", "take", "first_words", "read_row", "read_deed", "read_look", "read_name", "read_told", "_law_bag", "_law_take", "_law_thing", "_law_name", "_law_deed", "_law_deeds", "_law_top", "_law_shown", "_law_text", "_law_is_thing", "_law_looked", "_law_met", "_law_breaks", "_law_spoilt", "_law_good"]
def hnames : List Str := hnm0 ++ hnm1
def hfn0 : List He.DefD := [
  ⟨("Thing", some "__init__"), "__init__", "Thing.__init__", defArgs (inClass (top 11) 0), defBody (inClass (top 11) 0), defScope (inClass (top 11) 0), [.non, .non], []⟩,
  ⟨("Thing", some "__eq__"), "__eq__", "Thing.__eq__", defArgs (inClass (top 11) 4), defBody (inClass (top 11) 4), defScope (inClass (top 11) 4), [], []⟩,
  ⟨("Thing", some "__str__"), "__str__", "Thing.__str__", defArgs (inClass (top 11) 5), defBody (inClass (top 11) 5), defScope (inClass (top 11) 5), [], []⟩,
  ⟨("pairs_in", none), "pairs_in", "pairs_in", defArgs (top 12), defBody (top 12), defScope (top 12), [], []⟩,
  ⟨("alike", none), "alike", "alike", defArgs (top 13), defBody (top 13), defScope (top 13), [], []⟩,
  ⟨("signs", none), "signs", "signs", defArgs (top 14), defBody (top 14), defScope (top 14), [], []⟩,
  ⟨("is_name", none), "is_name", "is_name", defArgs (top 22), defBody (top 22), defScope (top 22), [], []⟩,
  ⟨("fits", none), "fits", "fits", defArgs (top 23), defBody (top 23), defScope (top 23), [], []⟩,
  ⟨("has_form", none), "has_form", "has_form", defArgs (top 24), defBody (top 24), defScope (top 24), [], []⟩,
  ⟨("rows_in", none), "rows_in", "rows_in", defArgs (top 26), defBody (top 26), defScope (top 26), [], []⟩,
  ⟨("look_through", none), "look_through", "look_through", defArgs (top 27), defBody (top 27), defScope (top 27), [], []⟩,
  ⟨("lay_out", none), "lay_out", "lay_out", defArgs (top 28), defBody (top 28), defScope (top 28), [], []⟩,
  ⟨("names_in", none), "names_in", "names_in", defArgs (top 25), defBody (top 25), defScope (top 25), [], []⟩,
  ⟨("row_words", none), "row_words", "row_words", defArgs (top 29), defBody (top 29), defScope (top 29), [], []⟩,
  ⟨("deed_words", none), "deed_words", "deed_words", defArgs (top 30), defBody (top 30), defScope (top 30), [], []⟩,
  ⟨("read_program", none), "read_program", "read_program", defArgs (top 39), defBody (top 39), defScope (top 39), [], []⟩,
  ⟨("ahead", none), "ahead", "ahead", defArgs (top 40), defBody (top 40), defScope (top 40), [], []⟩,
  ⟨("take", none), "take", "take", defArgs (top 41), defBody (top 41), defScope (top 41), [], []⟩,
  ⟨("first_words", none), "first_words", "first_words", defArgs (top 42), defBody (top 42), defScope (top 42), [], []⟩,
  ⟨("read_row", none), "read_row", "read_row", defArgs (top 43), defBody (top 43), defScope (top 43), [], []⟩]
def hfn1 : List He.DefD := [
  ⟨("read_deed", none), "read_deed", "read_deed", defArgs (top 44), defBody (top 44), defScope (top 44), [], []⟩,
  ⟨("read_look", none), "read_look", "read_look", defArgs (top 45), defBody (top 45), defScope (top 45), [], []⟩,
  ⟨("read_name", none), "read_name", "read_name", defArgs (top 46), defBody (top 46), defScope (top 46), [], []⟩,
  ⟨("read_told", none), "read_told", "read_told", defArgs (top 47), defBody (top 47), defScope (top 47), [], []⟩,
  ⟨("read_thing", none), "read_thing", "read_thing", defArgs (top 32), defBody (top 32), defScope (top 32), [], []⟩,
  ⟨("is_whole", none), "is_whole", "is_whole", defArgs (top 33), defBody (top 33), defScope (top 33), [], []⟩,
  ⟨("signs_due", none), "signs_due", "signs_due", defArgs (top 34), defBody (top 34), defScope (top 34), [], []⟩,
  ⟨("_law_bag", none), "_law_bag", "_law_bag", defArgs (top 49), defBody (top 49), defScope (top 49), [], []⟩,
  ⟨("_law_take", none), "_law_take", "_law_take", defArgs (top 50), defBody (top 50), defScope (top 50), [], []⟩,
  ⟨("_law_thing", none), "_law_thing", "_law_thing", defArgs (top 51), defBody (top 51), defScope (top 51), [], []⟩,
  ⟨("_law_name", none), "_law_name", "_law_name", defArgs (top 52), defBody (top 52), defScope (top 52), [], []⟩,
  ⟨("_law_deed", none), "_law_deed", "_law_deed", defArgs (top 53), defBody (top 53), defScope (top 53), [], []⟩,
  ⟨("_law_deeds", none), "_law_deeds", "_law_deeds", defArgs (top 54), defBody (top 54), defScope (top 54), [], []⟩,
  ⟨("_law_top", none), "_law_top", "_law_top", defArgs (top 55), defBody (top 55), defScope (top 55), [], []⟩,
  ⟨("_law_shown", none), "_law_shown", "_law_shown", defArgs (top 56), defBody (top 56), defScope (top 56), [], []⟩,
  ⟨("_law_text", none), "_law_text", "_law_text", defArgs (top 57), defBody (top 57), defScope (top 57), [], []⟩,
  ⟨("_law_is_thing", none), "_law_is_thing", "_law_is_thing", defArgs (top 58), defBody (top 58), defScope (top 58), [], []⟩,
  ⟨("_law_looked", none), "_law_looked", "_law_looked", defArgs (top 59), defBody (top 59), defScope (top 59), [], []⟩,
  ⟨("_law_met", none), "_law_met", "_law_met", defArgs (top 60), defBody (top 60), defScope (top 60), [], []⟩,
  ⟨("_law_breaks", none), "_law_breaks", "_law_breaks", defArgs (top 61), defBody (top 61), defScope (top 61), [], []⟩]
def hfn2 : List He.DefD := [
  ⟨("_law_spoilt", none), "_law_spoilt", "_law_spoilt", defArgs (top 62), defBody (top 62), defScope (top 62), [], []⟩,
  ⟨("_law_good", none), "_law_good", "_law_good", defArgs (top 63), defBody (top 63), defScope (top 63), [], []⟩,
  ⟨("law", none), "law", "law", defArgs (top 64), defBody (top 64), defScope (top 64), [], []⟩,
  ⟨("Program", some "__init__"), "__init__", "Program.__init__", defArgs (inClass (top 21) 0), defBody (inClass (top 21) 0), defScope (inClass (top 21) 0), [], []⟩,
  ⟨("Program", some "__len__"), "__len__", "Program.__len__", defArgs (inClass (top 21) 2), defBody (inClass (top 21) 2), defScope (inClass (top 21) 2), [], []⟩,
  ⟨("Program", some "__eq__"), "__eq__", "Program.__eq__", defArgs (inClass (top 21) 3), defBody (inClass (top 21) 3), defScope (inClass (top 21) 3), [], []⟩,
  ⟨("Program", some "__str__"), "__str__", "Program.__str__", defArgs (inClass (top 21) 4), defBody (inClass (top 21) 4), defScope (inClass (top 21) 4), [], []⟩,
  ⟨("Reader", some "__init__"), "__init__", "Reader.__init__", defArgs (inClass (top 38) 0), defBody (inClass (top 38) 0), defScope (inClass (top 38) 0), [], []⟩,
  ⟨("NoText", some "__init__"), "__init__", "NoText.__init__", defArgs (inClass (top 2) 0), defBody (inClass (top 2) 0), defScope (inClass (top 2) 0), [], []⟩]
def hfn : List He.DefD := hfn0 ++ hfn1 ++ hfn2
def hts : List He.Tab := [(fun K => He.ga K "FORMS", ["told", "first", "second", "pair", "same", "while", "if"])]
def hex0 : List (PySem.W.Frag → Bool) := [
  fun K => decide (PySem.W.nsIn K mainGlobals "Thing" = some (some (.ref (He.ga K "Thing")))),
  fun K => decide (PySem.W.plainGet K (He.ga K "Thing") Str.empty = true),
  fun K => decide (PySem.W.hasDictIn K (He.ga K "Thing") = true),
  fun K => decide (PySem.W.plainOver K (He.ga K "Thing") = true),
  fun K => decide (PySem.W.findIn K (.ref (He.ga K "Thing")) "__setattr__" = some (some (.builtin "object.__setattr__"))),
  fun K => decide (PySem.W.makesIn K (He.ga K "Thing") = true),
  fun K => decide (PySem.W.keepIn K (.ref (He.ga K "Thing")) = true),
  fun K => decide (PySem.W.findIn K (.ref (He.ga K "Thing")) "first" = some none),
  fun K => decide (PySem.W.findIn K (.ref (He.ga K "Thing")) "second" = some none),
  fun K => decide (PySem.W.findIn K (.ref (He.ga K "Thing")) "size" = some none),
  fun K => decide (PySem.W.findIn K (.ref (He.ga K "Thing")) "__class__" = some (some (.builtin "object.__class__"))),
  fun K => decide (PySem.W.specialIn K (.builtin "object.__class__") "__get__" = some (some (.builtin "getset_descriptor.__get__"))),
  fun K => decide (PySem.W.takesIn K (.builtin "object.__class__") = some true),
  fun K => decide (PySem.W.mroIn K (He.ga K "Thing") (.type "object") = some true),
  fun K => decide (PySem.W.findIn K (.ref (He.ga K "Thing")) "__ne__" = some (some (.builtin "object.__ne__"))),
  fun K => intB K mainGlobals "MOST_PAIRS" 4000,
  fun K => decide (PySem.W.findIn K (.ref (He.ga K "Thing")) "__init__" = some (some (.ref (He.ma K (He.ga K "Thing") "__init__")))),
  fun K => decide (PySem.W.isFn K (.ref (He.ma K (He.ga K "Thing") "__init__")) = true),
  fun K => decide (PySem.W.keepIn K (.ref (He.ma K (He.ga K "Thing") "__init__")) = true),
  fun K => decide (PySem.W.findIn K (.ref (He.ga K "Thing")) "__eq__" = some (some (.ref (He.ma K (He.ga K "Thing") "__eq__"))))]
def hex1 : List (PySem.W.Frag → Bool) := [
  fun K => decide (PySem.W.isFn K (.ref (He.ma K (He.ga K "Thing") "__eq__")) = true),
  fun K => decide (PySem.W.keepIn K (.ref (He.ma K (He.ga K "Thing") "__eq__")) = true),
  fun K => decide (PySem.W.findIn K (.ref (He.ga K "Thing")) "__str__" = some (some (.ref (He.ma K (He.ga K "Thing") "__str__")))),
  fun K => decide (PySem.W.isFn K (.ref (He.ma K (He.ga K "Thing") "__str__")) = true),
  fun K => decide (PySem.W.keepIn K (.ref (He.ma K (He.ga K "Thing") "__str__")) = true),
  fun K => decide (PySem.W.nsIn K mainGlobals "pairs_in" = some (some (.ref (He.ga K "pairs_in")))),
  fun K => decide (PySem.W.keepIn K (.ref (He.ga K "pairs_in")) = true),
  fun K => decide (PySem.W.nsIn K mainGlobals "alike" = some (some (.ref (He.ga K "alike")))),
  fun K => decide (PySem.W.keepIn K (.ref (He.ga K "alike")) = true),
  fun K => decide (PySem.W.nsIn K mainGlobals "signs" = some (some (.ref (He.ga K "signs")))),
  fun K => decide (PySem.W.keepIn K (.ref (He.ga K "signs")) = true),
  fun K => decide (PySem.W.nsIn K mainGlobals "is_name" = some (some (.ref (He.ga K "is_name")))),
  fun K => decide (PySem.W.keepIn K (.ref (He.ga K "is_name")) = true),
  fun K => decide (PySem.W.nsIn K mainGlobals "fits" = some (some (.ref (He.ga K "fits")))),
  fun K => decide (PySem.W.keepIn K (.ref (He.ga K "fits")) = true),
  fun K => decide (PySem.W.nsIn K mainGlobals "has_form" = some (some (.ref (He.ga K "has_form")))),
  fun K => decide (PySem.W.keepIn K (.ref (He.ga K "has_form")) = true),
  fun K => decide (PySem.W.nsIn K mainGlobals "rows_in" = some (some (.ref (He.ga K "rows_in")))),
  fun K => decide (PySem.W.keepIn K (.ref (He.ga K "rows_in")) = true),
  fun K => decide (PySem.W.nsIn K mainGlobals "look_through" = some (some (.ref (He.ga K "look_through"))))]
def hex2 : List (PySem.W.Frag → Bool) := [
  fun K => decide (PySem.W.keepIn K (.ref (He.ga K "look_through")) = true),
  fun K => decide (PySem.W.nsIn K mainGlobals "lay_out" = some (some (.ref (He.ga K "lay_out")))),
  fun K => decide (PySem.W.keepIn K (.ref (He.ga K "lay_out")) = true),
  fun K => decide (PySem.W.nsIn K mainGlobals "names_in" = some (some (.ref (He.ga K "names_in")))),
  fun K => decide (PySem.W.keepIn K (.ref (He.ga K "names_in")) = true),
  fun K => decide (PySem.W.nsIn K mainGlobals "row_words" = some (some (.ref (He.ga K "row_words")))),
  fun K => decide (PySem.W.keepIn K (.ref (He.ga K "row_words")) = true),
  fun K => decide (PySem.W.nsIn K mainGlobals "deed_words" = some (some (.ref (He.ga K "deed_words")))),
  fun K => decide (PySem.W.keepIn K (.ref (He.ga K "deed_words")) = true),
  fun K => decide (PySem.W.nsIn K mainGlobals "read_program" = some (some (.ref (He.ga K "read_program")))),
  fun K => decide (PySem.W.keepIn K (.ref (He.ga K "read_program")) = true),
  fun K => decide (PySem.W.nsIn K mainGlobals "ahead" = some (some (.ref (He.ga K "ahead")))),
  fun K => decide (PySem.W.keepIn K (.ref (He.ga K "ahead")) = true),
  fun K => decide (PySem.W.nsIn K mainGlobals "take" = some (some (.ref (He.ga K "take")))),
  fun K => decide (PySem.W.keepIn K (.ref (He.ga K "take")) = true),
  fun K => decide (PySem.W.nsIn K mainGlobals "first_words" = some (some (.ref (He.ga K "first_words")))),
  fun K => decide (PySem.W.keepIn K (.ref (He.ga K "first_words")) = true),
  fun K => decide (PySem.W.nsIn K mainGlobals "read_row" = some (some (.ref (He.ga K "read_row")))),
  fun K => decide (PySem.W.keepIn K (.ref (He.ga K "read_row")) = true),
  fun K => decide (PySem.W.nsIn K mainGlobals "read_deed" = some (some (.ref (He.ga K "read_deed"))))]
def hex3 : List (PySem.W.Frag → Bool) := [
  fun K => decide (PySem.W.keepIn K (.ref (He.ga K "read_deed")) = true),
  fun K => decide (PySem.W.nsIn K mainGlobals "read_look" = some (some (.ref (He.ga K "read_look")))),
  fun K => decide (PySem.W.keepIn K (.ref (He.ga K "read_look")) = true),
  fun K => decide (PySem.W.nsIn K mainGlobals "read_name" = some (some (.ref (He.ga K "read_name")))),
  fun K => decide (PySem.W.keepIn K (.ref (He.ga K "read_name")) = true),
  fun K => decide (PySem.W.nsIn K mainGlobals "read_told" = some (some (.ref (He.ga K "read_told")))),
  fun K => decide (PySem.W.keepIn K (.ref (He.ga K "read_told")) = true),
  fun K => decide (PySem.W.nsIn K mainGlobals "read_thing" = some (some (.ref (He.ga K "read_thing")))),
  fun K => decide (PySem.W.keepIn K (.ref (He.ga K "read_thing")) = true),
  fun K => decide (PySem.W.nsIn K mainGlobals "is_whole" = some (some (.ref (He.ga K "is_whole")))),
  fun K => decide (PySem.W.keepIn K (.ref (He.ga K "is_whole")) = true),
  fun K => decide (PySem.W.nsIn K mainGlobals "signs_due" = some (some (.ref (He.ga K "signs_due")))),
  fun K => decide (PySem.W.keepIn K (.ref (He.ga K "signs_due")) = true),
  fun K => decide (PySem.W.nsIn K mainGlobals "_law_bag" = some (some (.ref (He.ga K "_law_bag")))),
  fun K => decide (PySem.W.keepIn K (.ref (He.ga K "_law_bag")) = true),
  fun K => decide (PySem.W.nsIn K mainGlobals "_law_take" = some (some (.ref (He.ga K "_law_take")))),
  fun K => decide (PySem.W.keepIn K (.ref (He.ga K "_law_take")) = true),
  fun K => decide (PySem.W.nsIn K mainGlobals "_law_thing" = some (some (.ref (He.ga K "_law_thing")))),
  fun K => decide (PySem.W.keepIn K (.ref (He.ga K "_law_thing")) = true),
  fun K => decide (PySem.W.nsIn K mainGlobals "_law_name" = some (some (.ref (He.ga K "_law_name"))))]
def hex4 : List (PySem.W.Frag → Bool) := [
  fun K => decide (PySem.W.keepIn K (.ref (He.ga K "_law_name")) = true),
  fun K => decide (PySem.W.nsIn K mainGlobals "_law_deed" = some (some (.ref (He.ga K "_law_deed")))),
  fun K => decide (PySem.W.keepIn K (.ref (He.ga K "_law_deed")) = true),
  fun K => decide (PySem.W.nsIn K mainGlobals "_law_deeds" = some (some (.ref (He.ga K "_law_deeds")))),
  fun K => decide (PySem.W.keepIn K (.ref (He.ga K "_law_deeds")) = true),
  fun K => decide (PySem.W.nsIn K mainGlobals "_law_top" = some (some (.ref (He.ga K "_law_top")))),
  fun K => decide (PySem.W.keepIn K (.ref (He.ga K "_law_top")) = true),
  fun K => decide (PySem.W.nsIn K mainGlobals "_law_shown" = some (some (.ref (He.ga K "_law_shown")))),
  fun K => decide (PySem.W.keepIn K (.ref (He.ga K "_law_shown")) = true),
  fun K => decide (PySem.W.nsIn K mainGlobals "_law_text" = some (some (.ref (He.ga K "_law_text")))),
  fun K => decide (PySem.W.keepIn K (.ref (He.ga K "_law_text")) = true),
  fun K => decide (PySem.W.nsIn K mainGlobals "_law_is_thing" = some (some (.ref (He.ga K "_law_is_thing")))),
  fun K => decide (PySem.W.keepIn K (.ref (He.ga K "_law_is_thing")) = true),
  fun K => decide (PySem.W.nsIn K mainGlobals "_law_looked" = some (some (.ref (He.ga K "_law_looked")))),
  fun K => decide (PySem.W.keepIn K (.ref (He.ga K "_law_looked")) = true),
  fun K => decide (PySem.W.nsIn K mainGlobals "_law_met" = some (some (.ref (He.ga K "_law_met")))),
  fun K => decide (PySem.W.keepIn K (.ref (He.ga K "_law_met")) = true),
  fun K => decide (PySem.W.nsIn K mainGlobals "_law_breaks" = some (some (.ref (He.ga K "_law_breaks")))),
  fun K => decide (PySem.W.keepIn K (.ref (He.ga K "_law_breaks")) = true),
  fun K => decide (PySem.W.nsIn K mainGlobals "_law_spoilt" = some (some (.ref (He.ga K "_law_spoilt"))))]
def hex5 : List (PySem.W.Frag → Bool) := [
  fun K => decide (PySem.W.keepIn K (.ref (He.ga K "_law_spoilt")) = true),
  fun K => decide (PySem.W.nsIn K mainGlobals "_law_good" = some (some (.ref (He.ga K "_law_good")))),
  fun K => decide (PySem.W.keepIn K (.ref (He.ga K "_law_good")) = true),
  fun K => decide (PySem.W.nsIn K mainGlobals "law" = some (some (.ref (He.ga K "law")))),
  fun K => decide (PySem.W.keepIn K (.ref (He.ga K "law")) = true),
  fun K => decide (PySem.W.nsIn K mainGlobals "Program" = some (some (.ref (He.ga K "Program")))),
  fun K => decide (PySem.W.plainGet K (He.ga K "Program") Str.empty = true),
  fun K => decide (PySem.W.hasDictIn K (He.ga K "Program") = true),
  fun K => decide (PySem.W.plainOver K (He.ga K "Program") = true),
  fun K => decide (PySem.W.findIn K (.ref (He.ga K "Program")) "__setattr__" = some (some (.builtin "object.__setattr__"))),
  fun K => decide (PySem.W.makesIn K (He.ga K "Program") = true),
  fun K => decide (PySem.W.keepIn K (.ref (He.ga K "Program")) = true),
  fun K => decide (PySem.W.findIn K (.ref (He.ga K "Program")) "deeds" = some none),
  fun K => decide (PySem.W.findIn K (.ref (He.ga K "Program")) "plan" = some none),
  fun K => decide (PySem.W.findIn K (.ref (He.ga K "Program")) "__class__" = some (some (.builtin "object.__class__"))),
  fun K => decide (PySem.W.mroIn K (He.ga K "Program") (.type "object") = some true),
  fun K => decide (PySem.W.findIn K (.ref (He.ga K "Program")) "__ne__" = some (some (.builtin "object.__ne__"))),
  fun K => decide (PySem.W.nsIn K mainGlobals "FORMS" = some (some (.ref (He.ga K "FORMS")))),
  fun K => intB K mainGlobals "MANY_NAMES" 10,
  fun K => intB K mainGlobals "MOST_DEEDS" 4000]
def hex6 : List (PySem.W.Frag → Bool) := [
  fun K => intB K mainGlobals "MOST_FLOORS" 8,
  fun K => decide (PySem.W.kitOne K (.type "int") (.type "int") = some true),
  fun K => decide (PySem.W.kitOne K (.type "int") (.type "bool") = some false),
  fun K => decide (PySem.W.kitOne K (.type "tuple") (.type "tuple") = some true),
  fun K => decide (PySem.W.kitOne K (.type "str") (.type "str") = some true),
  fun K => strB K (He.ga K "FORMS") "told" "nt",
  fun K => strB K (He.ga K "FORMS") "first" "nn",
  fun K => strB K (He.ga K "FORMS") "second" "nn",
  fun K => strB K (He.ga K "FORMS") "pair" "nnn",
  fun K => strB K (He.ga K "FORMS") "same" "nnn",
  fun K => strB K (He.ga K "FORMS") "while" "nr",
  fun K => strB K (He.ga K "FORMS") "if" "nrr",
  fun K => decide (PySem.W.findIn K (.ref (He.ga K "Program")) "__init__" = some (some (.ref (He.ma K (He.ga K "Program") "__init__")))),
  fun K => decide (PySem.W.isFn K (.ref (He.ma K (He.ga K "Program") "__init__")) = true),
  fun K => decide (PySem.W.keepIn K (.ref (He.ma K (He.ga K "Program") "__init__")) = true),
  fun K => decide (PySem.W.findIn K (.ref (He.ga K "Program")) "__len__" = some (some (.ref (He.ma K (He.ga K "Program") "__len__")))),
  fun K => decide (PySem.W.isFn K (.ref (He.ma K (He.ga K "Program") "__len__")) = true),
  fun K => decide (PySem.W.keepIn K (.ref (He.ma K (He.ga K "Program") "__len__")) = true),
  fun K => decide (PySem.W.findIn K (.ref (He.ga K "Program")) "__eq__" = some (some (.ref (He.ma K (He.ga K "Program") "__eq__")))),
  fun K => decide (PySem.W.isFn K (.ref (He.ma K (He.ga K "Program") "__eq__")) = true)]
def hex7 : List (PySem.W.Frag → Bool) := [
  fun K => decide (PySem.W.keepIn K (.ref (He.ma K (He.ga K "Program") "__eq__")) = true),
  fun K => decide (PySem.W.findIn K (.ref (He.ga K "Program")) "__str__" = some (some (.ref (He.ma K (He.ga K "Program") "__str__")))),
  fun K => decide (PySem.W.isFn K (.ref (He.ma K (He.ga K "Program") "__str__")) = true),
  fun K => decide (PySem.W.keepIn K (.ref (He.ma K (He.ga K "Program") "__str__")) = true),
  fun K => decide (PySem.W.nsIn K mainGlobals "Reader" = some (some (.ref (He.ga K "Reader")))),
  fun K => decide (PySem.W.plainGet K (He.ga K "Reader") Str.empty = true),
  fun K => decide (PySem.W.hasDictIn K (He.ga K "Reader") = true),
  fun K => decide (PySem.W.plainOver K (He.ga K "Reader") = true),
  fun K => decide (PySem.W.findIn K (.ref (He.ga K "Reader")) "__setattr__" = some (some (.builtin "object.__setattr__"))),
  fun K => decide (PySem.W.makesIn K (He.ga K "Reader") = true),
  fun K => decide (PySem.W.keepIn K (.ref (He.ga K "Reader")) = true),
  fun K => decide (PySem.W.findIn K (.ref (He.ga K "Reader")) "__class__" = some (some (.builtin "object.__class__"))),
  fun K => decide (PySem.W.mroIn K (He.ga K "Reader") (.type "object") = some true),
  fun K => decide (PySem.W.findIn K (.ref (He.ga K "Reader")) "__ne__" = some (some (.builtin "object.__ne__"))),
  fun K => decide (PySem.W.findIn K (.ref (He.ga K "Reader")) "words" = some none),
  fun K => decide (PySem.W.findIn K (.ref (He.ga K "Reader")) "at" = some none),
  fun K => decide (PySem.W.findIn K (.ref (He.ga K "Reader")) "begun" = some none),
  fun K => decide (PySem.W.findIn K (.ref (He.ga K "Reader")) "__init__" = some (some (.ref (He.ma K (He.ga K "Reader") "__init__")))),
  fun K => decide (PySem.W.isFn K (.ref (He.ma K (He.ga K "Reader") "__init__")) = true),
  fun K => decide (PySem.W.keepIn K (.ref (He.ma K (He.ga K "Reader") "__init__")) = true)]
def hex8 : List (PySem.W.Frag → Bool) := [
  fun K => strB K mainGlobals "LETTERS" "abcdefghij",
  fun K => decide (PySem.W.nsIn K mainGlobals "LOOKS" = some (some (.ref (He.ga K "LOOKS")))),
  fun K => tupK K (He.ga K "LOOKS") [.str "while", .str "if"],
  fun K => decide (PySem.W.nsIn K mainGlobals "TAKERS" = some (some (.ref (He.ga K "TAKERS")))),
  fun K => tupK K (He.ga K "TAKERS") [.str "first", .str "second", .str "pair", .str "same"],
  fun K => decide ((He.ga K "Thing") ≠ (He.ga K "Reader")),
  fun K => decide (PySem.W.nsIn K mainGlobals "NoText" = some (some (.ref (He.ga K "NoText")))),
  fun K => excB K (He.ga K "NoText") [.type "ValueError", .type "Exception", .type "BaseException", .type "object"] "ValueError.__new__",
  fun K => decide (PySem.W.excOver K (He.ga K "NoText") [.type "ValueError", .type "Exception", .type "BaseException", .type "object"] = true),
  fun K => decide (PySem.W.findIn K (.ref (He.ga K "NoText")) "__setattr__" = some (some (.builtin "object.__setattr__"))),
  fun K => decide (PySem.W.subIn K (.ref (He.ga K "NoText")) (.type "BaseException") = some true),
  fun K => decide (PySem.W.typeIn K (.ref (He.ga K "NoText")) = some (.type "type")),
  fun K => decide (PySem.W.keepIn K (.ref (He.ga K "NoText")) = true),
  fun K => decide (PySem.W.findIn K (.ref (He.ga K "NoText")) "place" = some none),
  fun K => decide (PySem.W.findIn K (.ref (He.ga K "NoText")) "__init__" = some (some (.ref (He.ma K (He.ga K "NoText") "__init__")))),
  fun K => decide (PySem.W.typeIn K (.ref (He.ma K (He.ga K "NoText") "__init__")) = some (.type "function")),
  fun K => decide (PySem.W.keepIn K (.ref (He.ma K (He.ga K "NoText") "__init__")) = true),
  fun K => decide (PySem.W.hasDictIn K (He.ga K "NoText") = true),
  fun K => decide (PySem.W.subIn K (.ref (He.ga K "NoText")) (.ref (He.ga K "NoText")) = some true),
  fun K => decide (PySem.W.findIn K (.ref (He.ga K "NoText")) "__getattribute__" = some (some (.builtin "BaseException.__getattribute__")))]
def hex9 : List (PySem.W.Frag → Bool) := [
  fun K => decide (PySem.W.findIn K (.ref (He.ga K "NoText")) "__getattr__" = some none),
  fun K => decide (PySem.W.isClsIn K (He.ga K "NoText") = true),
  fun K => decide (PySem.W.findIn K (.ref (He.ga K "NoText")) "__class__" = some (some (.builtin "object.__class__"))),
  fun K => decide (PySem.W.mroIn K (He.ga K "NoText") (.type "object") = some true),
  fun K => decide (PySem.W.kitOne K (.ref (He.ga K "NoText")) (.type "ValueError") = some true),
  fun K => decide (PySem.W.nsIn K mainGlobals "NoName" = some (some (.ref (He.ga K "NoName")))),
  fun K => decide (PySem.W.nsIn K mainGlobals "NoProgram" = some (some (.ref (He.ga K "NoProgram")))),
  fun K => decide (PySem.W.nsIn K mainGlobals "NoRoom" = some (some (.ref (He.ga K "NoRoom")))),
  fun K => decide (PySem.W.nsIn K mainGlobals "NoSaying" = some (some (.ref (He.ga K "NoSaying")))),
  fun K => decide (PySem.W.nsIn K mainGlobals "NoStep" = some (some (.ref (He.ga K "NoStep")))),
  fun K => decide (PySem.W.nsIn K mainGlobals "TooGreat" = some (some (.ref (He.ga K "TooGreat")))),
  fun K => decide (PySem.W.kitAny K (.ref (He.ga K "NoText")) [.ref (He.ga K "NoName"), .ref (He.ga K "NoProgram"), .ref (He.ga K "NoRoom"), .ref (He.ga K "NoSaying"), .ref (He.ga K "NoStep"), .ref (He.ga K "TooGreat")] = some false),
  fun K => decide (PySem.W.kitOne K (.type "str") (.type "tuple") = some false),
  fun K => decide (PySem.W.kitOne K (.type "tuple") (.type "int") = some false),
  fun K => decide (PySem.W.kitOne K (.ref (He.ga K "Thing")) (.type "int") = some false),
  fun K => decide (PySem.W.nsIn K mainGlobals "len" = some none),
  fun K => decide (PySem.W.nsIn K mainGlobals "range" = some none),
  fun K => decide (PySem.W.nsIn K mainGlobals "isinstance" = some none),
  fun K => decide (PySem.W.nsIn K mainGlobals "abs" = some none),
  fun K => decide (PySem.W.nsIn K mainGlobals "int" = some none)]
def hex10 : List (PySem.W.Frag → Bool) := [
  fun K => decide (PySem.W.nsIn K mainGlobals "str" = some none),
  fun K => decide (PySem.W.nsIn K mainGlobals "max" = some none),
  fun K => decide (PySem.W.nsIn K mainGlobals "min" = some none),
  fun K => decide (PySem.W.nsIn K mainGlobals "all" = some none),
  fun K => decide (PySem.W.nsIn K mainGlobals "bool" = some none),
  fun K => decide (PySem.W.nsIn K mainGlobals "tuple" = some none),
  fun K => decide (PySem.W.nsIn K mainGlobals "zip" = some none),
  fun K => decide (PySem.W.nsIn K mainGlobals "enumerate" = some none),
  fun K => decide (PySem.W.nsIn K mainGlobals "list" = some none),
  fun K => decide (PySem.W.nsIn K mainGlobals "ValueError" = some none)]
def hex : List (PySem.W.Frag → Bool) := hex0 ++ hex1 ++ hex2 ++ hex3 ++ hex4 ++ hex5 ++ hex6 ++ hex7 ++ hex8 ++ hex9 ++ hex10
def has0 : List Addr := [3, 6, 4, 21, 38, 58, 78, 98, 118, 138, 158, 221, 232, 239, 246, 247, 299, 310, 317, 322, 329, 336, 343, 350, 357, 362, 369, 376, 383, 384]
def has1 : List Addr := [385, 402, 413, 420, 427, 434, 441, 446, 453, 460, 467, 474, 481, 486, 493, 500, 507, 514, 519, 524, 531, 538, 545, 552, 559, 566, 571, 20, 37, 57]
def has2 : List Addr := [77, 97, 117, 137, 157, 220, 231, 238, 245, 298, 309, 316, 321, 328, 335, 342, 349, 356, 361, 368, 375, 382, 401, 412, 419, 426, 433, 440, 445, 452]
def has3 : List Addr := [459, 466, 473, 480, 485, 492, 499, 506, 513, 518, 523, 530, 537, 544, 551, 558, 565, 570, 35, 36, 39, 55, 56, 59, 75, 76, 79, 95, 96, 99]
def has4 : List Addr := [115, 116, 119, 135, 136, 139, 155, 156, 159, 176, 183, 190, 197, 204, 211, 218, 219, 222, 223, 261, 268, 275, 282, 289, 296, 297, 300, 301, 399, 400]
def has5 : List Addr := [403, 404, 34, 54, 74, 94, 114, 134, 154, 175, 169, 182, 189, 196, 203, 210, 217, 260, 267, 274, 281, 288, 295, 398]
def has : List Addr := has0 ++ has1 ++ has2 ++ has3 ++ has4 ++ has5
def hexs (K : PySem.W.Frag) : Bool := hex.all fun f => f K
abbrev hR : PySem.W.OpenRow := PySem.W.OpenLaw.row PySem.Challenge.rw_judgeslip_k10_no_texts_of_programs
abbrev hkX : PySem.W.Hook := hookC has hfn hts hexs
abbrev hob (s : PySem.W.SharedT) : He.AlT × Bool := obC has hfn hts hexs s
theorem hob_eq (s : PySem.W.SharedT) : hob s = hkX.obs s.abs := obC_eq has hfn hts hexs s
theorem hr0F (w : World) : HandSHeadRun.RunEq hR (PySem.W.view hR.prog [64]) PySem.W.Hook.none (fun _ => ()) 20000 hnames (w.withFollow "special-get-raises" false) := by
  intro os
  kernel_rfl
theorem hr1F (w : World) (os : OsState) : (HandSHeadRun.endF (HandSHeadRun.stepQ (HandSHeadRun.denQ HandSHeadRun.tabQ) hR.prog (w.withFollow "special-get-raises" false)) 20000 hR.prog (w.withFollow "special-get-raises" false) os).map (fun s => He.obsT [] hfn hts (He.frG (HandSHeadRun.getT s) has)) = some (He.valT hfn hts (w.withFollow "special-get-raises" false)) := by
  kernel_rfl
theorem hr2F (w : World) (os : OsState) : (HandSHeadRun.endF (HandSHeadRun.stepQ (HandSHeadRun.denQ HandSHeadRun.tabQ) hR.prog (w.withFollow "special-get-raises" false)) 20000 hR.prog (w.withFollow "special-get-raises" false) os).map (fun s => hexs (He.frG (HandSHeadRun.getT s) has)) = some true := by
  kernel_rfl
theorem hrunF (w : World) : HandSHeadRun.RunEq hR (PySem.W.view hR.prog [64]) hkX hob 20000 hnames (w.withFollow "special-get-raises" false) := run_join (hr0F w) (hr1F w) (hr2F w)
theorem hr0T (w : World) : HandSHeadRun.RunEq hR (PySem.W.view hR.prog [64]) PySem.W.Hook.none (fun _ => ()) 20000 hnames (w.withFollow "special-get-raises" true) := by
  intro os
  kernel_rfl
theorem hr1T (w : World) (os : OsState) : (HandSHeadRun.endF (HandSHeadRun.stepQ (HandSHeadRun.denQ HandSHeadRun.tabQ) hR.prog (w.withFollow "special-get-raises" true)) 20000 hR.prog (w.withFollow "special-get-raises" true) os).map (fun s => He.obsT [] hfn hts (He.frG (HandSHeadRun.getT s) has)) = some (He.valT hfn hts (w.withFollow "special-get-raises" true)) := by
  kernel_rfl
theorem hr2T (w : World) (os : OsState) : (HandSHeadRun.endF (HandSHeadRun.stepQ (HandSHeadRun.denQ HandSHeadRun.tabQ) hR.prog (w.withFollow "special-get-raises" true)) 20000 hR.prog (w.withFollow "special-get-raises" true) os).map (fun s => hexs (He.frG (HandSHeadRun.getT s) has)) = some true := by
  kernel_rfl
theorem hrunT (w : World) : HandSHeadRun.RunEq hR (PySem.W.view hR.prog [64]) hkX hob 20000 hnames (w.withFollow "special-get-raises" true) := run_join (hr0T w) (hr1T w) (hr2T w)
theorem hrun (w : World) : HandSHeadRun.RunEq hR (PySem.W.view hR.prog [64]) hkX hob 20000 hnames w :=
  PySem.W.byRow2 "special-get-raises" (P := fun w => HandSHeadRun.RunEq hR (PySem.W.view hR.prog [64]) hkX hob 20000 hnames w) hrunF hrunT w
open PySem PySem.W PySem.Calls PyProof.Rows in
theorem hfe : opening hR.prog = plainProg hR.prog.main.scope.names := by kernel_rfl
open PySem PySem.W PySem.Calls PyProof.Rows in
theorem hff : ∀ s, fenceModules? hR.prog s = some s := fun s => by kernel_rfl
open PySem PySem.W PySem.Calls PyProof.Rows in
theorem hfd : defOf (view hR.prog [64]) hR.name = some (HandSHeadRun.topDef hR.prog 64, []) := by kernel_rfl
open PySem PySem.W PySem.Calls PyProof.Rows in
theorem hfp : hR.prog.theDef hR.name = some ((HandSHeadRun.topDef hR.prog 64).params, (HandSHeadRun.topDef hR.prog 64).body, (HandSHeadRun.topDef hR.prog 64).scope) := by kernel_rfl
open PySem PySem.W PySem.Calls PyProof.Rows in
theorem hfo : (chainsOk (view hR.prog [64]) && opensWell hR.prog && (frees hR.toRowW && hR.within.isEmpty)) = true := by decide +kernel
open PySem PySem.W PySem.Calls PyProof.Rows in
theorem hfb : hR.prog.bare := ⟨rfl, rfl, rfl, rfl, rfl, by decide +kernel⟩
end Js
set_option Elab.async false
set_option linter.all false
set_option maxRecDepth 100000
set_option maxHeartbeats 2000000
namespace Js
open PySem L2
def spAlike (C : Addr) : Sp := spEqT C
section
variable {P : Program} {w : World} {K : PySem.W.Frag} {mg : Str → Option Value} {base : Heap} {C : Addr}
theorem scA : FnScope ["one", "other", "waiting", "left", "right"] ["one", "other"] (defScope sAlike) := ⟨rfl, rfl, rfl, by decide +kernel, rfl, by decide +kernel, by decide +kernel⟩
theorem ok_alike {f : Addr} {fd : FuncData} (F : Fun K "alike" "alike" sAlike f fd) (T : Txt K mg C) : FnOk P w K mg base CX0 1 f fd ["one", "other"] (spAlike C) := by
  refine F.ok scA (fun vs H Q E h => ?_) (fun cdv A outer s H vs Q E hr h => ?_)
  · obtain ⟨a, b, t, u, rfl, _⟩ := h
    rfl
  · obtain ⟨a, b, t, u, rfl, ha, hb, hz, k⟩ := h
    refine ⟨_, pss_cons (ps_set (i := 2) scA.nd rfl (Or.inl rfl) (pe_lst (pa_cons (pe_tup (pa_cons (pv 0) (pa_cons (pv 1) pa_nil))) pa_nil)))
      (pss_cons (ps_while PassesOwn.never (pt_truth (pv 2) (by intro _; rfl))
        (pss_cons (ps_asg (pe_bm0 PySem.F.plainAttrs_list PySem.F.slot_list_pop PySem.F.type_list_pop mt_pop (pv 2)) (pg_tup rfl (pgs_cons (pg_name (i := 3) scA.nd rfl (Or.inl rfl)) (pgs_cons (pg_name (i := 4) scA.nd rfl (Or.inl rfl)) pgs_nil))))
        (pss_cons (ps_if (pt_cmpR op_ne (pe_fld (pv 3) rfl) (pe_fld (pv 4) rfl) (nomark _)) (pss_one (ps_ret pe_bl)) pss_nil)
        (pss_one (ps_if (pt_cmpR op_gt (pe_fld (pv 3) rfl) pe_int (nomark _))
          (pss_cons (ps_expr (pe_bm PySem.F.plainAttrs_list PySem.F.slot_list_append PySem.F.type_list_append mt_append (pv 2) (pa_cons (pe_tup (pa_cons (pe_fld (pv 3) rfl) (pa_cons (pe_fld (pv 4) rfl) pa_nil))) pa_nil)))
          (pss_one (ps_expr (pe_bm PySem.F.plainAttrs_list PySem.F.slot_list_append PySem.F.type_list_append mt_append (pv 2) (pa_cons (pe_tup (pa_cons (pe_fld (pv 3) rfl) (pa_cons (pe_fld (pv 4) rfl) pa_nil))) pa_nil))))) pss_nil)))))
      (pss_one (ps_ret pe_bl))), ?_⟩
    refine ⟨_, rfl, _, rfl, (by show 2 ≤ sizeLine; decide), fun q0 nq0 => ?_⟩
    refine ⟨(by show 1 ≤ sizeLine; decide), fun wl nwl => ?_⟩
    have hwl : H wl = none := by
      have := nwl
      unfold upd at this
      split at this
      · cases this
      · exact this
    have nqw : q0 ≠ wl := ne_of_none (o := .tup [.ref a, .ref b]) upd_same nwl
    -- the loop
    refine ⟨fun m σ H' => ∃ (rs : List V) (ps : List (Tr × Tr)) (x3 x4 : Option V), σ = [some (.ref a), some (.ref b), some (.ref wl), x3, x4] ∧ Same H H' ∧ H' wl = some (.lst rs.reverse) ∧ Paired (PrAt C H') rs ps ∧
      ((∀ p ∈ ps, p.1 = p.2) ↔ t = u) ∧ m = pm ps ∧ m ≤ 2 * t.size + 1, ?_, ?_⟩
    · have s1 : Same H (upd (upd H q0 (.tup [.ref a, .ref b])) wl (.lst [.ref q0])) := (Same.new nq0).set hwl
      refine ⟨_, [.ref q0], [(t, u)], none, none, rfl, s1, upd_same, .cons ⟨q0, a, b, rfl, ?_, ha.same s1, hb.same s1⟩ .nil, ?_, rfl, ?_⟩
      · exact (upd_ne nqw).trans upd_same
      · simp
      · simp [pm]
    · rintro m σ H' ⟨rs, ps, x3, x4, rfl, s1, hw, hps, hiff, rfl, hm⟩
      refine ⟨_, rfl, !rs.reverse.isEmpty, .inl ⟨_, SqL.of hw, rfl⟩, ?_⟩
      cases hps with
      | nil =>
        refine iteF ?_
        have : t = u := hiff.mp (fun p hp => by cases hp)
        have z := k H' s1
        rw [decide_eq_true this] at z
        exact z
      | @cons v p rs ps hv hps =>
        have e1 : (!(v :: rs).reverse.isEmpty) = true := by simp
        rw [e1]
        refine iteT ⟨fun σ' H2 => ∃ m', m' < pm (p :: ps) ∧ _, fun σ' H2 z => z, ?_⟩
        obtain ⟨q, x, y, rfl, hq, hx, hy⟩ := hv
        have hlen : rs.length ≤ pm ps := by rw [Paired.length hps]; exact pm_len ps
        rw [pm_cons] at hm
        refine ⟨_, rfl, .inl ⟨rfl, _, SqL.of hw⟩, wl, _, _, rfl, rfl, hw, last_rev _ _, ?_⟩
        rw [drop_rev]
        have nqwl : q ≠ wl := ne_of hq hw (by intro z; cases z)
        have k1 : KT H' (upd H' wl (.lst rs.reverse)) := KT.lst hw
        have s2 : Same H (upd H' wl (.lst rs.reverse)) := s1.set hwl
        have hx2 := hx.kt k1
        have hy2 := hy.kt k1
        have hps2 := prs_kt k1 hps
        obtain ⟨dx, f1, g1, h1⟩ := hx2.obj
        obtain ⟨dy, f2, g2, h2⟩ := hy2.obj
        refine ⟨q, _, rfl, SqT.of ((upd_ne nqwl).trans hq), rfl, _, _, rfl, _, _, rfl, rfl, ?_⟩
        refine ⟨_, rfl, _, _, _, _, _, rfl, h1, T.cl, T.nZ, tf_size _ _ _, _, rfl, _, _, _, _, _, rfl, h2, T.cl, T.nZ, tf_size _ _ _, rfl, _, rfl, ?_⟩
        by_cases hsz : p.1.size = p.2.size
        · have ed : (!decide (V.int (p.1.size : Nat) = V.int (p.2.size : Nat))) = false := by rw [hsz]; simp
          rw [ed]
          refine iteF ?_
          refine ⟨_, rfl, _, _, _, _, _, rfl, h1, T.cl, T.nZ, tf_size _ _ _, _, _, rfl, rfl, _, rfl, ?_⟩
          by_cases h1z : 1 < p.1.size
          · have ed2 : decide ((1 : Int) < (p.1.size : Nat)) = true := decide_eq_true (by omega)
            rw [ed2]
            refine iteT ?_
            obtain ⟨t1, u1⟩ := p
            cases t1 with
            | nil => simp [Tr.size] at h1z
            | pr l1 r1 =>
            cases u1 with
            | nil => simp [Tr.size] at hsz
            | pr l2 r2 =>
            obtain ⟨dx', b1, c1, hX, hb1, hc1⟩ := hx2.pair
            obtain ⟨dy', b2, c2, hY, hb2, hc2⟩ := hy2.pair
            -- waiting.append((left.second, right.second))
            refine ⟨_, rfl, .inl ⟨rfl, _, SqL.of upd_same⟩, _, rfl, _, _, _, _, _, rfl, hX, T.cl, T.nS, tf_second _ _ _, _, rfl, _, _, _, _, _, rfl, hY, T.cl, T.nS, tf_second _ _ _, (by show 2 ≤ sizeLine; decide), fun q1 nq1 => ?_⟩
            have nq1w : wl ≠ q1 := ne_of_none (o := .lst rs.reverse) upd_same nq1
            have hsl := line4
            simp only [Tr.size] at hm
            refine ⟨wl, _, _, rfl, rfl, (upd_ne nq1w).trans upd_same, (by rw [List.length_reverse]; omega), ?_⟩
            have k2 : KT (upd H' wl (.lst rs.reverse)) (upd (upd (upd H' wl (.lst rs.reverse)) q1 (.tup [.ref c1, .ref c2])) wl (.lst (rs.reverse ++ [.ref q1]))) := (KT.new nq1).trans (KT.lst ((upd_ne nq1w).trans upd_same))
            have s3 : Same H (upd (upd (upd H' wl (.lst rs.reverse)) q1 (.tup [.ref c1, .ref c2])) wl (.lst (rs.reverse ++ [.ref q1]))) := (s2.trans (Same.new nq1)).set hwl
            have hq1 : (upd (upd (upd H' wl (.lst rs.reverse)) q1 (.tup [.ref c1, .ref c2])) wl (.lst (rs.reverse ++ [.ref q1]))) q1 = some (.tup [.ref c1, .ref c2]) := (upd_ne (Ne.symm nq1w)).trans upd_same
            have hw3 : (upd (upd (upd H' wl (.lst rs.reverse)) q1 (.tup [.ref c1, .ref c2])) wl (.lst (rs.reverse ++ [.ref q1]))) wl = some (.lst (rs.reverse ++ [.ref q1])) := upd_same
            have hX3 := k2 _ _ hX (fun _ e => nomatch e)
            have hY3 := k2 _ _ hY (fun _ e => nomatch e)
            have hps3 := prs_kt k2 hps2
            have hb1' := hb1.kt k2
            have hc1' := hc1.kt k2
            have hb2' := hb2.kt k2
            have hc2' := hc2.kt k2
            revert s3 hq1 hw3 hX3 hY3 hps3 hb1' hc1' hb2' hc2'
            generalize (upd (upd (upd H' wl (.lst rs.reverse)) q1 (.tup [.ref c1, .ref c2])) wl (.lst (rs.reverse ++ [.ref q1]))) = H3
            intro s3 hq1 hw3 hX3 hY3 hps3 hb1' hc1' hb2' hc2'
            -- waiting.append((left.first, right.first))
            refine ⟨_, rfl, .inl ⟨rfl, _, SqL.of hw3⟩, _, rfl, _, _, _, _, _, rfl, hX3, T.cl, T.nF, tf_first _ _ _, _, rfl, _, _, _, _, _, rfl, hY3, T.cl, T.nF, tf_first _ _ _, (by show 2 ≤ sizeLine; decide), fun q2 nq2 => ?_⟩
            have nq2w : wl ≠ q2 := ne_of_none hw3 nq2
            refine ⟨wl, _, _, rfl, rfl, (upd_ne nq2w).trans hw3, (by rw [List.length_append, List.length_reverse, List.length_singleton]; omega), ?_⟩
            have k4 : KT H3 (upd (upd H3 q2 (.tup [.ref b1, .ref b2])) wl (.lst (rs.reverse ++ [.ref q1] ++ [.ref q2]))) := (KT.new nq2).trans (KT.lst ((upd_ne nq2w).trans hw3))
            refine ⟨pm ((l1, l2) :: (r1, r2) :: ps), ?_, .ref q2 :: .ref q1 :: rs, (l1, l2) :: (r1, r2) :: ps, _, _, rfl, (s3.trans (Same.new nq2)).set hwl, ?_, .cons ⟨q2, b1, b2, rfl, (upd_ne (Ne.symm nq2w)).trans upd_same, hb1'.kt k4, hb2'.kt k4⟩ (.cons ⟨q1, c1, c2, rfl, k4 _ _ hq1 (fun _ e => nomatch e), hc1'.kt k4, hc2'.kt k4⟩ (prs_kt k4 hps3)), ?_, rfl, ?_⟩
            · rw [pm_cons, pm_cons, pm_cons]
              simp only [Tr.size]
              omega
            · rw [upd_same, push_rev, push_rev]
            · rw [← hiff]
              simp only [List.mem_cons, forall_eq_or_imp, Tr.pr.injEq]
              constructor
              · rintro ⟨h1, h2, h3⟩
                exact ⟨⟨h1, h2⟩, h3⟩
              · rintro ⟨⟨h1, h2⟩, h3⟩
                exact ⟨h1, h2, h3⟩
            · rw [pm_cons, pm_cons]
              show 2 * l1.size + 1 + (2 * r1.size + 1 + pm ps) ≤ _
              omega
          · have ed2 : decide ((1 : Int) < (p.1.size : Nat)) = false := decide_eq_false (by omega)
            rw [ed2]
            refine iteF ?_
            have ep : p.1 = p.2 := Tr.small_eq hsz (by omega)
            refine ⟨pm ps, by rw [pm_cons]; omega, rs, ps, _, _, rfl, s2, upd_same, hps2, ?_, rfl, by omega⟩
            rw [← hiff]
            simp [ep]
        · have ed : (!decide (V.int (p.1.size : Nat) = V.int (p.2.size : Nat))) = true := by
            simp
            omega
          rw [ed]
          refine iteT ?_
          have : ¬ t = u := fun z => hsz (by rw [hiff.mpr z p (by simp)])
          have z := k _ s2
          rw [decide_eq_false this] at z
          exact z
theorem scE : FnScope ["self", "other"] ["self", "other"] (defScope sEq) := ⟨rfl, rfl, rfl, by decide +kernel, rfl, by decide +kernel, by decide +kernel⟩
theorem kit_self (K : PySem.W.Frag) (C : Addr) : PySem.W.kitOne K (.ref C) (.ref C) = some true := by
  unfold PySem.W.kitOne
  rw [if_pos (by simp)]
theorem ok_eq {f fA : Addr} {fd fdA : FuncData} (F : Fun K "__eq__" "Thing.__eq__" sEq f fd) (T : Txt K mg C) (AA : At K mg "alike" sAlike ["one", "other"] fA fdA) : FnOk P w K mg base CX0 2 f fd ["self", "other"] (spEqT C) := by
  have GA : FnOk P w K mg base CX0 1 fA fdA ["one", "other"] (spAlike C) := ok_alike AA.F T
  refine F.ok scE (fun vs H Q E h => ?_) (fun cdv A outer s H vs Q E hr h => ?_)
  · obtain ⟨a, b, t, u, rfl, _⟩ := h
    rfl
  · obtain ⟨a, b, t, u, rfl, ha, hb, hz, k⟩ := h
    refine ⟨_, pss_one (ps_ret (pe_and (pe_callB call_isi (by rfl) T.isi PyProof.Rows.boot_isinstance (pa_cons (pv 1) (pa_cons (pe_glob (v := .ref C) rfl T.mgC rfl) pa_nil)))
      (pe_one (pe_call GA hr rfl AA.mgf AA.F.kp AA.b .nil pass0 (pa_cons (pv 0) (pa_cons (pv 1) pa_nil)))))), ?_⟩
    obtain ⟨dy, f2, g2, h2⟩ := hb.obj
    refine ⟨_, rfl, _, _, _, _, true, rfl, ClsV.own C, .base (.ins h2 T.cl T.ca T.cn T.ct T.cm), kit_self _ _, true, rfl, ?_⟩
    refine iteT ?_
    exact ⟨_, rfl, _, rfl, a, b, t, u, rfl, ha, hb, hz, k⟩
theorem e41 : ((")" : Str)) = ⟨#[41]⟩ := by decide +kernel
theorem e40 : (("(" : Str)) = ⟨#[40]⟩ := by decide +kernel
theorem e46 : (("." : Str)) = ⟨#[46]⟩ := by decide +kernel
theorem scS : FnScope ["thing", "found", "waiting", "part"] ["thing"] (defScope sSigns) := ⟨rfl, rfl, rfl, by decide +kernel, rfl, by decide +kernel, by decide +kernel⟩
theorem ok_signs {f : Addr} {fd : FuncData} (F : Fun K "signs" "signs" sSigns f fd) (T : Txt K mg C) : FnOk P w K mg base CX0 1 f fd ["thing"] (spSigns C) := by
  refine F.ok scS (fun vs H Q E h => ?_) (fun cdv A outer s H vs Q E hr h => ?_)
  · obtain ⟨a, t, rfl, _⟩ := h
    rfl
  · obtain ⟨a, t, rfl, ha, hz, k⟩ := h
    refine ⟨_, pss_cons (ps_set (i := 1) scS.nd rfl (Or.inl rfl) (pe_lst pa_nil)) (pss_cons (ps_set (i := 2) scS.nd rfl (Or.inl rfl) (pe_lst (pa_cons (pv 0) pa_nil)))
      (pss_cons (ps_while PassesOwn.never (pt_truth (pv 2) (by intro _; rfl))
        (pss_cons (ps_set (i := 3) scS.nd rfl (Or.inl rfl) (pe_bm0 PySem.F.plainAttrs_list PySem.F.slot_list_pop PySem.F.type_list_pop mt_pop (pv 2)))
        (pss_one (ps_if (pt_cmp (pc_isN (pv 3)))
          (pss_one (ps_expr (pe_bm PySem.F.plainAttrs_list PySem.F.slot_list_append PySem.F.type_list_append mt_append (pv 1) (pa_cons pe_str pa_nil))))
          (pss_one (ps_if (pt_cmpR op_eq (pe_fld (pv 3) rfl) pe_int (nomark _))
            (pss_one (ps_expr (pe_bm PySem.F.plainAttrs_list PySem.F.slot_list_append PySem.F.type_list_append mt_append (pv 1) (pa_cons pe_str pa_nil))))
            (pss_cons (ps_expr (pe_bm PySem.F.plainAttrs_list PySem.F.slot_list_append PySem.F.type_list_append mt_append (pv 1) (pa_cons pe_str pa_nil)))
              (pss_one (ps_expr (pe_bm PySem.F.plainAttrs_list PySem.F.slot_list_extend PySem.F.type_list_extend mt_extend (pv 2) (pa_cons (pe_lst (pa_cons pe_non (pa_cons (pe_fld (pv 3) rfl) (pa_cons (pe_fld (pv 3) rfl) pa_nil)))) pa_nil)))))))))))
      (pss_one (ps_ret (pv 1))))), ?_⟩
    refine ⟨Nat.zero_le _, fun fl nfl => ?_⟩
    refine ⟨_, rfl, (by show 1 ≤ sizeLine; decide), fun wl nwl => ?_⟩
    have nfw : fl ≠ wl := ne_of_none (o := .lst []) upd_same nwl
    have hwl : H wl = none := by
      have := nwl
      rw [upd_ne (Ne.symm nfw)] at this
      exact this
    have hsl := line4
    refine ⟨fun m σ H' => ∃ (rs : List V) (ps : List (Option Tr)) (dn : List Nat) (x3 : Option V), σ = [some (.ref a), some (.ref fl), some (.ref wl), x3] ∧ Same H H' ∧ H' fl = some (.lst (dn.map sgn)) ∧ H' wl = some (.lst rs.reverse) ∧ Paired (WtAt C H') rs ps ∧
      dn ++ wouts ps = t.codes ∧ m = wm ps ∧ m ≤ 3 * t.size + 1, ?_, ?_⟩
    · have s1 : Same H (upd (upd H fl (.lst [])) wl (.lst [.ref a])) := (Same.new nfl).set hwl
      refine ⟨_, [.ref a], [some t], [], none, rfl, s1, (upd_ne nfw).trans upd_same, upd_same, .cons (.inr ⟨a, t, rfl, rfl, ha.same s1⟩) .nil, ?_, rfl, ?_⟩
      · simp [wouts, wout]
      · simp [wm, wm1]
    · rintro m σ H' ⟨rs, ps, dn, x3, rfl, s1, hf, hw, hps, hc, rfl, hm⟩
      have hcl := congrArg List.length hc
      rw [List.length_append, Tr.codes_len] at hcl
      refine ⟨_, rfl, !rs.reverse.isEmpty, .inl ⟨_, SqL.of hw, rfl⟩, ?_⟩
      cases hps with
      | nil =>
        refine iteF ?_
        have e : dn = t.codes := by simpa [wouts] using hc
        subst e
        exact ⟨_, rfl, k fl H' s1 nfl hf⟩
      | @cons v p rs ps hv hps =>
        have e1 : (!(v :: rs).reverse.isEmpty) = true := by simp
        rw [e1]
        refine iteT ⟨fun σ' H2 => ∃ m', m' < wm (p :: ps) ∧ _, fun σ' H2 z => z, ?_⟩
        have hlen : rs.length ≤ wm ps := by rw [Paired.length hps]; exact wm_len ps
        rw [wm_cons] at hm
        rw [wouts_cons] at hc
        refine ⟨_, rfl, .inl ⟨rfl, _, SqL.of hw⟩, wl, _, _, rfl, rfl, hw, last_rev _ _, ?_⟩
        rw [drop_rev]
        have k1 : KT H' (upd H' wl (.lst rs.reverse)) := KT.lst hw
        have s2 : Same H (upd H' wl (.lst rs.reverse)) := s1.set hwl
        have hf2 : (upd H' wl (.lst rs.reverse)) fl = some (.lst (dn.map sgn)) := (upd_ne nfw).trans hf
        have hw2 : (upd H' wl (.lst rs.reverse)) wl = some (.lst rs.reverse) := upd_same
        have hv2 := hv.kt k1
        have hps2 := wts_kt k1 hps
        revert s2 hf2 hw2 hv2 hps2
        generalize (upd H' wl (.lst rs.reverse)) = H2
        intro s2 hf2 hw2 hv2 hps2
        have hd : (dn.map sgn).length < sizeLine := by rw [List.length_map]; omega
        rcases hv2 with ⟨rfl, rfl⟩ | ⟨x, t1, rfl, rfl, hx⟩
        · refine ⟨_, rfl, _, rfl, ?_⟩
          refine iteT ?_
          refine ⟨_, rfl, .inl ⟨rfl, _, SqL.of hf2⟩, fl, _, _, rfl, rfl, hf2, hd, ?_⟩
          refine ⟨wm ps, by rw [wm_cons]; simp only [wm1]; omega, rs, ps, dn ++ [41], _, rfl, s2.set nfl, ?_, (upd_ne (Ne.symm nfw)).trans hw2, wts_kt (KT.lst hf2) hps2, ?_, rfl, by omega⟩
          · rw [upd_same, List.map_append, e41]
            rfl
          · rw [← hc]
            simp [wout]
        · refine ⟨_, rfl, _, rfl, ?_⟩
          refine iteF ?_
          obtain ⟨dx, f1, g1, h1⟩ := hx.obj
          refine ⟨_, rfl, _, _, _, _, _, rfl, h1, T.cl, T.nZ, tf_size _ _ _, rfl, _, rfl, ?_⟩
          have hx' := hx
          cases hx with
          | nil h =>
            refine iteT ?_
            refine ⟨_, rfl, .inl ⟨rfl, _, SqL.of hf2⟩, fl, _, _, rfl, rfl, hf2, hd, ?_⟩
            refine ⟨wm ps, by rw [wm_cons]; simp only [wm1]; omega, rs, ps, dn ++ [46], _, rfl, s2.set nfl, ?_, (upd_ne (Ne.symm nfw)).trans hw2, wts_kt (KT.lst hf2) hps2, ?_, rfl, by omega⟩
            · rw [upd_same, List.map_append, e46]
              rfl
            · rw [← hc]
              simp [wout, Tr.codes]
          | @pr _ dx' b c l r h hl hr' =>
            have ed : decide (V.int ((Tr.pr l r).size : Nat) = V.int 0) = false := by
              simp only [Tr.size, decide_eq_false_iff_not, V.int.injEq]
              omega
            rw [ed]
            refine iteF ?_
            refine ⟨_, rfl, .inl ⟨rfl, _, SqL.of hf2⟩, fl, _, _, rfl, rfl, hf2, hd, ?_⟩
            have k3 : KT H2 (upd H2 fl (.lst (dn.map sgn ++ [.str "("]))) := KT.lst hf2
            have s3 : Same H (upd H2 fl (.lst (dn.map sgn ++ [.str "("]))) := s2.set nfl
            have hf3 : (upd H2 fl (.lst (dn.map sgn ++ [.str "("]))) fl = some (.lst ((dn ++ [40]).map sgn)) := by
              rw [upd_same, List.map_append, e40]
              rfl
            have hw3 : (upd H2 fl (.lst (dn.map sgn ++ [.str "("]))) wl = some (.lst rs.reverse) := (upd_ne (Ne.symm nfw)).trans hw2
            have h3 := k3 _ _ h (fun _ e => nomatch e)
            have hl3 := hl.kt k3
            have hr3 := hr'.kt k3
            have hps3 := wts_kt k3 hps2
            revert s3 hf3 hw3 h3 hl3 hr3 hps3
            generalize (upd H2 fl (.lst (dn.map sgn ++ [.str "("]))) = H3
            intro s3 hf3 hw3 h3 hl3 hr3 hps3
            refine ⟨_, rfl, .inl ⟨rfl, _, SqL.of hw3⟩, _, rfl, _, _, _, _, _, rfl, h3, T.cl, T.nS, tf_second _ _ _, _, rfl, _, _, _, _, _, rfl, h3, T.cl, T.nF, tf_first _ _ _, (by show 3 ≤ sizeLine; decide), fun q nq => ?_⟩
            have nqw : wl ≠ q := ne_of_none hw3 nq
            have nqf : fl ≠ q := ne_of_none hf3 nq
            simp only [wm1, Tr.size] at hm
            refine ⟨wl, q, _, _, rfl, rfl, (upd_ne nqw).trans hw3, upd_same, (by rw [List.length_reverse]; show rs.length + 3 ≤ sizeLine; omega), ?_⟩
            have k4 : KT H3 (upd (upd H3 q (.lst [.non, .ref c, .ref b])) wl (.lst (rs.reverse ++ [.non, .ref c, .ref b]))) := (KT.new nq).trans (KT.lst ((upd_ne nqw).trans hw3))
            refine ⟨wm (some l :: some r :: none :: ps), ?_, .ref b :: .ref c :: .non :: rs, some l :: some r :: none :: ps, dn ++ [40], _, rfl, (s3.trans (Same.new nq)).set hwl, (upd_ne nfw).trans ((upd_ne nqf).trans hf3), ?_,
              .cons (.inr ⟨b, l, rfl, rfl, hl3.kt k4⟩) (.cons (.inr ⟨c, r, rfl, rfl, hr3.kt k4⟩) (.cons (.inl ⟨rfl, rfl⟩) (wts_kt k4 hps3))), ?_, rfl, ?_⟩
            · rw [wm_cons, wm_cons, wm_cons, wm_cons]
              simp only [wm1, Tr.size]
              omega
            · rw [upd_same]
              simp
            · rw [← hc, wouts_cons, wouts_cons, wouts_cons]
              simp [wout, Tr.codes]
            · rw [wm_cons, wm_cons, wm_cons]
              simp only [wm1]
              omega
theorem joinL_signs : ∀ cs : List Nat, TL.joinL [] ((cs.map fun c => (⟨#[c]⟩ : Str)).map TL.tl) = cs
  | [] => rfl
  | [c] => rfl
  | c :: d :: r => by
    have ih := joinL_signs (d :: r)
    show [c] ++ ([] ++ TL.joinL [] (((d :: r).map fun c => (⟨#[c]⟩ : Str)).map TL.tl)) = c :: d :: r
    rw [ih]
    rfl
theorem join_signs (cs : List Nat) : (PySem.Txt.join ("" : Str) (cs.map fun c => (⟨#[c]⟩ : Str))) = ⟨cs.toArray⟩ := by
  rw [TL.join_eq]
  apply PyProof.Rows.ext_toList
  exact (TL.tl_join _ _).trans (joinL_signs cs)
theorem sum_signs : ∀ cs : List Nat, ((cs.map fun c => (⟨#[c]⟩ : Str)).map (·.length)).sum = cs.length
  | [] => rfl
  | c :: r => by
    have ih := sum_signs r
    rw [List.map_cons, List.map_cons, List.sum_cons, ih, List.length_cons]
    show 1 + _ = _
    omega
theorem scSt : FnScope ["self"] ["self"] (defScope sStr) := ⟨rfl, rfl, rfl, by decide +kernel, rfl, by decide +kernel, by decide +kernel⟩
theorem ok_str {f fS : Addr} {fd fdS : FuncData} (F : Fun K "__str__" "Thing.__str__" sStr f fd) (T : Txt K mg C) (AS : At K mg "signs" sSigns ["thing"] fS fdS) : FnOk P w K mg base CX0 2 f fd ["self"] (spStr C) := by
  have GS : FnOk P w K mg base CX0 1 fS fdS ["thing"] (spSigns C) := ok_signs AS.F T
  refine F.ok scSt (fun vs H Q E h => ?_) (fun cdv A outer s H vs Q E hr h => ?_)
  · obtain ⟨a, t, rfl, _⟩ := h
    rfl
  · obtain ⟨a, t, rfl, ha, hz, k⟩ := h
    refine ⟨_, pss_one (ps_ret (pe_join pe_str (pe_call GS hr rfl AS.mgf AS.F.kp AS.b .nil pass0 (pa_cons (pv 0) pa_nil)))), ?_⟩
    refine ⟨⟨_, rfl⟩, _, rfl, a, t, rfl, ha, hz, fun p H' s1 np hp => ?_⟩
    refine ⟨_, p, t.codes.map (fun c => (⟨#[c]⟩ : Str)), rfl, rfl, .inl (SqL.of (by rw [hp, List.map_map]; rfl)), ?_, ?_⟩
    · rw [sum_signs, Tr.codes_len, List.length_map, Tr.codes_len]
      show 3 * t.size + 1 + (3 * t.size + 1) * 0 ≤ 16777216
      omega
    · show Q (.str (PySem.Txt.join ("" : Str) (t.codes.map fun c => (⟨#[c]⟩ : Str)))) H'
      rw [join_signs]
      exact k H' s1
end
end Js
set_option Elab.async false
set_option linter.all false
set_option maxRecDepth 100000
set_option maxHeartbeats 2000000
namespace Js
open PySem L2
structure Maker (P : Program) (w : World) (K : PySem.W.Frag) (mg : Str → Option Value) (base : Heap) (C fI : Addr) (fdI : FuncData) : Prop where
  M : Mk K C fI
  G : FnOk P w K mg base CX0 2 fI fdI ["self", "first", "second"] (spInit C)
  mgC : mg "Thing" = some (.ref C)
  b2 : Binds K fdI ["self", "first", "second"] []
  b0 : ∃ ds, Vals [V.non, V.non] ds ∧ Binds K fdI ["self", "first", "second"] ds
def tT (C : Addr) (t : TA) : TE := fun σ H Q => t σ H fun vs H1 => ∃ a b t u, vs = [.ref a, .ref b] ∧ Th C H1 a t ∧ Th C H1 b u ∧ 1 + t.size + u.size ≤ 4000 ∧ ∀ z H', Same H1 H' → H1 z = none → Th C H' z (.pr t u) → Q (.ref z) H'
def tT0 (C : Addr) : TE := fun _ H Q => ∀ z H', Same H H' → H z = none → Th C H' z .nil → Q (.ref z) H'
section
open PyProof.Rows
variable {X : Cx} {C fI : Addr} {fdI : FuncData} {p pos : Pos} {e : Expr} {es : List Expr} {t : TA}
theorem pe_T2 (mk : Maker X.prog X.w X.K X.mg X.base C fI fdI) (hr : Room 3 X.A) (hg : Gl X "Thing") (ha : PA X (e :: es) t)
    (he : starEach (e :: es) X.env = (false, eval e X.env) :: starEach es X.env := by rfl) (hpl : (backTo pos (starEach es X.env)).any (·.1) = false := by rfl) : PE X (.Call (.Name "Thing" p) (e :: es) [] pos) (tT C t) := by
  refine ⟨fun pins s σ H Q I h => ?_⟩
  refine wpAny_Call_Name_kw (ld_glob I hg mk.mgC ?_ (by decide))
  refine PySem.W.callWith_K (h₀ := X.base) I.ok.mod.kin mk.M.kp (thn (ha.run pos pins s σ H _ I h) fun us s1 ⟨vs, H1, I1, r, q⟩ => ⟨I1.kIn, ?_⟩) he hpl
  obtain ⟨a, b, t, u, rfl, h1, h2, hz, k⟩ := q
  exact run_make mk.M mk.G hr mk.b2 .nil pass0 I1 r (mk_pr h1 h2 hz k)
theorem pe_T0 (mk : Maker X.prog X.w X.K X.mg X.base C fI fdI) (hr : Room 3 X.A) (hg : Gl X "Thing") : PE X (.Call (.Name "Thing" p) [] [] pos) (tT0 C) := by
  obtain ⟨ds, hv, hb⟩ := mk.b0
  refine ⟨fun pins s σ H Q I h => ?_⟩
  refine wpAny_Call_Name_kw (ld_glob I hg mk.mgC ?_ (by decide))
  exact PySem.W.callWith_K0 I.kIn mk.M.kp (run_make (us := []) mk.M mk.G hr hb hv pass0 I .nil (mk_nil h))
end
def ThV (C : Addr) (H : Hp) (v : V) (t : Tr) : Prop := ∃ a, v = .ref a ∧ Th C H a t
theorem ThV.kt {C : Addr} {H H' : Hp} (k : KT H H') {v : V} {t : Tr} (h : ThV C H v t) : ThV C H' v t := by
  obtain ⟨a, e, h⟩ := h
  exact ⟨a, e, h.kt k⟩
theorem ths_kt {C : Addr} {H H' : Hp} (k : KT H H') : ∀ {vs : List V} {ts : List Tr}, Paired (ThV C H) vs ts → Paired (ThV C H') vs ts
  | _, _, .nil => .nil
  | _, _, .cons h t => .cons (h.kt k) (ths_kt k t)
theorem paired_get {α β : Type} {F : α → β → Prop} : ∀ {xs : List α} {ys : List β}, Paired F xs ys → ∀ {i : Nat} {x : α}, xs[i]? = some x → ∃ y, ys[i]? = some y ∧ F x y
  | _, _, .nil, i, x, h => by simp at h
  | _, _, .cons h t, 0, x, e => by
    simp at e
    subst e
    exact ⟨_, rfl, h⟩
  | _, _, .cons h t, i + 1, x, e => by
    simp at e
    obtain ⟨y, e1, e2⟩ := paired_get t e
    exact ⟨y, by simpa using e1, e2⟩
theorem paired_snoc {α β : Type} {F : α → β → Prop} : ∀ {xs : List α} {ys : List β} {x : α} {y : β}, Paired F xs ys → F x y → Paired F (xs ++ [x]) (ys ++ [y])
  | _, _, _, _, .nil, h => .cons h .nil
  | _, _, _, _, .cons h t, h' => .cons h (paired_snoc t h')
end Js
set_option Elab.async false
set_option linter.all false
set_option maxRecDepth 100000
set_option maxHeartbeats 2000000
namespace Js
open PySem L2
abbrev sBag : Stmt := top 49
abbrev sTake : Stmt := top 50
structure Blt (mg : Str → Option Value) : Prop where
  len : mg "len" = none
  range : mg "range" = none
  abs : mg "abs" = none
  int : mg "int" = none
  str : mg "str" = none
  max : mg "max" = none
  min : mg "min" = none
  all : mg "all" = none
structure BagOk (H : Hp) (p : Addr) : Prop where
  ex : ∃ x0 x1 pr x3 : Int, H p = some (.lst [.int x0, .int x1, .int pr, .int x3]) ∧ 0 ≤ x0 ∧ 0 ≤ x1 ∧ x1 < 2147483648 ∧ 0 < pr ∧ pr < 2147483648
def KB (p : Addr) (H H' : Hp) : Prop := ∀ a o, a ≠ p → H a = some o → H' a = some o
theorem KB.refl (p : Addr) (H : Hp) : KB p H H := fun _ _ _ h => h
theorem KB.of {p : Addr} {H H' : Hp} (s : Same H H') : KB p H H' := fun _ _ _ h => s _ _ h
theorem KB.trans {p : Addr} {H H1 H2 : Hp} (a : KB p H H1) (b : KB p H1 H2) : KB p H H2 := fun x o n h => b x o n (a x o n h)
theorem KB.set {p : Addr} {H : Hp} {o : HO} : KB p H (upd H p o) := fun x u n h => by rw [upd_ne n]; exact h
theorem KB.kt {p : Addr} {H H' : Hp} (k : KB p H H') {xs : List V} (hp : H p = some (.lst xs)) : KT H H' := fun a o h n => k a o (fun z => by subst z; exact n _ (Option.some.inj (h.symm.trans hp))) h
theorem BagOk.kt {p : Addr} {H H' : Hp} (b : BagOk H p) (k : KB p H H') : KT H H' := by
  obtain ⟨x0, x1, pr, x3, h, _⟩ := b.ex
  exact k.kt h
theorem BagOk.same {p : Addr} {H H' : Hp} (b : BagOk H p) (s : Same H H') : BagOk H' p := by
  obtain ⟨x0, x1, pr, x3, h, r⟩ := b.ex
  exact ⟨x0, x1, pr, x3, s _ _ h, r⟩
theorem BagOk.some {p : Addr} {H : Hp} (b : BagOk H p) : ∃ xs, H p = some (.lst xs) := by
  obtain ⟨x0, x1, pr, x3, h, r⟩ := b.ex
  exact ⟨_, h⟩
def spBag (K : PySem.W.Frag) : Sp := fun vs H Q _ => ∃ (a : Addr) (ns : List Int) (k : Nat), vs = [.ref a, .int (k : Nat)] ∧ SqL K H a (ns.map V.int) ∧ k < 8 ∧ ∀ p H', Same H H' → H p = none → BagOk H' p → Q (.ref p) H'
def spTake : Sp := fun vs H Q _ => ∃ (p : Addr) (m : Int), vs = [.ref p, .int m] ∧ BagOk H p ∧ 0 < m ∧ m < 1073741824 ∧ ∀ (d : Int) H', KB p H H' → BagOk H' p → 0 ≤ d → d < m → Q (.int d) H'
def primes : List V := [.int 2147483629, .int 2147483587, .int 2147483579, .int 2147483563, .int 2147483549, .int 2147483543, .int 2147483497, .int 2147483489]
theorem prime_at (k : Nat) (hk : k < 8) : ∃ pr : Int, atI primes ((k : Int) % 8) = some (.int pr) ∧ 0 < pr ∧ pr < 2147483648 := by
  have e : ((k : Int) % 8) = (k : Nat) := by omega
  rw [e]
  match k, hk with
  | 0, _ => exact ⟨_, atI_nat rfl, by decide, by decide⟩
  | 1, _ => exact ⟨_, atI_nat rfl, by decide, by decide⟩
  | 2, _ => exact ⟨_, atI_nat rfl, by decide, by decide⟩
  | 3, _ => exact ⟨_, atI_nat rfl, by decide, by decide⟩
  | 4, _ => exact ⟨_, atI_nat rfl, by decide, by decide⟩
  | 5, _ => exact ⟨_, atI_nat rfl, by decide, by decide⟩
  | 6, _ => exact ⟨_, atI_nat rfl, by decide, by decide⟩
  | 7, _ => exact ⟨_, atI_nat rfl, by decide, by decide⟩
section
variable {P : Program} {w : World} {K : PySem.W.Frag} {mg : Str → Option Value} {base : Heap} {C fI : Addr} {fdI : FuncData}
theorem scB : FnScope ["_law_script", "_law_at", "_law_cell", "_law_prime"] ["_law_script", "_law_at"] (defScope sBag) := ⟨rfl, rfl, rfl, by decide +kernel, rfl, by decide +kernel, by decide +kernel⟩
theorem ok_bag {f : Addr} {fd : FuncData} (F : Fun K "_law_bag" "_law_bag" sBag f fd) (B : Blt mg) : FnOk P w K mg base CX0 1 f fd ["_law_script", "_law_at"] (spBag K) := by
  refine F.ok scB (fun vs H Q E h => ?_) (fun cdv A outer s H vs Q E hr h => ?_)
  · obtain ⟨a, ns, k, rfl, _⟩ := h
    rfl
  · obtain ⟨a, ns, kk, rfl, hS, hk, k⟩ := h
    refine ⟨_, pss_cons (ps_set (i := 2) scB.nd rfl (Or.inl rfl) pe_int)
      (pss_cons (ps_if (pt_cmpR op_lt (pv 1) (pe_callB call_len_seq (by rfl) B.len PySem.boot_len (pa_cons (pv 0) pa_nil)) (nomark _))
        (pss_one (ps_set (i := 2) scB.nd rfl (Or.inl rfl) (pe_callB call_abs (by rfl) B.abs PyProof.Rows.boot_abs (pa_cons (pe_ix ix_list (pv 0) (pv 1) (fun _ _ => rfl)) pa_nil)))) pss_nil)
      (pss_cons (ps_set (i := 3) scB.nd rfl (Or.inl rfl) (pe_ix ix_list (pe_lst (pa_cons pe_int (pa_cons pe_int (pa_cons pe_int (pa_cons pe_int (pa_cons pe_int (pa_cons pe_int (pa_cons pe_int (pa_cons pe_int pa_nil))))))))) (pe_op op_mod (pv 1) pe_int) (fun _ _ => rfl)))
      (pss_one (ps_ret (pe_lst (pa_cons (pe_op op_mul (pv 2) (pe_callTy call_int1 (by rfl) B.int PyProof.Rows.boot_int (pa_cons (pe_cmpR op_ge (pv 2) (pe_op op_pow pe_int pe_int) (nomark _)) pa_nil)))
        (pa_cons (pe_op op_mod (pe_op op_pow (pe_op op_add (pe_op op_add (pe_op op_mod (pv 2) pe_int) (pe_op op_mul pe_int (pv 1))) pe_int) pe_int) (pv 3)) (pa_cons (pv 3) (pa_cons pe_int pa_nil))))))))), ?_⟩
    -- behind the first if
    have rest : ∀ (cell : Int), 0 ≤ cell → tSeq (tAsg (tOp (rIxL K) (tLst (tCons (tC (V.int 2147483629)) (tCons (tC (V.int 2147483587)) (tCons (tC (V.int 2147483579)) (tCons (tC (V.int 2147483563)) (tCons (tC (V.int 2147483549)) (tCons (tC (V.int 2147483543)) (tCons (tC (V.int 2147483497)) (tCons (tC (V.int 2147483489)) tNil))))))))) (tOp (rI (fun _ j => 0 < j) fun i j => .int (i % j)) (tVar 1) (tC (V.int 8)))) (gName 3))
        (tRet (tLst (tCons (tOp (rI CMul fun i j => .int (i * j)) (tVar 2) (tCB (fun xs H Q => (∃ i, xs = [.int i] ∧ Q (.int i) H) ∨ ∃ k, xs = [.bl k] ∧ Q (.int (if k then 1 else 0)) H) (tCons (tOp (rI0 fun i j => .bl (decide (j ≤ i))) (tVar 2) (tOp (rI CPow fun i j => .int (i ^ j.toNat)) (tC (.int 10)) (tC (.int 18)))) tNil)))
          (tCons (tOp (rI (fun _ j => 0 < j) fun i j => .int (i % j)) (tOp (rI CPow fun i j => .int (i ^ j.toNat)) (tOp (rI0 fun i j => .int (i + j)) (tOp (rI0 fun i j => .int (i + j)) (tOp (rI (fun _ j => 0 < j) fun i j => .int (i % j)) (tVar 2) (tC (.int 2147483647))) (tOp (rI CMul fun i j => .int (i * j)) (tC (.int 104729)) (tVar 1))) (tC (.int 7))) (tC (.int 5))) (tVar 3)) (tCons (tVar 3) (tCons (tC (.int 0)) tNil))))))
        { nx := fun _ H' => Q .non H', rt := Q } [some (.ref a), some (.int (kk : Nat)), some (.int cell), none] H := by
      intro cell hc
      refine ⟨(by show 8 ≤ sizeLine; decide), fun pl npl => ?_⟩
      obtain ⟨pr, e1, e2, e3⟩ := prime_at kk hk
      refine ⟨_, rfl, _, _, rfl, rfl, (by show (0 : Int) < 8; decide), pl, _, _, _, rfl, rfl, SqL.of upd_same, e1, ?_⟩
      refine ⟨_, rfl, _, rfl, _, _, rfl, rfl, ⟨by decide, by decide, by decide⟩, _, _, rfl, rfl, .inr ⟨_, rfl, _, _, rfl, rfl, .inr ?_, ?_⟩⟩
      · split
        · exact ⟨by decide, by decide⟩
        · exact ⟨by decide, by decide⟩
      · refine ⟨_, rfl, _, _, rfl, rfl, (by show (0 : Int) < 2147483647; decide), _, rfl, _, _, rfl, rfl, .inl ⟨by decide, by decide⟩, _, _, rfl, rfl, _, _, rfl, rfl, _, _, rfl, rfl, ⟨by decide, by decide, ?_⟩, _, rfl, _, _, rfl, rfl, e2, _, rfl, (by show 4 ≤ sizeLine; decide), fun p np => ?_⟩
        · have h1 : 0 ≤ cell % 2147483647 := Int.emod_nonneg _ (by decide)
          have h2 : cell % 2147483647 < 2147483647 := Int.emod_lt_of_pos _ (by decide)
          show (cell % 2147483647 + 104729 * (kk : Int) + 7).natAbs < 2 ^ 64
          omega
        · have hne : H p = none := (Same.new npl).free np
          refine k p _ ((Same.new npl).trans (Same.new np)) hne ⟨_, _, pr, 0, upd_same, ?_, ?_, ?_, e2, e3⟩
          · split
            · simpa using hc
            · simp
          · exact Int.emod_nonneg _ (by omega)
          · exact Int.lt_trans (Int.emod_lt_of_pos _ e2) e3
    refine ⟨_, rfl, _, rfl, a, _, rfl, .inl hS, _, _, rfl, rfl, _, rfl, ?_⟩
    refine ite2 (fun hlt => ?_) (fun _ => rest 0 (by decide))
    have hlt' : kk < ns.length := by
      have := of_decide_eq_true hlt
      rw [List.length_map] at this
      omega
    refine ⟨_, rfl, _, rfl, a, _, _, _, rfl, rfl, hS, atI_nat (v := .int ns[kk]) (by rw [List.getElem?_map, List.getElem?_eq_getElem hlt']; rfl), _, rfl, ?_⟩
    exact rest _ (by split <;> omega)
theorem scTk : FnScope ["_law_bag_here", "_law_many", "_law_digit"] ["_law_bag_here", "_law_many"] (defScope sTake) := ⟨rfl, rfl, rfl, by decide +kernel, rfl, by decide +kernel, by decide +kernel⟩
theorem ok_take {f : Addr} {fd : FuncData} (F : Fun K "_law_take" "_law_take" sTake f fd) : FnOk P w K mg base CX0 1 f fd ["_law_bag_here", "_law_many"] spTake := by
  refine F.ok scTk (fun vs H Q E h => ?_) (fun cdv A outer s H vs Q E hr h => ?_)
  · obtain ⟨p, m, rfl, _⟩ := h
    rfl
  · obtain ⟨p, m, rfl, ⟨x0, x1, pr, x3, hp, h0, h1, h1', hp0, hp1⟩, hm0, hm1, k⟩ := h
    refine ⟨_, pss_cons (ps_if (pt_cmpR op_gt (pe_ix ix_list (pv 0) pe_int (fun _ _ => rfl)) pe_int (nomark _))
        (pss_cons (ps_set (i := 2) scTk.nd rfl (Or.inl rfl) (pe_op op_mod (pe_ix ix_list (pv 0) pe_int (fun _ _ => rfl)) (pv 1)))
        (pss_cons (ps_asg (pe_op op_fdiv (pe_ix ix_list (pv 0) pe_int (fun _ _ => rfl)) (pv 1)) (pg_sub (pv 0) pe_int set_list)) (pss_one (ps_ret (pv 2))))) pss_nil)
      (pss_cons (ps_asg (pe_op op_add (pe_ix ix_list (pv 0) pe_int (fun _ _ => rfl)) pe_int) (pg_sub (pv 0) pe_int set_list))
      (pss_cons (ps_asg (pe_op op_mod (pe_op op_add (pe_op op_add (pe_op op_mul (pe_ix ix_list (pv 0) pe_int (fun _ _ => rfl)) pe_int) (pe_op op_mul pe_int (pe_ix ix_list (pv 0) pe_int (fun _ _ => rfl)))) pe_int) (pe_ix ix_list (pv 0) pe_int (fun _ _ => rfl))) (pg_sub (pv 0) pe_int set_list))
      (pss_one (ps_ret (pe_op op_mod (pe_op op_mod (pe_op op_pow (pe_op op_fdiv (pe_ix ix_list (pv 0) pe_int (fun _ _ => rfl)) pe_int) pe_int) pe_int) (pv 1)))))), ?_⟩
    refine ⟨_, rfl, p, _, _, .int x0, rfl, rfl, SqL.of hp, rfl, _, _, rfl, rfl, _, rfl, ?_⟩
    refine ite2 (fun hlt => ?_) (fun _ => ?_)
    · refine ⟨_, rfl, p, _, _, .int x0, rfl, rfl, SqL.of hp, rfl, _, rfl, _, _, rfl, rfl, hm0, ?_⟩
      refine ⟨_, rfl, p, _, _, .int x0, rfl, rfl, SqL.of hp, rfl, _, rfl, _, _, rfl, rfl, ⟨hm0, hm1⟩, _, rfl, p, _, _, 0, rfl, rfl, hp, rfl, ?_⟩
      refine ⟨_, rfl, k _ _ KB.set ⟨x0 / m, x1, pr, x3, upd_same, ?_, h1, h1', hp0, hp1⟩ ?_ ?_⟩
      · exact Int.ediv_nonneg h0 (by omega)
      · exact Int.emod_nonneg _ (by omega)
      · exact Int.emod_lt_of_pos _ hm0
    · refine ⟨_, rfl, p, _, _, .int x3, rfl, rfl, SqL.of hp, rfl, _, _, rfl, rfl, _, rfl, p, _, _, 3, rfl, rfl, hp, rfl, ?_⟩
      have hp2 : (upd H p (.lst [.int x0, .int x1, .int pr, .int (x3 + 1)])) p = some (.lst [.int x0, .int x1, .int pr, .int (x3 + 1)]) := upd_same
      refine ⟨_, rfl, p, _, _, .int x1, rfl, rfl, SqL.of hp2, rfl, _, _, rfl, rfl, .inr ⟨by decide, by decide⟩, _, rfl, p, _, _, .int (x3 + 1), rfl, rfl, SqL.of hp2, rfl, _, _, rfl, rfl, .inl ⟨by decide, by decide⟩, _, _, rfl, rfl, _, _, rfl, rfl, _, rfl, p, _, _, .int pr, rfl, rfl, SqL.of hp2, rfl, _, _, rfl, rfl, hp0, _, rfl, p, _, _, 1, rfl, rfl, hp2, rfl, ?_⟩
      have g0 : 0 ≤ (x1 * 48271 + 7919 * (x3 + 1) + 11) % pr := Int.emod_nonneg _ (by omega)
      have g1 : (x1 * 48271 + 7919 * (x3 + 1) + 11) % pr < pr := Int.emod_lt_of_pos _ hp0
      have hp3 : (upd (upd H p (.lst [.int x0, .int x1, .int pr, .int (x3 + 1)])) p (.lst [.int x0, .int ((x1 * 48271 + 7919 * (x3 + 1) + 11) % pr), .int pr, .int (x3 + 1)])) p = some (.lst [.int x0, .int ((x1 * 48271 + 7919 * (x3 + 1) + 11) % pr), .int pr, .int (x3 + 1)]) := upd_same
      refine ⟨_, rfl, p, _, _, .int ((x1 * 48271 + 7919 * (x3 + 1) + 11) % pr), rfl, rfl, SqL.of hp3, rfl, _, _, rfl, rfl, ⟨by decide, by decide⟩, _, _, rfl, rfl, ⟨by decide, by decide, ?_⟩, _, _, rfl, rfl, (by show (0 : Int) < 2147483629; decide), _, rfl, _, _, rfl, rfl, hm0, ?_⟩
      · generalize (x1 * 48271 + 7919 * (x3 + 1) + 11) % pr = y at g0 g1
        show (y / 8).natAbs < 2 ^ 64
        omega
      · refine k _ _ (KB.set.trans KB.set) ⟨x0, _, pr, x3 + 1, hp3, h0, g0, by omega, hp0, hp1⟩ ?_ ?_
        · exact Int.emod_nonneg _ (by omega)
        · exact Int.emod_lt_of_pos _ hm0
end
end Js
set_option Elab.async false
set_option linter.all false
set_option maxRecDepth 100000
set_option maxHeartbeats 2000000
namespace Js
open PySem L2
def Def (P : Program) (w : World) (K : PySem.W.Frag) (mg : Str → Option Value) (base : Heap) (x : Str) (k : Nat) (ps : List Str) (sp : Sp) : Prop :=
  ∃ f fd, mg x = some (.ref f) ∧ PySem.W.keepIn K (.ref f) = true ∧ FnOk P w K mg base CX0 k f fd ps sp ∧ Binds K fd ps []
def Spc (P : Program) (w : World) (K : PySem.W.Frag) (mg : Str → Option Value) (base : Heap) (C : Addr) (x : Str) (k : Nat) (ps : List Str) (sp : Sp) : Prop :=
  ∃ f fd, Own K C x f ∧ FnOk P w K mg base CX0 k f fd ps sp ∧ Binds K fd ps []
section
open PyProof.Rows
variable {X : Cx} {C : Addr} {p pos apos : Pos} {e o : Expr} {es : List Expr} {t : TA} {ta : TE} {x : Str} {k : Nat} {ps : List Str} {sp : Sp}
theorem pe_def (D : Def X.prog X.w X.K X.mg X.base x k ps sp) (hr : Room k X.A) (hg : Gl X x) (ha : PA X (e :: es) t) (hdb : (x == ("__debug__" : Str)) = false := by decide)
    (he : starEach (e :: es) X.env = (false, eval e X.env) :: starEach es X.env := by rfl) (hpl : (backTo pos (starEach es X.env)).any (·.1) = false := by rfl) : PE X (.Call (.Name x p) (e :: es) [] pos) (tCall sp [] E0 t) := by
  obtain ⟨f, fd, hm, hk, F, hb⟩ := D
  exact pe_call F hr hg hm hk hb .nil pass0 ha hdb he hpl
theorem OpR.imp {f : Value → Value → Sem Value} {r r' : R2} (h : OpR X f r) (hi : ∀ x y H Q, r' x y H Q → r x y H Q) : OpR X f r' := fun pins s σ H x y v u Q I rx ry q => h pins s σ H x y v u Q I rx ry (hi x y H Q q)
theorem CallR.imp {f : Value} {r r' : List V → Hp → VK → Prop} (h : CallR X f r) (hi : ∀ xs H Q, r' xs H Q → r xs H Q) : CallR X f r' := fun pins s σ H xs us Q I rx q => h pins s σ H xs us Q I rx (hi xs H Q q)
theorem call_strT (S : Spc X.prog X.w X.K X.mg X.base C "__str__" 2 ["self"] (spStr C)) (hr : Room 4 X.A) : CallR X (.type "str") (fun xs H Q => ∃ a t, xs = [.ref a] ∧ Th C H a t ∧ t.size ≤ 4000 ∧ ∀ H', Same H H' → Q (.str t.text) H') := by
  obtain ⟨f, fd, ow, F, hb⟩ := S
  refine CallR.imp (call_strOwn ow F hb hr (pass0)) fun xs H Q h => ?_
  obtain ⟨a, t, rfl, ha, hz, q⟩ := h
  obtain ⟨dx, f1, g1, h1⟩ := ha.obj
  exact ⟨a, dx, _, rfl, h1, a, t, rfl, ha, hz, fun H' s => ⟨_, rfl, q H' s⟩⟩
def DTh (C : Addr) : Tells := fun x y r H => ∃ a b t u, x = .ref a ∧ y = .ref b ∧ Th C H a t ∧ Th C H b u ∧ t.size ≤ 4000 ∧ r = decide (t = u)
end
end Js
set_option Elab.async false
set_option linter.all false
set_option maxRecDepth 100000
set_option maxHeartbeats 2000000
namespace JsQ
open PySem PySem.SeqAt
open AutoSeq1 (wpAny_loadPart')
open MeetsSeq MeetsSeq2 MeetsSeq3 SeqRoads2
section
variable {prog : Program} {w : World} {A : Around} {R : Result → Shared → Prop}
def TwoL (l b : Addr) (N : Nat) (us vs : Array Value) (s : Shared) : Prop := (∃ n, s.heap.get? l = some { cls := .type "list", data := .seq us n }) ∧ (∃ m, s.heap.get? b = some { cls := .type "list", data := .seq vs m }) ∧ us.size = N ∧ vs.size = N
structure Goes (prog : Program) (w : World) (A : Around) (X : Value → Shared → Prop) (l b : Addr) (N : Nat) (J Fa : Nat → Shared → Prop) : Prop where
  turn : ∀ i s, J i s → ∃ us vs : Array Value, TwoL l b N us vs s ∧ ∀ (h1 : i < us.size) (h2 : i < vs.size), wpAny (model prog w) A.in1 (eqBool us[i] vs[i]) (fun r s' => if r = true then J (i + 1) s' else Fa i s') X s
  stay : ∀ i s, Fa i s → ∃ us vs : Array Value, TwoL l b N us vs s
theorem loop_eq (l b : Addr) (N : Nat) (J Fa : Nat → Shared → Prop) (g : Goes prog w A (fun e s' => R (.error e) s') l b N J Fa) (fin : ∀ s, J N s → R (.ok (.ret (.bool true))) s) (brk : ∀ i s, Fa i s → R (.ok (.ret (.bool false))) s) (k : Nat) :
    ∀ i : Nat, N - i = k → i ≤ N → ∀ s, J i s → wpAny (model prog w) A.in1 (Builtin.«list.__eq__.loop» ⟨[.ref l, .ref b, rawInt i, rawInt 2], []⟩) (GQ.FinOf prog w A R) (fun e s' => R (.error e) s') s := by
  induction k with
  | zero =>
    intro i hk hi s h
    obtain ⟨us, vs, ⟨⟨n, c1⟩, ⟨m, c2⟩, z1, z2⟩, _⟩ := g.turn _ _ h
    have ei : i = N := by omega
    have hR : R (.ok (.ret (.bool true))) s := fin s (ei ▸ h)
    obtain ⟨hp, gg, d, tk, os⟩ := s
    wp_walk using wpAny_loadPart' c1, wpAny_loadPart' c2
    have q1 : us[((i : Nat) : Int).toNat]? = none := by simp; omega
    have q2 : vs[((i : Nat) : Int).toNat]? = none := by simp; omega
    rw [q1, q2]
    wp_walk using wpAny_loadPart' c1, wpAny_loadPart' c2
    first
    | (show R (.ok (.ret (.bool (us.size == vs.size)))) _; rw [z1, z2]; simpa using hR)
    | (show R (.ok (.ret (.bool (us.size != vs.size)))) _; rw [z1, z2]; simpa using hR)
  | succ k ih =>
    intro i hk hi s h
    obtain ⟨us, vs, ⟨⟨n, c1⟩, ⟨m, c2⟩, z1, z2⟩, turn⟩ := g.turn _ _ h
    have l1 : i < us.size := by omega
    have l2 : i < vs.size := by omega
    have ht := turn l1 l2
    obtain ⟨hp, gg, d, tk, os⟩ := s
    wp_walk using wpAny_loadPart' c1, wpAny_loadPart' c2
    have q1 : us[((i : Nat) : Int).toNat]? = some us[i] := by simp [l1]
    have q2 : vs[((i : Nat) : Int).toNat]? = some vs[i] := by simp [l2]
    have ec : ((i : Int) + 1) = ((i + 1 : Nat) : Int) := by omega
    rw [q1, q2]
    refine wpAny_bind (wpAny_mono ht (fun r s2 h2 => ?_) fun _ _ x => x)
    cases r with
    | true =>
      rw [if_pos rfl] at h2
      have again := ih (i + 1) (by omega) (by omega) s2 h2
      obtain ⟨hp2, g2, d2, tk2, os2⟩ := s2
      wp_walk
      rw [ec]
      exact ⟨plainId_quiet plain_eq_loop _, codeAny_builtin entry_eq_loop (by rw [Around.under_plainId plain_eq_loop _]; exact again)⟩
    | false =>
      rw [if_neg Bool.false_ne_true] at h2
      obtain ⟨us', vs', ⟨n', c1'⟩, ⟨m', c2'⟩, z1', z2'⟩ := g.stay _ _ h2
      have hR := brk i s2 h2
      obtain ⟨hp2, g2, d2, tk2, os2⟩ := s2
      have p1 : us'[((i : Nat) : Int).toNat]? = some (us'[i]'(by omega)) := by first | (simp; done) | (simp; omega)
      have p2 : vs'[((i : Nat) : Int).toNat]? = some (vs'[i]'(by omega)) := by first | (simp; done) | (simp; omega)
      wp_walk using wpAny_loadPart' c1', wpAny_loadPart' c2'
      first
      | exact hR
      | (rw [p1, p2]; wp_walk; simpa using hR)
theorem list_eq (l b : Addr) (N : Nat) (J Fa : Nat → Shared → Prop) (g : Goes prog w A (fun e s' => R (.error e) s') l b N J Fa) (fin : ∀ s, J N s → R (.ok (.ret (.bool true))) s) (brk : ∀ i s, Fa i s → R (.ok (.ret (.bool false))) s) {s : Shared} (h : J 0 s) :
    wpAny (model prog w) A.in1 (Builtin.«list.__eq__» ⟨[.ref l, .ref b], []⟩) (GQ.FinOf prog w A R) (fun e s' => R (.error e) s') s := by
  obtain ⟨us, vs, ⟨⟨n, c1⟩, ⟨m, c2⟩, z1, z2⟩, _⟩ := g.turn _ _ h
  have go := loop_eq (A := A) (R := R) l b N J Fa g fin brk _ 0 rfl (Nat.zero_le _) s h
  obtain ⟨hp, gg, d, tk, os⟩ := s
  have f3 := AutoSeq1.sub_list_list
  have ne : ¬ (us.size != vs.size) = true := by simp [z1, z2]
  wp_walk using wpAny_loadPart' c1, wpAny_loadPart' c2
  exact ⟨plainId_quiet plain_eq_loop _, codeAny_builtin entry_eq_loop (by rw [Around.under_plainId plain_eq_loop _]; exact go)⟩
theorem far_eq (l b : Addr) (us vs : Array Value) (n m : Nat) (hz : (us.size != vs.size) = true) {s : Shared} (c1 : s.heap.get? l = some { cls := .type "list", data := .seq us n }) (c2 : s.heap.get? b = some { cls := .type "list", data := .seq vs m }) (h : R (.ok (.ret (.bool false))) s) :
    wpAny (model prog w) A.in1 (Builtin.«list.__eq__» ⟨[.ref l, .ref b], []⟩) (GQ.FinOf prog w A R) (fun e s' => R (.error e) s') s := by
  obtain ⟨hp, gg, d, tk, os⟩ := s
  have f3 := AutoSeq1.sub_list_list
  wp_walk using wpAny_loadPart' c1, wpAny_loadPart' c2
  exact h
theorem tup_eq (l b : Addr) (us vs : Array Value) (n m : Nat) (dd dd2 : Option Addr) (sl sl2 : Array (Option Value)) (J Fa : Nat → Shared → Prop)
    (turn : ∀ i (h1 : i < us.size) (h2 : i < vs.size) s, J i s → wpAny (model prog w) A.in1 (eqBool us[i] vs[i]) (fun r s' => if r = true then J (i + 1) s' else Fa i s') (fun e s' => R (.error e) s') s)
    (fin : ∀ s, J (min us.size vs.size) s → R (.ok (.ret (.bool (if us.size = vs.size then true else false)))) s) (brk : ∀ i s, Fa i s → R (.ok (.ret (.bool false))) s) {s : Shared} (c1 : s.heap.get? l = some { cls := .type "tuple", dict := dd, data := .seq us n, slots := sl })
    (c2 : s.heap.get? b = some { cls := .type "tuple", dict := dd2, data := .seq vs m, slots := sl2 }) (h : J 0 s) :
    wpAny (model prog w) A.in1 (Builtin.«tuple.__eq__» ⟨[.ref l, .ref b], []⟩) (GQ.FinOf prog w A R) (fun e s' => R (.error e) s') s := by
  have f2 := AutoSeq1.sub_tuple_tuple
  have zip_len : (us.toList.zip vs.toList).length = min us.size vs.size := by simp
  have h0 := h
  obtain ⟨hp, gg, d, tk, os⟩ := s
  wp_walk using wpAny_loadPart' c1, wpAny_loadPart' c2, wpAny_forIn_list _ (fun rest b s' => b.1 = none ∧ ∃ i, rest = (us.toList.zip vs.toList).drop i ∧ i ≤ min us.size vs.size ∧ J i s') _
  case turn =>
    rintro ⟨y, x⟩ rest b s' ⟨hb', i, hz, hi, hI⟩
    have lt : i < (us.toList.zip vs.toList).length := by
      rcases Nat.lt_or_ge i (us.toList.zip vs.toList).length with q | q
      · exact q
      · rw [List.drop_of_length_le q] at hz; cases hz
    have h1 : i < us.size := by omega
    have h2 : i < vs.size := by omega
    rw [List.drop_eq_getElem_cons lt] at hz
    injection hz with eyx er
    have ey : y = us[i] := by have := congrArg Prod.fst eyx; simpa using this
    have ex : x = vs[i] := by have := congrArg Prod.snd eyx; simpa using this
    subst ey ex
    refine wpAny_bind (wpAny_mono (turn i h1 h2 s' hI) (fun r s2 q2 => ?_) fun _ _ x => x)
    cases r with
    | true =>
      rw [if_pos rfl] at q2
      wp_walk
      exact ⟨rfl, i + 1, er, by omega, q2⟩
    | false =>
      rw [if_neg Bool.false_ne_true] at q2
      have hR := brk i s2 q2
      wp_walk
      first
      | exact ⟨_, rfl, hR⟩
      | exact hR
      | simpa using hR
  case fin =>
    rintro ⟨b1, b2⟩ s' ⟨hb', i, hz, hi, hI⟩
    simp only at hb'
    subst hb'
    have ge : min us.size vs.size ≤ i := by
      rcases Nat.lt_or_ge i (us.toList.zip vs.toList).length with q | q
      · rw [List.drop_eq_getElem_cons q] at hz; cases hz
      · exact zip_len ▸ q
    have ei : i = min us.size vs.size := by omega
    have hR := fin s' (ei ▸ hI)
    wp_walk
    by_cases hs : us.size = vs.size
    · rw [if_pos hs] at hR
      first
      | exact ⟨_, rfl, by simpa [Builtin.Tuple.tupleCompareSizes, bne, hs] using hR⟩
      | simpa [Builtin.Tuple.tupleCompareSizes, bne, hs] using hR
    · rw [if_neg hs] at hR
      have hs' : (us.size == vs.size) = false := beq_eq_false_iff_ne.mpr hs
      first
      | exact ⟨_, rfl, by simpa [Builtin.Tuple.tupleCompareSizes, bne, hs'] using hR⟩
      | (simp only [Builtin.Tuple.tupleCompareSizes, bne, hs']; exact hR)
  case h =>
    exact ⟨rfl, 0, rfl, Nat.zero_le _, h0⟩
theorem loop_ne (l b : Addr) (N : Nat) (J Fa : Nat → Shared → Prop) (g : Goes prog w A (fun e s' => R (.error e) s') l b N J Fa) (fin : ∀ s, J N s → R (.ok (.ret (.bool false))) s) (brk : ∀ i s, Fa i s → R (.ok (.ret (.bool true))) s) (k : Nat) :
    ∀ i : Nat, N - i = k → i ≤ N → ∀ s, J i s → wpAny (model prog w) A.in1 (Builtin.«list.__eq__.loop» ⟨[.ref l, .ref b, rawInt i, rawInt 3], []⟩) (GQ.FinOf prog w A R) (fun e s' => R (.error e) s') s := by
  induction k with
  | zero =>
    intro i hk hi s h
    obtain ⟨us, vs, ⟨⟨n, c1⟩, ⟨m, c2⟩, z1, z2⟩, _⟩ := g.turn _ _ h
    have ei : i = N := by omega
    have hR : R (.ok (.ret (.bool false))) s := fin s (ei ▸ h)
    obtain ⟨hp, gg, d, tk, os⟩ := s
    wp_walk using wpAny_loadPart' c1, wpAny_loadPart' c2
    have q1 : us[((i : Nat) : Int).toNat]? = none := by simp; omega
    have q2 : vs[((i : Nat) : Int).toNat]? = none := by simp; omega
    rw [q1, q2]
    wp_walk using wpAny_loadPart' c1, wpAny_loadPart' c2
    first
    | (show R (.ok (.ret (.bool (us.size == vs.size)))) _; rw [z1, z2]; simpa using hR)
    | (show R (.ok (.ret (.bool (us.size != vs.size)))) _; rw [z1, z2]; simpa using hR)
  | succ k ih =>
    intro i hk hi s h
    obtain ⟨us, vs, ⟨⟨n, c1⟩, ⟨m, c2⟩, z1, z2⟩, turn⟩ := g.turn _ _ h
    have l1 : i < us.size := by omega
    have l2 : i < vs.size := by omega
    have ht := turn l1 l2
    obtain ⟨hp, gg, d, tk, os⟩ := s
    wp_walk using wpAny_loadPart' c1, wpAny_loadPart' c2
    have q1 : us[((i : Nat) : Int).toNat]? = some us[i] := by simp [l1]
    have q2 : vs[((i : Nat) : Int).toNat]? = some vs[i] := by simp [l2]
    have ec : ((i : Int) + 1) = ((i + 1 : Nat) : Int) := by omega
    rw [q1, q2]
    refine wpAny_bind (wpAny_mono ht (fun r s2 h2 => ?_) fun _ _ x => x)
    cases r with
    | true =>
      rw [if_pos rfl] at h2
      have again := ih (i + 1) (by omega) (by omega) s2 h2
      obtain ⟨hp2, g2, d2, tk2, os2⟩ := s2
      wp_walk
      rw [ec]
      exact ⟨plainId_quiet plain_eq_loop _, codeAny_builtin entry_eq_loop (by rw [Around.under_plainId plain_eq_loop _]; exact again)⟩
    | false =>
      rw [if_neg Bool.false_ne_true] at h2
      obtain ⟨us', vs', ⟨n', c1'⟩, ⟨m', c2'⟩, z1', z2'⟩ := g.stay _ _ h2
      have hR := brk i s2 h2
      obtain ⟨hp2, g2, d2, tk2, os2⟩ := s2
      have p1 : us'[((i : Nat) : Int).toNat]? = some (us'[i]'(by omega)) := by first | (simp; done) | (simp; omega)
      have p2 : vs'[((i : Nat) : Int).toNat]? = some (vs'[i]'(by omega)) := by first | (simp; done) | (simp; omega)
      wp_walk using wpAny_loadPart' c1', wpAny_loadPart' c2'
      first
      | exact hR
      | (rw [p1, p2]; wp_walk; simpa using hR)
theorem list_ne (l b : Addr) (N : Nat) (J Fa : Nat → Shared → Prop) (g : Goes prog w A (fun e s' => R (.error e) s') l b N J Fa) (fin : ∀ s, J N s → R (.ok (.ret (.bool false))) s) (brk : ∀ i s, Fa i s → R (.ok (.ret (.bool true))) s) {s : Shared} (h : J 0 s) :
    wpAny (model prog w) A.in1 (Builtin.«list.__ne__» ⟨[.ref l, .ref b], []⟩) (GQ.FinOf prog w A R) (fun e s' => R (.error e) s') s := by
  obtain ⟨us, vs, ⟨⟨n, c1⟩, ⟨m, c2⟩, z1, z2⟩, _⟩ := g.turn _ _ h
  have go := loop_ne (A := A) (R := R) l b N J Fa g fin brk _ 0 rfl (Nat.zero_le _) s h
  obtain ⟨hp, gg, d, tk, os⟩ := s
  have f3 := AutoSeq1.sub_list_list
  have ne : ¬ (us.size != vs.size) = true := by simp [z1, z2]
  wp_walk using wpAny_loadPart' c1, wpAny_loadPart' c2
  exact ⟨plainId_quiet plain_eq_loop _, codeAny_builtin entry_eq_loop (by rw [Around.under_plainId plain_eq_loop _]; exact go)⟩
theorem far_ne (l b : Addr) (us vs : Array Value) (n m : Nat) (hz : (us.size != vs.size) = true) {s : Shared} (c1 : s.heap.get? l = some { cls := .type "list", data := .seq us n }) (c2 : s.heap.get? b = some { cls := .type "list", data := .seq vs m }) (h : R (.ok (.ret (.bool true))) s) :
    wpAny (model prog w) A.in1 (Builtin.«list.__ne__» ⟨[.ref l, .ref b], []⟩) (GQ.FinOf prog w A R) (fun e s' => R (.error e) s') s := by
  obtain ⟨hp, gg, d, tk, os⟩ := s
  have f3 := AutoSeq1.sub_list_list
  wp_walk using wpAny_loadPart' c1, wpAny_loadPart' c2
  exact h
theorem tup_ne (l b : Addr) (us vs : Array Value) (n m : Nat) (dd dd2 : Option Addr) (sl sl2 : Array (Option Value)) (J Fa : Nat → Shared → Prop)
    (turn : ∀ i (h1 : i < us.size) (h2 : i < vs.size) s, J i s → wpAny (model prog w) A.in1 (eqBool us[i] vs[i]) (fun r s' => if r = true then J (i + 1) s' else Fa i s') (fun e s' => R (.error e) s') s)
    (fin : ∀ s, J (min us.size vs.size) s → R (.ok (.ret (.bool (if us.size = vs.size then false else true)))) s) (brk : ∀ i s, Fa i s → R (.ok (.ret (.bool true))) s) {s : Shared} (c1 : s.heap.get? l = some { cls := .type "tuple", dict := dd, data := .seq us n, slots := sl })
    (c2 : s.heap.get? b = some { cls := .type "tuple", dict := dd2, data := .seq vs m, slots := sl2 }) (h : J 0 s) :
    wpAny (model prog w) A.in1 (Builtin.«tuple.__ne__» ⟨[.ref l, .ref b], []⟩) (GQ.FinOf prog w A R) (fun e s' => R (.error e) s') s := by
  have f2 := AutoSeq1.sub_tuple_tuple
  have zip_len : (us.toList.zip vs.toList).length = min us.size vs.size := by simp
  have h0 := h
  obtain ⟨hp, gg, d, tk, os⟩ := s
  wp_walk using wpAny_loadPart' c1, wpAny_loadPart' c2, wpAny_forIn_list _ (fun rest b s' => b.1 = none ∧ ∃ i, rest = (us.toList.zip vs.toList).drop i ∧ i ≤ min us.size vs.size ∧ J i s') _
  case turn =>
    rintro ⟨y, x⟩ rest b s' ⟨hb', i, hz, hi, hI⟩
    have lt : i < (us.toList.zip vs.toList).length := by
      rcases Nat.lt_or_ge i (us.toList.zip vs.toList).length with q | q
      · exact q
      · rw [List.drop_of_length_le q] at hz; cases hz
    have h1 : i < us.size := by omega
    have h2 : i < vs.size := by omega
    rw [List.drop_eq_getElem_cons lt] at hz
    injection hz with eyx er
    have ey : y = us[i] := by have := congrArg Prod.fst eyx; simpa using this
    have ex : x = vs[i] := by have := congrArg Prod.snd eyx; simpa using this
    subst ey ex
    refine wpAny_bind (wpAny_mono (turn i h1 h2 s' hI) (fun r s2 q2 => ?_) fun _ _ x => x)
    cases r with
    | true =>
      rw [if_pos rfl] at q2
      wp_walk
      exact ⟨rfl, i + 1, er, by omega, q2⟩
    | false =>
      rw [if_neg Bool.false_ne_true] at q2
      have hR := brk i s2 q2
      wp_walk
      first
      | exact ⟨_, rfl, hR⟩
      | exact hR
      | simpa using hR
  case fin =>
    rintro ⟨b1, b2⟩ s' ⟨hb', i, hz, hi, hI⟩
    simp only at hb'
    subst hb'
    have ge : min us.size vs.size ≤ i := by
      rcases Nat.lt_or_ge i (us.toList.zip vs.toList).length with q | q
      · rw [List.drop_eq_getElem_cons q] at hz; cases hz
      · exact zip_len ▸ q
    have ei : i = min us.size vs.size := by omega
    have hR := fin s' (ei ▸ hI)
    wp_walk
    by_cases hs : us.size = vs.size
    · rw [if_pos hs] at hR
      first
      | exact ⟨_, rfl, by simpa [Builtin.Tuple.tupleCompareSizes, bne, hs] using hR⟩
      | simpa [Builtin.Tuple.tupleCompareSizes, bne, hs] using hR
    · rw [if_neg hs] at hR
      have hs' : (us.size == vs.size) = false := beq_eq_false_iff_ne.mpr hs
      first
      | exact ⟨_, rfl, by simpa [Builtin.Tuple.tupleCompareSizes, bne, hs'] using hR⟩
      | (simp only [Builtin.Tuple.tupleCompareSizes, bne, hs']; exact hR)
  case h =>
    exact ⟨rfl, 0, rfl, Nat.zero_le _, h0⟩
end
section
variable {prog : Program} {w : World} {A : Around} {E : Value → Shared → Prop} {s : Shared}
theorem rc_list_eq {l b : Addr} {N : Nat} {Q : Value → Shared → Prop} (hu : A.units < cLine) (J Fa : Nat → Shared → Prop) (g : Goes prog w A E l b N J Fa) (fin : ∀ s, J N s → Q (.bool true) s) (brk : ∀ i s, Fa i s → Q (.bool false) s) (h : J 0 s) : wpAny (model prog w) A (richCompare .Eq (.ref l) (.ref b)) Q E s := by
  obtain ⟨us, vs, ⟨⟨n, c1⟩, ⟨m, c2⟩, _, _⟩, _⟩ := g.turn _ _ h
  refine wpAny_richCompare_same_room (op := .Eq) ⟨_, c1, rfl⟩ ⟨_, c2, rfl⟩ PySem.F.slot_list_eq (GQ.call_here PySem.F.slot_list_eq ⟨_, c1, rfl⟩ PySem.F.entry_list_eq (PySem.F.args_list_eq_2 _ _) ?_) hu
  exact list_eq (R := wants (fun v s' => v ≠ .notImplemented ∧ Q v s') E) l b N J Fa g (fun s' q => ⟨(fun x => nomatch x), fin s' q⟩) (fun i s' q => ⟨(fun x => nomatch x), brk i s' q⟩) h
theorem rc_far_eq {l b : Addr} {us vs : Array Value} {n m : Nat} {Q : Value → Shared → Prop} (hu : A.units < cLine) (hz : (us.size != vs.size) = true) (c1 : s.heap.get? l = some { cls := .type "list", data := .seq us n }) (c2 : s.heap.get? b = some { cls := .type "list", data := .seq vs m }) (h : Q (.bool false) s) : wpAny (model prog w) A (richCompare .Eq (.ref l) (.ref b)) Q E s := by
  refine wpAny_richCompare_same_room (op := .Eq) ⟨_, c1, rfl⟩ ⟨_, c2, rfl⟩ PySem.F.slot_list_eq (GQ.call_here PySem.F.slot_list_eq ⟨_, c1, rfl⟩ PySem.F.entry_list_eq (PySem.F.args_list_eq_2 _ _) ?_) hu
  exact far_eq (R := wants (fun v s' => v ≠ .notImplemented ∧ Q v s') E) l b us vs n m hz c1 c2 ⟨(fun x => nomatch x), h⟩
theorem rc_tup_eq {l b : Addr} {us vs : Array Value} {Q : Value → Shared → Prop} (hu : A.units < cLine) (J Fa : Nat → Shared → Prop) (hl : s.heap.IsTuple l us) (hb : s.heap.IsTuple b vs)
    (turn : ∀ i (h1 : i < us.size) (h2 : i < vs.size) s, J i s → wpAny (model prog w) A.in1 (eqBool us[i] vs[i]) (fun r s' => if r = true then J (i + 1) s' else Fa i s') E s)
    (fin : ∀ s, J (min us.size vs.size) s → Q (.bool (if us.size = vs.size then true else false)) s) (brk : ∀ i s, Fa i s → Q (.bool false) s) (h : J 0 s) : wpAny (model prog w) A (richCompare .Eq (.ref l) (.ref b)) Q E s := by
  obtain ⟨⟨cls, dd, data, sl⟩, c1, hc, n, hd⟩ := id hl
  obtain ⟨⟨cls2, dd2, data2, sl2⟩, c2, hc2, n2, hd2⟩ := id hb
  simp only at hc hd hc2 hd2
  subst hc hd hc2 hd2
  refine wpAny_richCompare_same_room (op := .Eq) ⟨_, c1, rfl⟩ ⟨_, c2, rfl⟩ PySem.F.slot_tuple_eq (GQ.call_here PySem.F.slot_tuple_eq ⟨_, c1, rfl⟩ PySem.F.entry_tuple_eq (PySem.F.args_tuple_eq_2 _ _) ?_) hu
  exact tup_eq (R := wants (fun v s' => v ≠ .notImplemented ∧ Q v s') E) l b us vs n n2 dd dd2 sl sl2 J Fa turn (fun s' q => ⟨(fun x => nomatch x), fin s' q⟩) (fun i s' q => ⟨(fun x => nomatch x), brk i s' q⟩) c1 c2 h
theorem rc_list_ne {l b : Addr} {N : Nat} {Q : Value → Shared → Prop} (hu : A.units < cLine) (J Fa : Nat → Shared → Prop) (g : Goes prog w A E l b N J Fa) (fin : ∀ s, J N s → Q (.bool false) s) (brk : ∀ i s, Fa i s → Q (.bool true) s) (h : J 0 s) : wpAny (model prog w) A (richCompare .NotEq (.ref l) (.ref b)) Q E s := by
  obtain ⟨us, vs, ⟨⟨n, c1⟩, ⟨m, c2⟩, _, _⟩, _⟩ := g.turn _ _ h
  refine wpAny_richCompare_same_room (op := .NotEq) ⟨_, c1, rfl⟩ ⟨_, c2, rfl⟩ PySem.F.slot_list_ne (GQ.call_here PySem.F.slot_list_ne ⟨_, c1, rfl⟩ PySem.F.entry_list_ne (PySem.F.args_list_ne_2 _ _) ?_) hu
  exact list_ne (R := wants (fun v s' => v ≠ .notImplemented ∧ Q v s') E) l b N J Fa g (fun s' q => ⟨(fun x => nomatch x), fin s' q⟩) (fun i s' q => ⟨(fun x => nomatch x), brk i s' q⟩) h
theorem rc_far_ne {l b : Addr} {us vs : Array Value} {n m : Nat} {Q : Value → Shared → Prop} (hu : A.units < cLine) (hz : (us.size != vs.size) = true) (c1 : s.heap.get? l = some { cls := .type "list", data := .seq us n }) (c2 : s.heap.get? b = some { cls := .type "list", data := .seq vs m }) (h : Q (.bool true) s) : wpAny (model prog w) A (richCompare .NotEq (.ref l) (.ref b)) Q E s := by
  refine wpAny_richCompare_same_room (op := .NotEq) ⟨_, c1, rfl⟩ ⟨_, c2, rfl⟩ PySem.F.slot_list_ne (GQ.call_here PySem.F.slot_list_ne ⟨_, c1, rfl⟩ PySem.F.entry_list_ne (PySem.F.args_list_ne_2 _ _) ?_) hu
  exact far_ne (R := wants (fun v s' => v ≠ .notImplemented ∧ Q v s') E) l b us vs n m hz c1 c2 ⟨(fun x => nomatch x), h⟩
theorem rc_tup_ne {l b : Addr} {us vs : Array Value} {Q : Value → Shared → Prop} (hu : A.units < cLine) (J Fa : Nat → Shared → Prop) (hl : s.heap.IsTuple l us) (hb : s.heap.IsTuple b vs)
    (turn : ∀ i (h1 : i < us.size) (h2 : i < vs.size) s, J i s → wpAny (model prog w) A.in1 (eqBool us[i] vs[i]) (fun r s' => if r = true then J (i + 1) s' else Fa i s') E s)
    (fin : ∀ s, J (min us.size vs.size) s → Q (.bool (if us.size = vs.size then false else true)) s) (brk : ∀ i s, Fa i s → Q (.bool true) s) (h : J 0 s) : wpAny (model prog w) A (richCompare .NotEq (.ref l) (.ref b)) Q E s := by
  obtain ⟨⟨cls, dd, data, sl⟩, c1, hc, n, hd⟩ := id hl
  obtain ⟨⟨cls2, dd2, data2, sl2⟩, c2, hc2, n2, hd2⟩ := id hb
  simp only at hc hd hc2 hd2
  subst hc hd hc2 hd2
  refine wpAny_richCompare_same_room (op := .NotEq) ⟨_, c1, rfl⟩ ⟨_, c2, rfl⟩ PySem.F.slot_tuple_ne (GQ.call_here PySem.F.slot_tuple_ne ⟨_, c1, rfl⟩ PySem.F.entry_tuple_ne (PySem.F.args_tuple_ne_2 _ _) ?_) hu
  exact tup_ne (R := wants (fun v s' => v ≠ .notImplemented ∧ Q v s') E) l b us vs n n2 dd dd2 sl sl2 J Fa turn (fun s' q => ⟨(fun x => nomatch x), fin s' q⟩) (fun i s' q => ⟨(fun x => nomatch x), brk i s' q⟩) c1 c2 h
end
end JsQ
namespace L2
open PySem PySem.Spec PyProof.Rows
section
variable {X : Cx} {n m : Nat} {D D' : Tells}
def MonT (D : Tells) : Prop := ∀ x y r H H', Same H H' → D x y r H → D x y r H'
theorem EqT.mono (h : EqT X n D) (hn : n ≤ m) : EqT X m D := fun A pins s σ H x y u v r sb => h A pins s σ H x y u v r (sb.mono hn)
theorem EqT.imp (h : EqT X n D) (hd : ∀ x y r H, D' x y r H → D x y r H) : EqT X n D' := fun A pins s σ H x y u v r sb I rx ry d => h A pins s σ H x y u v r sb I rx ry (hd x y r H d)
theorem EqT.or (h : EqT X n D) (h' : EqT X n D') : EqT X n (fun x y r H => D x y r H ∨ D' x y r H) := fun A pins s σ H x y u v r sb I rx ry d => by
  rcases d with d | d
  · exact h A pins s σ H x y u v r sb I rx ry d
  · exact h' A pins s σ H x y u v r sb I rx ry d
def TFlat : Tells := fun x y r _ => flatV x = true ∧ flatV y = true ∧ eqV x y = r
theorem eqT_flat : EqT X 0 TFlat := by
  intro A pins s σ H x y u v r sb I rx ry d
  obtain ⟨fx, fy, e⟩ := d
  have q := eqAt_V (A := A) (s := s) rx ry fx fy
  rw [e] at q
  exact q X.prog X.w X.xe _ ⟨rfl, H, I, Same.refl H⟩
def PrsT (D : Tells) (xs ys : List V) (bs : List Bool) (H : Hp) : Prop := bs.length = min xs.length ys.length ∧ ∀ (i : Nat) x y b, xs[i]? = some x → ys[i]? = some y → bs[i]? = some b → (bs.take i).all id = true → D x y b H
theorem PrsT.self {xs : List V} {bs : List Bool} {H : Hp} (hS : ∀ x r, D x x r H → r = true) (p : PrsT D xs xs bs H) : bs.all id = true := by
  have go : ∀ n, n ≤ bs.length → (bs.take n).all id = true := by
    intro n
    induction n with
    | zero => intro _; rfl
    | succ n ih =>
      intro hn
      have hi : n < bs.length := hn
      have hx : n < xs.length := by have := p.1; omega
      have al := ih (by omega)
      have e := hS _ _ (p.2 n _ _ _ (List.getElem?_eq_getElem hx) (List.getElem?_eq_getElem hx) (List.getElem?_eq_getElem hi) al)
      rw [List.take_succ_eq_append_getElem hi, List.all_append, al, e]
      rfl
  have := go bs.length (Nat.le_refl _)
  rwa [List.take_length] at this
def tells (xs ys : List V) (bs : List Bool) : Bool := decide (xs.length = ys.length) && bs.all id
def TList (D : Tells) : Tells := fun x y r H => ∃ a b xs ys bs, x = .ref a ∧ y = .ref b ∧ H a = some (.lst xs) ∧ H b = some (.lst ys) ∧ PrsT D xs ys bs H ∧ r = tells xs ys bs
def TTup (K : PySem.W.Frag) (D : Tells) : Tells := fun x y r H => ∃ a b xs ys bs, x = .ref a ∧ y = .ref b ∧ SqT K H a xs ∧ SqT K H b ys ∧ PrsT D xs ys bs H ∧ r = tells xs ys bs
def JT (X : Cx) (pins : List (Addr × Obj)) (σ : St) (H : Hp) (bs : List Bool) (i : Nat) (s' : Shared) : Prop := (∃ H', Inv X pins σ H' s' ∧ Same H H') ∧ (bs.take i).all id = true
def FT (X : Cx) (pins : List (Addr × Obj)) (σ : St) (H : Hp) (bs : List Bool) (i : Nat) (s' : Shared) : Prop := (∃ H', Inv X pins σ H' s' ∧ Same H H') ∧ bs.all id = false
theorem turnT (hD : MonT D) (h : EqT X n D) {A : Around} (sb : Sub X (n + 1) A) {pins : List (Addr × Obj)} {σ : St} {H : Hp} {xs ys : List V} {bs : List Bool} {us vs : List Value} (p : PrsT D xs ys bs H) (r : Vals xs us) (r2 : Vals ys vs)
    (i : Nat) (h1 : i < us.toArray.size) (h2 : i < vs.toArray.size) (s' : Shared) (l : JT X pins σ H bs i s') :
    wpAny (model X.prog X.w) A.in1 (eqBool us.toArray[i] vs.toArray[i]) (fun r s2 => if r = true then JT X pins σ H bs (i + 1) s2 else FT X pins σ H bs i s2) X.xe s' := by
  obtain ⟨⟨H1, I1, e1⟩, al⟩ := l
  have l1 : i < us.length := by simpa using h1
  have l2 : i < vs.length := by simpa using h2
  have g1 : us[i]? = some us.toArray[i] := by rw [List.getElem?_eq_getElem l1] <;> simp
  have g2 : vs[i]? = some vs.toArray[i] := by rw [List.getElem?_eq_getElem l2] <;> simp
  have k1 : i < xs.length := by rw [r.length]; exact l1
  have k2 : i < ys.length := by rw [r2.length]; exact l2
  have k3 : i < bs.length := by have := p.1; omega
  obtain ⟨u, hu, ru⟩ := r.get (List.getElem?_eq_getElem k1)
  obtain ⟨v, hv, rv⟩ := r2.get (List.getElem?_eq_getElem k2)
  rw [g1] at hu
  rw [g2] at hv
  rw [Option.some.inj hu, Option.some.inj hv]
  refine wpAny_mono (h A.in1 pins s' σ H1 _ _ u v _ sb.in1 I1 ru rv (hD _ _ _ _ _ e1 (p.2 i _ _ _ (List.getElem?_eq_getElem k1) (List.getElem?_eq_getElem k2) (List.getElem?_eq_getElem k3) al))) (fun q s2 z => ?_) fun _ _ x => x
  obtain ⟨rfl, H2, I2, e2⟩ := z
  cases hb : bs[i] with
  | true =>
    rw [if_pos rfl]
    refine ⟨⟨H2, I2, e1.trans e2⟩, ?_⟩
    rw [List.take_succ_eq_append_getElem k3, List.all_append, al, hb]
    rfl
  | false =>
    rw [if_neg Bool.false_ne_true]
    refine ⟨⟨H2, I2, e1.trans e2⟩, ?_⟩
    rw [List.all_eq_false]
    exact ⟨bs[i], List.getElem_mem k3, by rw [hb]; decide⟩
def RcT (X : Cx) (op : CmpOp) (f : Bool → Bool) (n : Nat) (D : Tells) : Prop :=
  ∀ (A : Around) (pins : List (Addr × Obj)) (s : Shared) (σ : St) (H : Hp) (x y : V) (u v : Value) (r : Bool), Sub X n A → Inv X pins σ H s → RelV x u → RelV y v → D x y r H →
    wpAny (model X.prog X.w) A (richCompare op u v) (fun z s' => z = .bool (f r) ∧ ∃ H', Inv X pins σ H' s' ∧ Same H H') X.xe s
theorem rcT_list_eq (hD : MonT D) (h : EqT X n D) : RcT X .Eq id (n + 1) (TList D) := by
  intro A pins s σ H x y u v r sb I rx ry d
  obtain ⟨a, b, xs, ys, bs, rfl, rfl, ha, hb, p, rfl⟩ := d
  cases rx
  cases ry
  by_cases hl : xs.length = ys.length
  · have el : bs.length = xs.length := by have := p.1; omega
    refine JsQ.rc_list_eq (N := xs.length) sb.room.units0 (JT X pins σ H bs) (FT X pins σ H bs) ⟨fun i s' q => ?_, fun i s' q => ?_⟩ (fun s' q => ⟨?_, q.1⟩) (fun i s' q => ⟨?_, q.1⟩) ⟨⟨H, I, Same.refl H⟩, by simp⟩
    · obtain ⟨H1, I1, e1⟩ := q.1
      obtain ⟨z, us, k, r1, e⟩ := I1.hok a _ (e1 _ _ ha)
      obtain ⟨z2, vs, k2, r2, e2⟩ := I1.hok b _ (e1 _ _ hb)
      exact ⟨us.toArray, vs.toArray, ⟨⟨k, e⟩, ⟨k2, e2⟩, by rw [List.size_toArray, ← r1.length], by rw [List.size_toArray, ← r2.length, ← hl]⟩, fun h1 h2 => turnT hD h sb p r1 r2 i h1 h2 s' q⟩
    · obtain ⟨H1, I1, e1⟩ := q.1
      obtain ⟨z, us, k, r1, e⟩ := I1.hok a _ (e1 _ _ ha)
      obtain ⟨z2, vs, k2, r2, e2⟩ := I1.hok b _ (e1 _ _ hb)
      exact ⟨us.toArray, vs.toArray, ⟨k, e⟩, ⟨k2, e2⟩, by rw [List.size_toArray, ← r1.length], by rw [List.size_toArray, ← r2.length, ← hl]⟩
    · have q2 := q.2
      rw [← el, List.take_length] at q2
      rw [tells, q2, decide_eq_true hl]
      rfl
    · rw [tells, q.2, decide_eq_true hl]
      rfl
  · obtain ⟨z, us, k, r1, e⟩ := I.hok a _ ha
    obtain ⟨z2, vs, k2, r2, e2⟩ := I.hok b _ hb
    refine JsQ.rc_far_eq sb.room.units0 ?_ e e2 ⟨?_, H, I, Same.refl H⟩
    · rw [List.size_toArray, List.size_toArray, ← r1.length, ← r2.length]
      simpa using hl
    · rw [tells, decide_eq_false hl]
      rfl
theorem rcT_tup_eq (hD : MonT D) (h : EqT X n D) : RcT X .Eq id (n + 1) (TTup X.K D) := by
  intro A pins s σ H x y u v r sb I rx ry d
  obtain ⟨a, b, xs, ys, bs, rfl, rfl, ha, hb, p, rfl⟩ := d
  cases rx
  cases ry
  obtain ⟨us, r1, e, z⟩ := I.tuple ha
  obtain ⟨vs, r2, e2, z2⟩ := I.tuple hb
  have lu : us.toArray.size = xs.length := by rw [List.size_toArray, ← r1.length]
  have lv : vs.toArray.size = ys.length := by rw [List.size_toArray, ← r2.length]
  refine JsQ.rc_tup_eq sb.room.units0 (JT X pins σ H bs) (FT X pins σ H bs) e e2 (fun i h1 h2 s' q => turnT hD h sb p r1 r2 i h1 h2 s' q) (fun s' q => ⟨?_, q.1⟩) (fun i s' q => ⟨?_, q.1⟩) ⟨⟨H, I, Same.refl H⟩, by simp⟩
  · have q2 := q.2
    rw [lu, lv, ← p.1, List.take_length] at q2
    rw [lu, lv, tells, q2]
    by_cases hl : xs.length = ys.length
    · rw [if_pos hl, decide_eq_true hl]
      rfl
    · rw [if_neg hl, decide_eq_false hl]
      rfl
  · rw [tells, q.2, Bool.and_false]
    rfl
theorem rcT_list_ne (hD : MonT D) (h : EqT X n D) : RcT X .NotEq not (n + 1) (TList D) := by
  intro A pins s σ H x y u v r sb I rx ry d
  obtain ⟨a, b, xs, ys, bs, rfl, rfl, ha, hb, p, rfl⟩ := d
  cases rx
  cases ry
  by_cases hl : xs.length = ys.length
  · have el : bs.length = xs.length := by have := p.1; omega
    refine JsQ.rc_list_ne (N := xs.length) sb.room.units0 (JT X pins σ H bs) (FT X pins σ H bs) ⟨fun i s' q => ?_, fun i s' q => ?_⟩ (fun s' q => ⟨?_, q.1⟩) (fun i s' q => ⟨?_, q.1⟩) ⟨⟨H, I, Same.refl H⟩, by simp⟩
    · obtain ⟨H1, I1, e1⟩ := q.1
      obtain ⟨z, us, k, r1, e⟩ := I1.hok a _ (e1 _ _ ha)
      obtain ⟨z2, vs, k2, r2, e2⟩ := I1.hok b _ (e1 _ _ hb)
      exact ⟨us.toArray, vs.toArray, ⟨⟨k, e⟩, ⟨k2, e2⟩, by rw [List.size_toArray, ← r1.length], by rw [List.size_toArray, ← r2.length, ← hl]⟩, fun h1 h2 => turnT hD h sb p r1 r2 i h1 h2 s' q⟩
    · obtain ⟨H1, I1, e1⟩ := q.1
      obtain ⟨z, us, k, r1, e⟩ := I1.hok a _ (e1 _ _ ha)
      obtain ⟨z2, vs, k2, r2, e2⟩ := I1.hok b _ (e1 _ _ hb)
      exact ⟨us.toArray, vs.toArray, ⟨k, e⟩, ⟨k2, e2⟩, by rw [List.size_toArray, ← r1.length], by rw [List.size_toArray, ← r2.length, ← hl]⟩
    · have q2 := q.2
      rw [← el, List.take_length] at q2
      rw [tells, q2, decide_eq_true hl]
      rfl
    · rw [tells, q.2, decide_eq_true hl]
      rfl
  · obtain ⟨z, us, k, r1, e⟩ := I.hok a _ ha
    obtain ⟨z2, vs, k2, r2, e2⟩ := I.hok b _ hb
    refine JsQ.rc_far_ne sb.room.units0 ?_ e e2 ⟨?_, H, I, Same.refl H⟩
    · rw [List.size_toArray, List.size_toArray, ← r1.length, ← r2.length]
      simpa using hl
    · rw [tells, decide_eq_false hl]
      rfl
theorem rcT_tup_ne (hD : MonT D) (h : EqT X n D) : RcT X .NotEq not (n + 1) (TTup X.K D) := by
  intro A pins s σ H x y u v r sb I rx ry d
  obtain ⟨a, b, xs, ys, bs, rfl, rfl, ha, hb, p, rfl⟩ := d
  cases rx
  cases ry
  obtain ⟨us, r1, e, z⟩ := I.tuple ha
  obtain ⟨vs, r2, e2, z2⟩ := I.tuple hb
  have lu : us.toArray.size = xs.length := by rw [List.size_toArray, ← r1.length]
  have lv : vs.toArray.size = ys.length := by rw [List.size_toArray, ← r2.length]
  refine JsQ.rc_tup_ne sb.room.units0 (JT X pins σ H bs) (FT X pins σ H bs) e e2 (fun i h1 h2 s' q => turnT hD h sb p r1 r2 i h1 h2 s' q) (fun s' q => ⟨?_, q.1⟩) (fun i s' q => ⟨?_, q.1⟩) ⟨⟨H, I, Same.refl H⟩, by simp⟩
  · have q2 := q.2
    rw [lu, lv, ← p.1, List.take_length] at q2
    rw [lu, lv, tells, q2]
    by_cases hl : xs.length = ys.length
    · rw [if_pos hl, decide_eq_true hl]
      rfl
    · rw [if_neg hl, decide_eq_false hl]
      rfl
  · rw [tells, q.2, Bool.and_false]
    rfl
theorem RcT.eqT (h : RcT X .Eq id n D) (hr : ∀ x y r H, D x y r H → ∃ a b, x = .ref a ∧ y = .ref b) (hS : ∀ (pins : List (Addr × Obj)) (s : Shared) (σ : St) (H : Hp) x r, Inv X pins σ H s → D x x r H → r = true) : EqT X n D := by
  intro A pins s σ H x y u v r sb I rx ry d
  obtain ⟨a, b, rfl, rfl⟩ := hr _ _ _ _ d
  cases rx
  cases ry
  by_cases hab : a = b
  · subst hab
    rw [hS _ _ _ _ _ _ I d]
    exact SeqAt.EqAt.same (A := A) (s := s) (.ref a) X.prog X.w X.xe _ ⟨rfl, H, I, Same.refl H⟩
  · refine GQ.eqBool_refG hab (wpAny_mono (h A pins s σ H (.ref a) (.ref b) _ _ _ sb I rfl rfl d) (fun z s' q => ?_) fun _ _ x => x)
    obtain ⟨hz, q⟩ := q
    exact ⟨r, hz, rfl, q⟩
def rCmpT (D : Tells) (f : Bool → Bool) : R2 := fun x y H Q => ∃ r, D x y r H ∧ ∀ H', Same H H' → Q (.bl (f r)) H'
theorem op_eqTl (h : RcT X .Eq id n D) (hr : Room n X.A) : OpR X (compareOp .Eq) (rCmpT D id) := by
  intro pins s σ H x y v u Q I rx ry hq
  obtain ⟨r, d, q⟩ := hq
  show wpAny (model X.prog X.w) X.A (richCompare .Eq v u) (EP X pins σ Q) X.xe s
  refine wpAny_mono (h X.A pins s σ H x y v u r ⟨hr, rfl⟩ I rx ry d) (fun z s' q1 => ?_) fun _ _ x => x
  obtain ⟨rfl, H', I', e⟩ := q1
  exact ⟨.bl _, H', I', rfl, q H' e⟩
theorem op_neTl (h : RcT X .NotEq not n D) (hr : Room n X.A) : OpR X (compareOp .NotEq) (rCmpT D not) := by
  intro pins s σ H x y v u Q I rx ry hq
  obtain ⟨r, d, q⟩ := hq
  show wpAny (model X.prog X.w) X.A (richCompare .NotEq v u) (EP X pins σ Q) X.xe s
  refine wpAny_mono (h X.A pins s σ H x y v u r ⟨hr, rfl⟩ I rx ry d) (fun z s' q1 => ?_) fun _ _ x => x
  obtain ⟨rfl, H', I', e⟩ := q1
  exact ⟨.bl _, H', I', rfl, q H' e⟩
end
end L2
set_option Elab.async false
set_option linter.all false
set_option maxRecDepth 100000
set_option maxHeartbeats 2000000
namespace Js
open PySem L2
inductive Dd where
  | told (a : Nat) (t : Tr)
  | take (s : Bool) (a b : Nat)
  | two (s : Bool) (a b c : Nat)
  | wh (a : Nat) (r : List Dd)
  | iff (a : Nat) (r o : List Dd)
def takeS : Bool → Str
  | false => "first"
  | true => "second"
def twoS : Bool → Str
  | false => "pair"
  | true => "same"
mutual
def Dd.flat : Dd → List Dd
  | .told a t => [.told a t]
  | .take s a b => [.take s a b]
  | .two s a b c => [.two s a b c]
  | .wh a r => .wh a r :: flatR r
  | .iff a r o => .iff a r o :: (flatR r ++ flatR o)
def flatR : List Dd → List Dd
  | [] => []
  | d :: r => d.flat ++ flatR r
end
def Dd.many (d : Dd) : Nat := d.flat.length
def manyR (r : List Dd) : Nat := (flatR r).length
mutual
def Dd.deep : Dd → Nat
  | .told _ _ => 0
  | .take _ _ _ => 0
  | .two _ _ _ _ => 0
  | .wh _ r => deepR r + 1
  | .iff _ r o => max (deepR r) (deepR o) + 1
def deepR : List Dd → Nat
  | [] => 0
  | d :: r => max d.deep (deepR r)
end
theorem many_nil : manyR [] = 0 := rfl
theorem many_cons (d : Dd) (r : List Dd) : manyR (d :: r) = d.many + manyR r := by
  rw [manyR, flatR, List.length_append]
  rfl
theorem many_wh (a : Nat) (r : List Dd) : (Dd.wh a r).many = manyR r + 1 := by
  rw [Dd.many, Dd.flat, List.length_cons]
  rfl
theorem many_iff (a : Nat) (r o : List Dd) : (Dd.iff a r o).many = manyR r + manyR o + 1 := by
  rw [Dd.many, Dd.flat, List.length_cons, List.length_append]
  rfl
theorem many_told (a : Nat) (t : Tr) : (Dd.told a t).many = 1 := rfl
theorem many_take (s : Bool) (a b : Nat) : (Dd.take s a b).many = 1 := rfl
theorem many_two (s : Bool) (a b c : Nat) : (Dd.two s a b c).many = 1 := rfl
theorem many_pos : ∀ d : Dd, 0 < d.many
  | .told _ _ => Nat.zero_lt_one
  | .take _ _ _ => Nat.zero_lt_one
  | .two _ _ _ _ => Nat.zero_lt_one
  | .wh a r => by rw [many_wh]; omega
  | .iff a r o => by rw [many_iff]; omega
def Dd.rows : Dd → List (List Dd)
  | .wh _ r => [r]
  | .iff _ r o => [r, o]
  | _ => []
mutual
def Dd.ends : Dd → Nat → List Nat
  | .told _ _, n => [n + 1]
  | .take _ _ _, n => [n + 1]
  | .two _ _ _ _, n => [n + 1]
  | .wh _ r, n => (n + 1 + manyR r) :: endsR r (n + 1)
  | .iff _ r o, n => (n + 1 + manyR r + manyR o) :: (endsR r (n + 1) ++ endsR o (n + 1 + manyR r))
def endsR : List Dd → Nat → List Nat
  | [], _ => []
  | d :: r, n => d.ends n ++ endsR r (n + d.many)
end
mutual
def Dd.lay : Dd → Nat → Nat → List (Dd × List Nat)
  | .told a t, f, _ => [(.told a t, [f])]
  | .take s a b, f, _ => [(.take s a b, [f])]
  | .two s a b c, f, _ => [(.two s a b c, [f])]
  | .wh a r, f, n => (.wh a r, [if r.isEmpty then n else n + 1, f]) :: layR r n (n + 1)
  | .iff a r o, f, n => (.iff a r o, [if r.isEmpty then f else n + 1, if o.isEmpty then f else n + 1 + manyR r]) :: (layR r f (n + 1) ++ layR o f (n + 1 + manyR r))
def layR : List Dd → Nat → Nat → List (Dd × List Nat)
  | [], _, _ => []
  | d :: r, f, n => d.lay (if r.isEmpty then f else n + d.many) n ++ layR r f (n + d.many)
end
mutual
theorem ends_len : ∀ (d : Dd) (n : Nat), (d.ends n).length = d.many
  | .told _ _, _ => rfl
  | .take _ _ _, _ => rfl
  | .two _ _ _ _, _ => rfl
  | .wh a r, n => by rw [Dd.ends, List.length_cons, endsR_len r, many_wh]
  | .iff a r o, n => by rw [Dd.ends, List.length_cons, List.length_append, endsR_len r, endsR_len o, many_iff]
theorem endsR_len : ∀ (r : List Dd) (n : Nat), (endsR r n).length = manyR r
  | [], _ => rfl
  | d :: r, n => by rw [endsR, List.length_append, ends_len d, endsR_len r, many_cons]
end
mutual
theorem lay_len : ∀ (d : Dd) (f n : Nat), (d.lay f n).length = d.many
  | .told _ _, _, _ => rfl
  | .take _ _ _, _, _ => rfl
  | .two _ _ _ _, _, _ => rfl
  | .wh a r, f, n => by rw [Dd.lay, List.length_cons, layR_len r, many_wh]
  | .iff a r o, f, n => by rw [Dd.lay, List.length_cons, List.length_append, layR_len r, layR_len o, many_iff]
theorem layR_len : ∀ (r : List Dd) (f n : Nat), (layR r f n).length = manyR r
  | [], _, _ => rfl
  | d :: r, f, n => by rw [layR, List.length_append, lay_len d, layR_len r, many_cons]
end
mutual
def DAt (K : PySem.W.Frag) (C : Addr) (H : Hp) : V → Dd → Prop
  | v, .told a t => ∃ p x, v = .ref p ∧ SqT K H p [.str "told", .int (a : Nat), .ref x] ∧ a < 10 ∧ Th C H x t ∧ t.size ≤ 4000
  | v, .take s a b => ∃ p, v = .ref p ∧ SqT K H p [.str (takeS s), .int (a : Nat), .int (b : Nat)] ∧ a < 10 ∧ b < 10
  | v, .two s a b c => ∃ p, v = .ref p ∧ SqT K H p [.str (twoS s), .int (a : Nat), .int (b : Nat), .int (c : Nat)] ∧ a < 10 ∧ b < 10 ∧ c < 10
  | v, .wh a r => ∃ p q vs, v = .ref p ∧ SqT K H p [.str "while", .int (a : Nat), .ref q] ∧ a < 10 ∧ SqT K H q vs ∧ DsAt K C H vs r
  | v, .iff a r o => ∃ p q vs q2 vs2, v = .ref p ∧ SqT K H p [.str "if", .int (a : Nat), .ref q, .ref q2] ∧ a < 10 ∧ SqT K H q vs ∧ DsAt K C H vs r ∧ SqT K H q2 vs2 ∧ DsAt K C H vs2 o
def DsAt (K : PySem.W.Frag) (C : Addr) (H : Hp) : List V → List Dd → Prop
  | vs, [] => vs = []
  | vs, d :: r => ∃ v us, vs = v :: us ∧ DAt K C H v d ∧ DsAt K C H us r
end
def RAt (K : PySem.W.Frag) (C : Addr) (H : Hp) (q : Addr) (r : List Dd) : Prop := ∃ vs, SqT K H q vs ∧ DsAt K C H vs r
theorem sqt_kt {K : PySem.W.Frag} {H H' : Hp} (k : KT H H') {a : Addr} {xs : List V} (h : SqT K H a xs) : SqT K H' a xs :=
  h.elim (fun h => .inl (h.elim (fun h => .inl (k _ _ h (fun _ e => nomatch e))) fun ⟨o, h⟩ => .inr ⟨o, k _ _ h (fun _ e => nomatch e)⟩)) fun h => .inr h
mutual
theorem DAt_kt {K : PySem.W.Frag} {C : Addr} {H H' : Hp} (k : KT H H') : ∀ (d : Dd) (v : V), DAt K C H v d → DAt K C H' v d
  | .told a t, v, h => by
    obtain ⟨p, x, e, h1, h2, h3, h4⟩ := h
    exact ⟨p, x, e, sqt_kt k h1, h2, h3.kt k, h4⟩
  | .take s a b, v, h => by
    obtain ⟨p, e, h1, h2⟩ := h
    exact ⟨p, e, sqt_kt k h1, h2⟩
  | .two s a b c, v, h => by
    obtain ⟨p, e, h1, h2⟩ := h
    exact ⟨p, e, sqt_kt k h1, h2⟩
  | .wh a r, v, h => by
    obtain ⟨p, q, vs, e, h1, h2, h3, h4⟩ := h
    exact ⟨p, q, vs, e, sqt_kt k h1, h2, sqt_kt k h3, DsAt_kt k r vs h4⟩
  | .iff a r o, v, h => by
    obtain ⟨p, q, vs, q2, vs2, e, h1, h2, h3, h4, h5, h6⟩ := h
    exact ⟨p, q, vs, q2, vs2, e, sqt_kt k h1, h2, sqt_kt k h3, DsAt_kt k r vs h4, sqt_kt k h5, DsAt_kt k o vs2 h6⟩
theorem DsAt_kt {K : PySem.W.Frag} {C : Addr} {H H' : Hp} (k : KT H H') : ∀ (r : List Dd) (vs : List V), DsAt K C H vs r → DsAt K C H' vs r
  | [], vs, h => h
  | d :: r, vs, h => by
    obtain ⟨v, us, e, h1, h2⟩ := h
    exact ⟨v, us, e, DAt_kt k d v h1, DsAt_kt k r us h2⟩
end
theorem RAt.kt {K : PySem.W.Frag} {C : Addr} {H H' : Hp} (k : KT H H') {q : Addr} {r : List Dd} (h : RAt K C H q r) : RAt K C H' q r := by
  obtain ⟨vs, h1, h2⟩ := h
  exact ⟨vs, sqt_kt k h1, DsAt_kt k r vs h2⟩
theorem RAt.same {K : PySem.W.Frag} {C : Addr} {H H' : Hp} (s : Same H H') {q : Addr} {r : List Dd} (h : RAt K C H q r) : RAt K C H' q r := h.kt (KT.of s)
theorem DsAt.length {K : PySem.W.Frag} {C : Addr} {H : Hp} : ∀ (r : List Dd) (vs : List V), DsAt K C H vs r → vs.length = r.length
  | [], vs, h => by
    have e : vs = [] := h
    rw [e]
    rfl
  | d :: r, vs, h => by
    obtain ⟨v, us, e, h1, h2⟩ := h
    rw [e, List.length_cons, List.length_cons, DsAt.length r us h2]
theorem DsAt.get {K : PySem.W.Frag} {C : Addr} {H : Hp} : ∀ (r : List Dd) (vs : List V) (i : Nat) (v : V), DsAt K C H vs r → vs[i]? = some v → ∃ d, r[i]? = some d ∧ DAt K C H v d
  | [], vs, i, v, h, e => by
    have e' : vs = [] := h
    rw [e'] at e
    cases e
  | d :: r, vs, i, v, h, e => by
    obtain ⟨w, us, e', h1, h2⟩ := h
    rw [e'] at e
    cases i with
    | zero =>
      cases Option.some.inj e
      exact ⟨d, rfl, h1⟩
    | succ i =>
      obtain ⟨d', g1, g2⟩ := DsAt.get r us i v h2 e
      exact ⟨d', g1, g2⟩
theorem sqt_ty {K : PySem.W.Frag} {H : Hp} {a : Addr} {xs : List V} (h : SqT K H a xs) : TyX K H (.ref a) (.type "tuple") := by
  rcases h with (h | ⟨o, h⟩) | ⟨o, its, n, h, c, _⟩
  · exact .base (.tup h)
  · exact .fTuple h
  · exact .kTuple h c
end Js
set_option Elab.async false
set_option linter.all false
set_option maxRecDepth 100000
set_option maxHeartbeats 2000000
namespace JsZ
open PySem PySem.Spec PyProof.Rows L2
abbrev zs1 (h : Heap) (l : Addr) : Heap := h.push { cls := .type "tuple_iterator", data := .fields #[.ref l, .int 0 0] }
abbrev zs2 (h : Heap) (l : Addr) (x : Str) (t : Tok) : Heap := (zs1 h l).push { cls := .type (strIterType x), data := .fields #[.str x t, .int 0 0] }
abbrev zs3 (h : Heap) (l : Addr) (x : Str) (t : Tok) : Heap := (zs2 h l x t).push { cls := .type "tuple", data := .seq #[.ref h.objs.size, .ref (zs1 h l).objs.size] }
abbrev zs4 (h : Heap) (l : Addr) (x : Str) (t : Tok) : Heap := (zs3 h l x t).push { cls := .type "tuple", data := .seq #[.none, .none] }
abbrev zs5 (h : Heap) (l : Addr) (x : Str) (t : Tok) : Heap := (zs4 h l x t).push { cls := .type "zip", data := .fields #[.none, .bool false, .bool false, .ref (zs2 h l x t).objs.size, .ref (zs3 h l x t).objs.size] }
theorem new_zipTS (l : Addr) (x : Str) (t : Tok) (us : Array Value) :
    Meets (Builtin.«zip.__new__» ⟨[.type "zip", .ref l, .str x t], []⟩) (fun _ R s => s.heap.IsTuple l us ∧ R (.ok (.ret (.ref (zs4 s.heap l x t).objs.size))) { s with heap := zs5 s.heap l x t }) :=
  .of_wp fun prog w A R s h => by
    obtain ⟨hp, g, d, tk, os⟩ := s; obtain ⟨h1, h⟩ := h
    have hsub := sub_zip
    have hL : Heap.IsTuple (Shared.heap ⟨hp, g, d, tk, os⟩) l us := h1
    wp_walk using wpAny_pyIter_tuple hL, wpAny_pyIter_strU
    exact ⟨_, rfl, h⟩
section
variable {prog : Program} {w : World} {A : Around} {E : Value → Shared → Prop} {s : Shared}
theorem call_zipTS {l : Addr} {x : Str} {t : Tok} {us : Array Value} {Q : Value → Shared → Prop} (hl : s.heap.IsTuple l us)
    (h : ∀ h', IsZip h' (s.heap.objs.size + 4) (s.heap.objs.size + 2) (s.heap.objs.size + 3) .none → IsPair h' (s.heap.objs.size + 2) (.ref s.heap.objs.size) (.ref (s.heap.objs.size + 1)) →
      IsPair h' (s.heap.objs.size + 3) .none .none → h'.IsTupleIter s.heap.objs.size l 0 → h'.IsStrIter (s.heap.objs.size + 1) (strIterType x) x t 0 → h'.objs.size = s.heap.objs.size + 5 →
      (∀ c o, s.heap.get? c = some o → h'.get? c = some o) → Q (.ref (s.heap.objs.size + 4)) { s with heap := h' }) :
    wpAny (model prog w) A (call (.type "zip") [.ref l, .str x t]) Q E s := by
  refine callType_new F.called_zip (by decide) (F.typeCall_zip_2 _ _) (F.newCall_zip_2 _ _) (fun obj => F.args_object_init_3 obj _ _) F.entry_zip_new (new_zipTS l x t us) ⟨hl, ?_⟩
  have z1 : (zs1 s.heap l).objs.size = s.heap.objs.size + 1 := Heap.size_push ..
  have z2 : (zs2 s.heap l x t).objs.size = s.heap.objs.size + 2 := by rw [Heap.size_push, z1]
  have z3 : (zs3 s.heap l x t).objs.size = s.heap.objs.size + 3 := by rw [Heap.size_push, z2]
  have z4 : (zs4 s.heap l x t).objs.size = s.heap.objs.size + 4 := by rw [Heap.size_push, z3]
  have z5 : (zs5 s.heap l x t).objs.size = s.heap.objs.size + 5 := by rw [Heap.size_push, z4]
  have g5 : (zs5 s.heap l x t).get? (zs4 s.heap l x t).objs.size = some _ := Heap.get?_push_size _ rfl
  have g4 : (zs5 s.heap l x t).get? (zs3 s.heap l x t).objs.size = some _ := Heap.get?_push_of_some _ (Heap.get?_push_size _ rfl)
  have g3 : (zs5 s.heap l x t).get? (zs2 s.heap l x t).objs.size = some _ := Heap.get?_push_of_some _ (Heap.get?_push_of_some _ (Heap.get?_push_size _ rfl))
  have g2 : (zs5 s.heap l x t).get? (zs1 s.heap l).objs.size = some _ := Heap.get?_push_of_some _ (Heap.get?_push_of_some _ (Heap.get?_push_of_some _ (Heap.get?_push_size _ rfl)))
  have g1 : (zs5 s.heap l x t).get? s.heap.objs.size = some _ := Heap.get?_push_of_some _ (Heap.get?_push_of_some _ (Heap.get?_push_of_some _ (Heap.get?_push_of_some _ (Heap.get?_push_size _ rfl))))
  show _ ∧ _
  rw [z2, z3, z4] at g5
  rw [z1, z2] at g3
  rw [z3] at g4
  rw [z1] at g2
  rw [z4]
  exact ⟨⟨_, g5, rfl⟩, h _ g5 g3 g4 ⟨_, g1, rfl, rfl⟩ ⟨_, g2, rfl, rfl⟩ z5 fun c o q => Heap.get?_push_of_some _ (Heap.get?_push_of_some _ (Heap.get?_push_of_some _ (Heap.get?_push_of_some _ (Heap.get?_push_of_some _ q))))⟩
end
def ItTS (K : PySem.W.Frag) (a : Addr) (t : Str) : It :=
  ⟨fun i H => ∃ (xs : List V) (x : V) (c : Nat), SqT K H a xs ∧ xs[i]? = some x ∧ t.cps[i]? = some c,
    fun i H v H' => ∃ T x c, v = .ref T ∧ H T = none ∧ H' = upd H T (.tup [x, .str ⟨#[c]⟩]) ∧ (∀ xs, SqT K H a xs → xs[i]? = some x) ∧ t.cps[i]? = some c,
    fun i H => ∃ xs : List V, SqT K H a xs ∧ i ≤ xs.length ∧ i ≤ t.cps.size ∧ (i = xs.length ∨ i = t.cps.size)⟩
theorem turn_TS {P : Program} {w : World} {K : PySem.W.Frag} {elts : List Expr} {kk : Nat} {tpos : Pos} {a z TI TO i1 i2 : Addr} (t : Str) (tk : Tok) (D : ZipSep2 z TI TO i1 i2 [i1, a] [i2]) (ha : a ≠ i1) :
    Turn P w K (.Tuple elts kk tpos) (ItTS K a t) [z, TI, TO, i1, i2] z (fun i h => IsZip h z TI TO .none ∧ IsPair h TI (.ref i1) (.ref i2) ∧ (∃ x y, IsPair h TO x y) ∧ h.IsTupleIter i1 a i ∧ h.IsStrIter i2 (strIterType t) t tk i) where
  mem := by simp
  obj := fun i h st c hc => by
    obtain ⟨hz, hTI, ⟨x, y, hTO⟩, ⟨o1, e1, _, d1⟩, ⟨o2, e2, _, d2⟩⟩ := st
    have e' : c = z ∨ c = TI ∨ c = TO ∨ c = i1 ∨ c = i2 := by simpa using hc
    rcases e' with q | q | q | q | q
    · rw [q]; exact ⟨_, hz, fun v q => nomatch q⟩
    · rw [q]; exact ⟨_, hTI, fun v q => nomatch q⟩
    · rw [q]; exact ⟨_, hTO, fun v q => nomatch q⟩
    · rw [q]; exact ⟨o1, e1, fun v q => by rw [d1] at q; cases q⟩
    · rw [q]; exact ⟨o2, e2, fun v q => by rw [d2] at q; cases q⟩
  keep := fun i h h' st k => by
    obtain ⟨hz, hTI, ⟨x, y, hTO⟩, h1, ⟨o, ho, r⟩⟩ := st
    exact ⟨k z (by simp) _ hz, k TI (by simp) _ hTI, ⟨x, y, k TO (by simp) _ hTO⟩, h1.at fun o q => k i1 (by simp) o q, ⟨o, k i2 (by simp) o ho, r⟩⟩
  item := by
    intro X hP hw hK hc i pins s σ H E I hf st hg
    subst hP hw hK
    obtain ⟨hz, hTI, ⟨x0, y0, hTO⟩, h1, h2⟩ := st
    obtain ⟨xs, x, c, hqx, hx, hcx⟩ := hg
    obtain ⟨us, rv, p, _⟩ := I.tuple hqx
    obtain ⟨u, hu, ru⟩ := rv.get hx
    have hzl : z < s.heap.objs.size := Heap.lt_size hz
    have hh : X.A.in1.handled = none := I.ok.hd hc
    have li : i < us.toArray.size := by
      have := (List.getElem?_eq_some_iff.mp hu).1
      simpa using this
    have lc : i < t.cps.size := (Array.getElem?_eq_some_iff.mp hcx).1
    refine wpAny_pyNext_zipD2_item D (Draws.tuple hh i1 a ha us.toArray) (Draws.text hh i2 t tk) hz hTI hTO ⟨h1, p⟩ h2 li lc fun v1 v2 h' tk' q1 q2 z' TO' s1' s2' hT hsz hk => ?_
    obtain ⟨c', tu, hc', rfl⟩ := q2
    have ev : v1 = u := by
      have : us.toArray[i]? = some u := by simpa using hu
      exact Option.some.inj (q1.symm.trans this)
    subst ev
    cases Option.some.inj (hc'.symm.trans hcx)
    refine ⟨_, rfl, wpAny_letOwnedTupleGo_zip (s := { s with heap := h', toks := tk' }) z' fun h'' z'' sb => ?_⟩
    have hT2 : h''.get? s.heap.objs.size = some { cls := .type "tuple", data := .seq #[v1, .str ⟨#[c]⟩ tu] } := (sb.2 _ (Nat.ne_of_gt hzl)).trans hT
    have new : ObjOk X.prog X.w (upd H s.heap.objs.size (.tup [x, .str ⟨#[c]⟩])) h'' s.heap.objs.size (.tup [x, .str ⟨#[c]⟩]) := ⟨by show 2 ≤ sizeLine; decide, [v1, .str ⟨#[c]⟩ tu], .cons ru (.cons ⟨_, rfl⟩ .nil), ⟨_, hT2, rfl, _, rfl⟩⟩
    have I1 : Inv X pins σ (upd H s.heap.objs.size (.tup [x, .str ⟨#[c]⟩])) { s with heap := h'', toks := tk' } :=
      I.turnedNew (ch := [z, TI, TO, i1, i2]) (fun c o hb q => (sb.2 c (fun q' => hb (by simp [q']))).trans (hk c o (fun q' => hb (by simp [q'])) (fun q' => hb (by simp [q'])) (fun q' => hb (by simp [q'])) (fun q' => hb (by simp [q'])) q)) hf (Nat.le_refl _) new
    refine ⟨.ref s.heap.objs.size, _, I1, rfl, ⟨_, x, c, rfl, I.hok.fresh (Nat.le_refl _), rfl, fun l hl => by rw [I.tuple_inj hl hqx]; exact hx, hcx⟩, ⟨z'', ?_, ⟨v1, .str ⟨#[c]⟩ tu, ?_⟩, ?_, ?_⟩, fun b hb => ?_⟩
    · exact (sb.2 _ D.TIz).trans (hk _ _ D.TIz D.TITO D.TIi1 D.TIi2 hTI)
    · exact (sb.2 _ D.TOz).trans TO'
    · exact s1'.1.at fun o q => (sb.2 _ (Ne.symm D.zi1)).trans q
    · obtain ⟨o, ho, r⟩ := s2'
      exact ⟨o, (sb.2 _ (Ne.symm D.zi2)).trans ho, r⟩
    · have hlt : b < s.heap.objs.size := by
        have e' : b = z ∨ b = TI ∨ b = TO ∨ b = i1 ∨ b = i2 := by simpa using hb
        rcases e' with q | q | q | q | q
        · rw [q]; exact hzl
        · rw [q]; exact Heap.lt_size hTI
        · rw [q]; exact Heap.lt_size hTO
        · rw [q]; obtain ⟨_, e1, _⟩ := h1; exact Heap.lt_size e1
        · rw [q]; obtain ⟨_, e2, _⟩ := h2; exact Heap.lt_size e2
      rw [upd_ne (Nat.ne_of_lt hlt)]
      exact (hf b hb).1
  done := by
    intro X hP hw hK hc i pins s σ H E I hf st hg
    subst hP hw hK
    obtain ⟨hz, hTI, ⟨x0, y0, hTO⟩, h1, h2⟩ := st
    obtain ⟨xs, hqx, l1, l2, hend⟩ := hg
    obtain ⟨us, rv, p, _⟩ := I.tuple hqx
    have lu : us.toArray.size = xs.length := by rw [List.size_toArray, ← rv.length]
    have hh : X.A.in1.handled = none := I.ok.hd hc
    exact wpAny_pyNext_zipD2_end D (Draws.tuple hh i1 a ha us.toArray) (Draws.text hh i2 t tk) hz hTI hTO ⟨h1, p⟩ h2 (by omega) l2 (by omega) fun h' tk' hk => ⟨rfl, I.turnedL (t' := tk') (ch := [z, TI, TO, i1, i2]) (fun c o hb q =>
      hk c o (fun q' => hb (by simp [q'])) (fun q' => hb (by simp [q'])) (fun q' => hb (by simp [q'])) (fun q' => hb (by simp [q'])) q) hf⟩
  self := fun A i s Q E st h => wpAny_pyIter_zip st.1 h
end JsZ
namespace L2
open PySem PySem.Spec PyProof.Rows
def iZipTS (K : PySem.W.Frag) (ta : TA) : TI := fun σ H R => ta σ H fun vs H1 => ∃ a t xs, vs = [.ref a, .str t] ∧ SqT K H1 a xs ∧ R (JsZ.ItTS K a t) H1
theorem pi_zipTS {X : Cx} {e e2 : Expr} {ta : TA} {p pos tpos : Pos} {elts : List Expr} {kk : Nat} (hg : Gl X "zip") (hm : X.mg "zip" = none) (ha : PA X [e, e2] ta)
    (hs : starEach [e, e2] X.env = (false, eval e X.env) :: starEach [e2] X.env := by rfl) (hpl : (backTo pos (starEach [e2] X.env)).any (·.1) = false := by rfl) : PI X (.Tuple elts kk tpos) (.Call (.Name "zip" p) [e, e2] [] pos) (iZipTS X.K ta) := by
  refine ⟨fun pins s σ H R I h => ?_⟩
  refine Call_ (ld_blt I hg hm PyProof.Rows.boot_zip (PyProof.Rows.callWith_type1 (thn (ha.run pos pins s σ H _ I h) fun us s1 ⟨vs, H1, I1, r1, q1⟩ => ?_) hs hpl))
  obtain ⟨a, t, xs, ex, hqx, q⟩ := q1
  subst ex
  cases r1 with
  | cons r rr =>
    cases rr with
    | cons r' rr =>
      cases rr
      cases r
      obtain ⟨tk, rfl⟩ := r'
      have fresh5 : ∀ c, c ∈ [s1.heap.objs.size + 4, s1.heap.objs.size + 2, s1.heap.objs.size + 3, s1.heap.objs.size, s1.heap.objs.size + 1] → FpOk X pins H1 c := fun c hcm => by
        have hle : s1.heap.objs.size ≤ c := by
          simp only [List.mem_cons, List.not_mem_nil, or_false] at hcm
          omega
        exact I1.fpOk hle (I1.hok.fresh hle)
      obtain ⟨its, rv, p1, _⟩ := I1.tuple hqx
      obtain ⟨o1, ho1, _⟩ := id p1
      have la := Heap.lt_size ho1
      refine JsZ.call_zipTS p1 fun h' hz hTI hTO h1 h2 hsz hk => wpAny_pyIter_zip hz ?_
      have I2 : Inv X pins σ H1 { s1 with heap := h' } := I1.kept (t' := s1.toks) hk
      have D : ZipSep2 (s1.heap.objs.size + 4) (s1.heap.objs.size + 2) (s1.heap.objs.size + 3) s1.heap.objs.size (s1.heap.objs.size + 1) [s1.heap.objs.size, a] [s1.heap.objs.size + 1] := by
        have la2 : ∀ k, s1.heap.objs.size + k ≠ a := fun k h => absurd la (by rw [← h]; exact Nat.not_lt.mpr (Nat.le_add_right _ _))
        constructor <;> simp <;> first | omega | exact la2 _
      exact ⟨s1.heap.objs.size + 4, [s1.heap.objs.size + 4, s1.heap.objs.size + 2, s1.heap.objs.size + 3, s1.heap.objs.size, s1.heap.objs.size + 1], _, _, H1, rfl, I2, JsZ.turn_TS t tk D (Nat.ne_of_lt la), ⟨hz, hTI, ⟨_, _, hTO⟩, h1, h2⟩, fresh5, q⟩
theorem walk_zipTS {K : PySem.W.Frag} {a : Addr} {t : Str} {xs : List V} {n : Nat} (hn : n = min xs.length t.cps.size) : Walk (JsZ.ItTS K a t) n (fun H => SqT K H a xs) (fun i H v H' => ∃ T x c, v = .ref T ∧ H T = none ∧ H' = upd H T (.tup [x, .str ⟨#[c]⟩]) ∧ xs[i]? = some x ∧ t.cps[i]? = some c) :=
  ⟨fun i H hi hq => by
      have h1 : i < xs.length := by omega
      have h2 : i < t.cps.size := by omega
      exact ⟨xs, xs[i], t.cps[i], hq, List.getElem?_eq_getElem h1, Array.getElem?_eq_getElem h2⟩, fun H hq => ⟨xs, hq, by omega, by omega, by omega⟩, fun i H v H' hi hq y => by
      obtain ⟨T, x, c, e1, e2, e3, e4, e5⟩ := y
      exact ⟨T, x, c, e1, e2, e3, e4 xs hq, e5⟩⟩
end L2
set_option Elab.async false
set_option linter.all false
set_option maxRecDepth 100000
set_option maxHeartbeats 2000000
namespace Js
open PySem L2
abbrev sThing : Stmt := top 51
theorem lc_yes {te : TE} {σ : St} {H : Hp} {R : VK} {B : Hp → Prop} (h : te σ H R) : tYes σ H (fun b H3 => if b = true then te σ H3 R else B H3) := by
  show if true = true then te σ H R else B H
  rw [if_pos rfl]
  exact h
theorem paired_split {α β : Type} {F : α → β → Prop} : ∀ (n : Nat) {xs : List α} {ts : List β}, Paired F xs ts → n + 1 < xs.length →
    ∃ xp x y xq tp t u tq, xs = xp ++ x :: y :: xq ∧ ts = tp ++ t :: u :: tq ∧ xp.length = n ∧ tp.length = n ∧ Paired F xp tp ∧ F x t ∧ F y u ∧ Paired F xq tq
  | 0, _, _, .nil, h => absurd h (by simp)
  | 0, _, _, .cons _ .nil, h => absurd h (by simp)
  | 0, _, _, .cons h1 (.cons h2 r), _ => ⟨[], _, _, _, [], _, _, _, rfl, rfl, rfl, rfl, .nil, h1, h2, r⟩
  | n + 1, _, _, .nil, h => absurd h (by simp)
  | n + 1, _, _, .cons (a := a0) (b := b0) h1 r, h => by
    obtain ⟨xp, x, y, xq, tp, t, u, tq, e1, e2, l1, l2, p1, f1, f2, p2⟩ := paired_split n r (by simpa using h)
    exact ⟨_ :: xp, x, y, xq, _ :: tp, t, u, tq, by rw [e1]; rfl, by rw [e2]; rfl, by simp [l1], by simp [l2], .cons h1 p1, f1, f2, p2⟩
theorem paired_append {α β : Type} {F : α → β → Prop} : ∀ {xs xs' : List α} {ys ys' : List β}, Paired F xs ys → Paired F xs' ys' → Paired F (xs ++ xs') (ys ++ ys')
  | _, _, _, _, .nil, h => h
  | _, _, _, _, .cons h t, h' => .cons h (paired_append t h')
def tsz (ts : List Tr) : Nat := (ts.map Tr.size).sum
theorem tsz_append (a b : List Tr) : tsz (a ++ b) = tsz a + tsz b := by simp [tsz]
theorem tsz_cons (a : Tr) (b : List Tr) : tsz (a :: b) = a.size + tsz b := by simp [tsz]
def spThing (C : Addr) : Sp := fun vs H Q _ => ∃ (p : Addr) (m : Nat), vs = [.ref p, .int (m : Nat)] ∧ BagOk H p ∧ m ≤ 3000 ∧ ∀ a t H', KB p H H' → BagOk H' p → Th C H' a t → t.size = m → Q (.ref a) H'
section
variable {P : Program} {w : World} {K : PySem.W.Frag} {mg : Str → Option Value} {base : Heap} {C fI : Addr} {fdI : FuncData}
theorem scTh : FnScope ["_law_bag_here", "_law_many", "_law_some", "_law_at", "_law_k"] ["_law_bag_here", "_law_many"] (defScope sThing) := ⟨rfl, rfl, rfl, by decide +kernel, rfl, by decide +kernel, by decide +kernel⟩
theorem ok_thing {f fT : Addr} {fd fdT : FuncData} (F : Fun K "_law_thing" "_law_thing" sThing f fd) (B : Blt mg) (mk : Maker P w K mg base C fI fdI) (AT : At K mg "_law_take" sTake ["_law_bag_here", "_law_many"] fT fdT) : FnOk P w K mg base CX0 4 f fd ["_law_bag_here", "_law_many"] (spThing C) := by
  have GT : FnOk P w K mg base CX0 1 fT fdT ["_law_bag_here", "_law_many"] spTake := ok_take AT.F
  refine F.ok scTh (fun vs H Q E h => ?_) (fun cdv A outer s H vs Q E hr h => ?_)
  · obtain ⟨p, m, rfl, _⟩ := h
    rfl
  · obtain ⟨p, m, rfl, hbag, hm, k⟩ := h
    have hr1 : Room 1 _ := hr.mono (by decide)
    refine ⟨_, pss_cons (ps_setLc (i := 2) (own := [("_law_k", 4)]) (g := gName 4) (tt := tYes) rfl scTh.nd rfl rfl (sw_true rfl rfl rfl (by decide +kernel)) (pi_range1 rfl B.range (pa_cons (pe_op op_add (pv 1) pe_int) pa_nil))
        (blkOk_by (N := ["_law_bag_here", "_law_many", "_law_some", "_law_at", "_law_k"]) (sc := defScope sThing) (by decide +kernel)) (fun _ _ _ _ _ => pg_name (i := 4) scTh.nd rfl (Or.inl rfl)) (fun _ _ _ _ _ => pts_nil) (fun _ _ _ _ _ => pe_T0 mk hr rfl))
      (pss_cons (ps_while PassesOwn.never (pt_cmpR op_gt (pe_callB call_len_seq (by rfl) B.len PySem.boot_len (pa_cons (pv 2) pa_nil)) pe_int (nomark _))
        (pss_cons (ps_set (i := 3) scTh.nd rfl (Or.inl rfl) (pe_call GT hr1 rfl AT.mgf AT.F.kp AT.b .nil pass0 (pa_cons (pv 0) (pa_cons (pe_op op_sub (pe_callB call_len_seq (by rfl) B.len PySem.boot_len (pa_cons (pv 2) pa_nil)) pe_int) pa_nil))))
        (pss_one (ps_asg (pe_lst (pa_cons (pe_T2 mk hr rfl (pa_cons (pe_ix ix_list (pv 2) (pv 3) (fun _ _ => rfl)) (pa_cons (pe_ix ix_list (pv 2) (pe_op op_add (pv 3) pe_int) (fun _ _ => rfl)) pa_nil))) pa_nil)) (pg_slice (pv 2) (po_some (pv 3)) (po_some (pe_op op_add (pv 3) pe_int)))))))
      (pss_one (ps_ret (pe_ix ix_list (pv 2) pe_int (fun _ _ => rfl))))), ?_⟩
    have hsl := line4
    obtain ⟨bx, hbx⟩ := hbag.some
    refine ⟨_, rfl, _, _, rfl, rfl, _, rfl, by omega, by omega, fun D nD => lc_range (n := ((m : Int) + 1).toNat) (fun i H' => ∃ xs, Same H H' ∧ H' D = some (.lst xs) ∧ Paired (ThV C H') xs (List.replicate i .nil)) ⟨[], Same.new nD, upd_same, .nil⟩ ?_ ?_⟩
    · rintro i H1 hi ⟨xs, s1, hD, hps⟩
      refine ⟨rfl, lc_yes fun z H2 s2 _ h2 => ?_⟩
      have hlen := Paired.length hps
      rw [List.length_replicate] at hlen
      have hD2 := s2 _ _ hD
      refine ⟨xs, hD2, by omega, xs ++ [.ref z], (s1.trans s2).set nD, upd_same, ?_⟩
      have kk : KT H2 (upd H2 D (.lst (xs ++ [.ref z]))) := KT.lst hD2
      have e : List.replicate (i + 1) Tr.nil = List.replicate i .nil ++ [.nil] := List.replicate_succ'
      rw [e]
      exact paired_snoc (ths_kt kk (ths_kt (KT.of s2) hps)) ⟨z, rfl, h2.kt kk⟩
    · rintro H1 ⟨xs, s1, hD, hps⟩
      have em : ((m : Int) + 1).toNat = m + 1 := by omega
      rw [em] at hps
      have npD : p ≠ D := ne_of_none hbx nD
      refine ⟨fun mm σ H' => ∃ (xs : List V) (ts : List Tr) (x3 x4 : Option V), σ = [some (.ref p), some (.int (m : Nat)), some (.ref D), x3, x4] ∧ KB p H H' ∧ BagOk H' p ∧ H' D = some (.lst xs) ∧ Paired (ThV C H') xs ts ∧ tsz ts + ts.length = m + 1 ∧ ts ≠ [] ∧ mm = ts.length, ⟨_, xs, _, none, none, rfl, KB.of s1, hbag.same s1, hD, hps, ?_, by simp, rfl⟩, ?_⟩
      · have : ∀ n, tsz (List.replicate n .nil) = 0 := by
          intro n
          induction n with
          | zero => rfl
          | succ n ih => rw [List.replicate_succ, tsz_cons, ih]; rfl
        rw [this, List.length_replicate]
        omega
      · rintro mm σ H2 ⟨xs, ts, x3, x4, rfl, k2, hbag2, hD2, hps2, hsz, hne, rfl⟩
        have hlen := Paired.length hps2
        refine ⟨_, rfl, D, _, rfl, .inl (SqL.of hD2), _, _, rfl, rfl, _, rfl, ?_⟩
        by_cases h1 : 1 < xs.length
        · have ed : decide ((1 : Int) < ((xs.length : Nat) : Int)) = true := decide_eq_true (by omega)
          rw [ed]
          refine iteT ⟨fun σ' H3 => ∃ m', m' < ts.length ∧ _, fun σ' H3 z => z, ?_⟩
          refine ⟨_, rfl, _, rfl, D, _, rfl, .inl (SqL.of hD2), _, _, rfl, rfl, p, _, rfl, hbag2, by omega, by omega, fun d H3 k3 hbag3 hd0 hd1 => ?_⟩
          have hD3 := k3 _ _ (Ne.symm npD) hD2
          have hps3 := ths_kt (hbag2.kt k3) hps2
          obtain ⟨dn, rfl⟩ := Int.eq_ofNat_of_zero_le hd0
          obtain ⟨xp, x, y, xq, tp, t, u, tq, rfl, rfl, l1, l2, p1, f1, f2, p2⟩ := paired_split dn hps3 (by omega)
          obtain ⟨a1, rfl, g1⟩ := f1
          obtain ⟨a2, rfl, g2⟩ := f2
          simp only [tsz_append, tsz_cons, List.length_append, List.length_cons] at hsz
          have ix1 : atI (xp ++ V.ref a1 :: V.ref a2 :: xq) ((dn : Nat) : Int) = some (.ref a1) := atI_nat (by rw [List.getElem?_append_right (by omega), l1, Nat.sub_self]; rfl)
          have ix2 : atI (xp ++ V.ref a1 :: V.ref a2 :: xq) (((dn : Nat) : Int) + 1) = some (.ref a2) := by
            have e : (((dn : Nat) : Int) + 1) = ((dn + 1 : Nat) : Int) := by omega
            rw [e]
            exact atI_nat (by rw [List.getElem?_append_right (by omega), l1]; simp)
          refine ⟨_, rfl, _, rfl, D, _, _, _, rfl, rfl, SqL.of hD3, ix1, _, rfl, _, rfl, _, _, rfl, rfl, D, _, _, _, rfl, rfl, SqL.of hD3, ix2, a1, a2, t, u, rfl, g1, g2, by omega, fun z H4 s4 _ h4 => ?_⟩
          refine ⟨(by show 1 ≤ sizeLine; decide), fun q nq => ?_⟩
          have hD4 := s4 _ _ hD3
          have nqD : D ≠ q := ne_of_none hD4 nq
          have hlx : (xp ++ V.ref a1 :: V.ref a2 :: xq).length = dn + 2 + xq.length := by
            rw [List.length_append, List.length_cons, List.length_cons]
            omega
          have hD5 : (upd H4 q (.lst [.ref z])) D = some (.lst (xp ++ V.ref a1 :: V.ref a2 :: xq)) := (upd_ne nqD).trans hD4
          have hle : xq.length = tq.length := Paired.length p2
          refine ⟨_, rfl, _, rfl, _, rfl, _, rfl, _, _, rfl, rfl, _, rfl, D, q, _, _, _, _, rfl, rfl, rfl, rfl, hD5, upd_same, nqD, by omega, by omega, by rw [hlx]; omega, by rw [hlx]; show _ + 1 ≤ _; omega, ?_⟩
          have e1 : (xp ++ V.ref a1 :: V.ref a2 :: xq).take ((dn : Nat) : Int).toNat = xp := by
            rw [Int.toNat_natCast, ← l1, List.take_left]
          have e2 : (xp ++ V.ref a1 :: V.ref a2 :: xq).drop (((dn : Nat) : Int) + 1 + 1).toNat = xq := by
            have e : (((dn : Nat) : Int) + 1 + 1).toNat = xp.length + 2 := by omega
            rw [e, List.drop_append]
            simp
          have e3 : (((dn : Nat) : Int) + 2).toNat = (((dn : Nat) : Int) + 1 + 1).toNat := by omega
          rw [e1]
          try rw [e3]
          rw [e2]
          have k5 : KT H4 (upd (upd H4 q (.lst [.ref z])) D (.lst (xp ++ [.ref z] ++ xq))) := (KT.new nq).trans (KT.lst hD5)
          have k45 := (KT.of s4).trans k5
          refine ⟨(tp ++ [Tr.pr t u] ++ tq).length, ?_, xp ++ [.ref z] ++ xq, tp ++ [.pr t u] ++ tq, _, _, rfl, ?_, ?_, upd_same, paired_append (paired_append (ths_kt k45 p1) (.cons ⟨z, rfl, h4.kt k5⟩ .nil)) (ths_kt k45 p2), ?_, ?_, rfl⟩
          · simp
          · intro a o na h
            have h4' := s4 _ _ (k3 _ _ na (k2 _ _ na h))
            rw [upd_ne (ne_of_none h nD), upd_ne (ne_of_none h4' nq)]
            exact h4'
          · obtain ⟨x0, x1, pr, x3', h, r⟩ := hbag3.ex
            exact ⟨x0, x1, pr, x3', (upd_ne npD).trans ((upd_ne (ne_of_none (s4 _ _ h) nq)).trans (s4 _ _ h)), r⟩
          · simp only [tsz_append, tsz_cons, List.length_append, List.length_cons, Tr.size]
            simp [tsz]
            simp [tsz] at hsz
            omega
          · simp
        · have ed : decide ((1 : Int) < ((xs.length : Nat) : Int)) = false := decide_eq_false (by omega)
          rw [ed]
          refine iteF ?_
          cases hps2 with
          | nil => exact absurd rfl hne
          | @cons v t vs ts hv hps2 =>
            cases hps2 with
            | cons _ _ => simp at h1
            | nil =>
              obtain ⟨a, rfl, ha⟩ := hv
              refine ⟨_, rfl, D, _, _, .ref a, rfl, rfl, SqL.of hD2, rfl, k a t H2 k2 hbag2 ha ?_⟩
              simp [tsz] at hsz
              omega
end
end Js
set_option Elab.async false
set_option linter.all false
set_option maxRecDepth 100000
set_option maxHeartbeats 2000000
namespace Js
open PySem L2
abbrev sIsName : Stmt := top 22
abbrev sFits : Stmt := top 23
abbrev sHasForm : Stmt := top 24
abbrev sRowsIn : Stmt := top 26
def kindOf : Dd → Str
  | .told _ _ => "told"
  | .take s _ _ => takeS s
  | .two s _ _ _ => twoS s
  | .wh _ _ => "while"
  | .iff _ _ _ => "if"
def formOf : Dd → Str
  | .told _ _ => "nt"
  | .take _ _ _ => "nn"
  | .two _ _ _ _ => "nnn"
  | .wh _ _ => "nr"
  | .iff _ _ _ => "nrr"
def forms : List (Str × Str) := [("told", "nt"), ("first", "nn"), ("second", "nn"), ("pair", "nnn"), ("same", "nnn"), ("while", "nr"), ("if", "nrr")]
theorem form_in : ∀ d : Dd, (kindOf d, formOf d) ∈ forms
  | .told _ _ => by simp [kindOf, formOf, forms]
  | .take false _ _ => by simp [kindOf, formOf, forms, takeS]
  | .take true _ _ => by simp [kindOf, formOf, forms, takeS]
  | .two false _ _ _ => by simp [kindOf, formOf, forms, twoS]
  | .two true _ _ _ => by simp [kindOf, formOf, forms, twoS]
  | .wh _ _ => by simp [kindOf, formOf, forms]
  | .iff _ _ _ => by simp [kindOf, formOf, forms]
structure FrmC (K : PySem.W.Frag) (w : World) (mg : Str → Option Value) : Prop where
  ex : ∃ dF es n, mg "FORMS" = some (.ref dF) ∧ KDict K w dF es n ∧ ∀ kf ∈ forms, ∃ t, PySem.W.nsIn K dF kf.1 = some (some (.str kf.2 t))
  mM : ∃ t, mg "MANY_NAMES" = some (.int 10 t)
  mD : ∃ t, mg "MOST_DEEDS" = some (.int 4000 t)
  mF : ∃ t, mg "MOST_FLOORS" = some (.int 8 t)
  mb : mg "bool" = none
  mt : mg "tuple" = none
  mz : mg "zip" = none
  me : mg "enumerate" = none
  ii : PySem.W.kitOne K (.type "int") (.type "int") = some true
  ib : PySem.W.kitOne K (.type "int") (.type "bool") = some false
  tt : PySem.W.kitOne K (.type "tuple") (.type "tuple") = some true
  ss : PySem.W.kitOne K (.type "str") (.type "str") = some true
theorem all_rep (n : Nat) : (List.replicate n true).all id = true := by
  rw [List.all_eq_true]
  intro b hb
  rw [(List.mem_replicate.mp hb).2]
  rfl
def FitsV (K : PySem.W.Frag) (C : Addr) (H : Hp) (x : V) (c : Nat) : Prop := (c = 110 ∧ ∃ a : Nat, a < 10 ∧ x = .int (a : Nat)) ∨ (c = 116 ∧ ∃ a t, x = .ref a ∧ Th C H a t) ∨ (c = 114 ∧ ∃ q vs, x = .ref q ∧ SqT K H q vs)
theorem FitsV.same {K : PySem.W.Frag} {C : Addr} {H H' : Hp} (s : Same H H') {x : V} {c : Nat} (h : FitsV K C H x c) : FitsV K C H' x c := by
  rcases h with h | ⟨e, a, t, e2, h⟩ | ⟨e, q, vs, e2, h⟩
  · exact .inl h
  · exact .inr (.inl ⟨e, a, t, e2, h.same s⟩)
  · exact .inr (.inr ⟨e, q, vs, e2, sqt_kt (KT.of s) h⟩)
theorem cps_nt : ("nt" : Str).cps = #[110, 116] := by decide +kernel
theorem cps_nn : ("nn" : Str).cps = #[110, 110] := by decide +kernel
theorem cps_nnn : ("nnn" : Str).cps = #[110, 110, 110] := by decide +kernel
theorem cps_nr : ("nr" : Str).cps = #[110, 114] := by decide +kernel
theorem cps_nrr : ("nrr" : Str).cps = #[110, 114, 114] := by decide +kernel
theorem shape {K : PySem.W.Frag} {C : Addr} {H : Hp} {v : V} : ∀ (d : Dd), DAt K C H v d → ∃ p its, v = .ref p ∧ SqT K H p (.str (kindOf d) :: its) ∧ its.length = (formOf d).cps.size ∧ its ≠ [] ∧ its.length ≤ 3 ∧ ∀ (i : Nat) x c, its[i]? = some x → (formOf d).cps[i]? = some c → FitsV K C H x c
  | .told a t, h => by
    obtain ⟨p, x, e, h1, h2, h3, h4⟩ := h
    refine ⟨p, _, e, h1, by rw [formOf, cps_nt]; rfl, by simp, by simp, fun i y c g1 g2 => ?_⟩
    rw [formOf, cps_nt] at g2
    match i, g1, g2 with
    | 0, g1, g2 => cases Option.some.inj g1; cases Option.some.inj g2; exact .inl ⟨rfl, a, h2, rfl⟩
    | 1, g1, g2 => cases Option.some.inj g1; cases Option.some.inj g2; exact .inr (.inl ⟨rfl, x, t, rfl, h3⟩)
    | i + 2, g1, g2 => simp at g1
  | .take s a b, h => by
    obtain ⟨p, e, h1, h2, h3⟩ := h
    refine ⟨p, _, e, h1, by rw [formOf, cps_nn]; rfl, by simp, by simp, fun i y c g1 g2 => ?_⟩
    rw [formOf, cps_nn] at g2
    match i, g1, g2 with
    | 0, g1, g2 => cases Option.some.inj g1; cases Option.some.inj g2; exact .inl ⟨rfl, a, h2, rfl⟩
    | 1, g1, g2 => cases Option.some.inj g1; cases Option.some.inj g2; exact .inl ⟨rfl, b, h3, rfl⟩
    | i + 2, g1, g2 => simp at g1
  | .two s a b c, h => by
    obtain ⟨p, e, h1, h2, h3, h4⟩ := h
    refine ⟨p, _, e, h1, by rw [formOf, cps_nnn]; rfl, by simp, by simp, fun i y z g1 g2 => ?_⟩
    rw [formOf, cps_nnn] at g2
    match i, g1, g2 with
    | 0, g1, g2 => cases Option.some.inj g1; cases Option.some.inj g2; exact .inl ⟨rfl, a, h2, rfl⟩
    | 1, g1, g2 => cases Option.some.inj g1; cases Option.some.inj g2; exact .inl ⟨rfl, b, h3, rfl⟩
    | 2, g1, g2 => cases Option.some.inj g1; cases Option.some.inj g2; exact .inl ⟨rfl, c, h4, rfl⟩
    | i + 3, g1, g2 => simp at g1
  | .wh a r, h => by
    obtain ⟨p, q, vs, e, h1, h2, h3, h4⟩ := h
    refine ⟨p, _, e, h1, by rw [formOf, cps_nr]; rfl, by simp, by simp, fun i y c g1 g2 => ?_⟩
    rw [formOf, cps_nr] at g2
    match i, g1, g2 with
    | 0, g1, g2 => cases Option.some.inj g1; cases Option.some.inj g2; exact .inl ⟨rfl, a, h2, rfl⟩
    | 1, g1, g2 => cases Option.some.inj g1; cases Option.some.inj g2; exact .inr (.inr ⟨rfl, q, vs, rfl, h3⟩)
    | i + 2, g1, g2 => simp at g1
  | .iff a r o, h => by
    obtain ⟨p, q, vs, q2, vs2, e, h1, h2, h3, h4, h5, h6⟩ := h
    refine ⟨p, _, e, h1, by rw [formOf, cps_nrr]; rfl, by simp, by simp, fun i y c g1 g2 => ?_⟩
    rw [formOf, cps_nrr] at g2
    match i, g1, g2 with
    | 0, g1, g2 => cases Option.some.inj g1; cases Option.some.inj g2; exact .inl ⟨rfl, a, h2, rfl⟩
    | 1, g1, g2 => cases Option.some.inj g1; cases Option.some.inj g2; exact .inr (.inr ⟨rfl, q, vs, rfl, h3⟩)
    | 2, g1, g2 => cases Option.some.inj g1; cases Option.some.inj g2; exact .inr (.inr ⟨rfl, q2, vs2, rfl, h5⟩)
    | i + 3, g1, g2 => simp at g1
def RowsAt (K : PySem.W.Frag) (C : Addr) (H : Hp) (ws : List V) (rs : List (List Dd)) : Prop := Paired (fun v r => ∃ q, v = .ref q ∧ RAt K C H q r) ws rs
theorem RowsAt.kt {K : PySem.W.Frag} {C : Addr} {H H' : Hp} (k : KT H H') : ∀ {ws : List V} {rs : List (List Dd)}, RowsAt K C H ws rs → RowsAt K C H' ws rs
  | _, _, .nil => .nil
  | _, _, .cons ⟨q, e, h⟩ t => .cons ⟨q, e, h.kt k⟩ (RowsAt.kt k t)
def spIsName : Sp := fun vs H Q _ => ∃ a : Nat, vs = [.int (a : Nat)] ∧ a < 10 ∧ Q (.bl true) H
def spFits (K : PySem.W.Frag) (C : Addr) : Sp := fun vs H Q _ => ∃ x c, vs = [x, .str ⟨#[c]⟩] ∧ FitsV K C H x c ∧ Q (.bl true) H
def spHasForm (K : PySem.W.Frag) (C : Addr) : Sp := fun vs H Q _ => ∃ v d, vs = [v] ∧ DAt K C H v d ∧ ∀ H', Same H H' → Q (.bl true) H'
def spRowsIn (K : PySem.W.Frag) (C : Addr) : Sp := fun vs H Q _ => ∃ v d, vs = [v] ∧ DAt K C H v d ∧ ∀ p ws H', Same H H' → SqT K H' p ws → RowsAt K C H' ws d.rows → Q (.ref p) H'
theorem c_n : ("n" : Str) = ⟨#[110]⟩ := by decide +kernel
theorem c_t : ("t" : Str) = ⟨#[116]⟩ := by decide +kernel
theorem c_r : ("r" : Str) = ⟨#[114]⟩ := by decide +kernel
theorem sg_eq (a b : Nat) : decide (V.str ⟨#[a]⟩ = V.str ⟨#[b]⟩) = decide (a = b) := by simp
section
variable {P : Program} {w : World} {K : PySem.W.Frag} {mg : Str → Option Value} {base : Heap} {C : Addr}
theorem scIN : FnScope ["part"] ["part"] (defScope sIsName) := ⟨rfl, rfl, rfl, by decide +kernel, rfl, by decide +kernel, by decide +kernel⟩
theorem ok_isName {f : Addr} {fd : FuncData} (F : Fun K "is_name" "is_name" sIsName f fd) (B : Blt mg) (T : Txt K mg C) (G : FrmC K w mg) : FnOk P w K mg base CX0 1 f fd ["part"] spIsName := by
  obtain ⟨tm, mM⟩ := G.mM
  refine F.ok scIN (fun vs H Q E h => ?_) (fun cdv A outer s H vs Q E hr h => ?_)
  · obtain ⟨a, rfl, _⟩ := h
    rfl
  · obtain ⟨a, rfl, ha, k⟩ := h
    refine ⟨_, pss_one (ps_ret (pe_and (pe_callB (r := rIsi K) call_isi (by rfl) T.isi PyProof.Rows.boot_isinstance (pa_cons (pv 0) (pa_cons (pe_bltn (v := .ty "int") rfl B.int PyProof.Rows.boot_int rfl) pa_nil))) (pe_and (pe_not (pe_callB (r := rIsi K) call_isi (by rfl) T.isi PyProof.Rows.boot_isinstance (pa_cons (pv 0) (pa_cons (pe_bltn (v := .ty "bool") rfl G.mb PyProof.Rows.boot_bool rfl) pa_nil)))) (pe_one (pe_chain op_le op_lt pe_int (pv 0) (pe_glob (v := .int 10) rfl mM ⟨_, rfl⟩)))))), ?_⟩
    refine ⟨_, rfl, _, _, _, _, true, rfl, .ty "int", .base (.int _), G.ii, _, rfl, iteT ?_⟩
    refine ⟨_, rfl, _, _, _, _, false, rfl, .ty "bool", .base (.int _), G.ib, _, rfl, _, rfl, iteT ?_⟩
    refine ⟨_, rfl, _, _, rfl, rfl, _, rfl, ?_⟩
    rw [decide_eq_true (show (0 : Int) ≤ ((a : Nat) : Int) by omega)]
    refine iteT ?_
    refine ⟨_, _, rfl, rfl, ?_⟩
    show Q (.bl (decide (((a : Nat) : Int) < 10))) H
    rw [decide_eq_true (show ((a : Nat) : Int) < 10 by omega)]
    exact k
theorem scFt : FnScope ["part", "sign"] ["part", "sign"] (defScope sFits) := ⟨rfl, rfl, rfl, by decide +kernel, rfl, by decide +kernel, by decide +kernel⟩
theorem ok_fits {f : Addr} {fd : FuncData} (F : Fun K "fits" "fits" sFits f fd) (B : Blt mg) (T : Txt K mg C) (G : FrmC K w mg) (DI : Def P w K mg base "is_name" 1 ["part"] spIsName) : FnOk P w K mg base CX0 2 f fd ["part", "sign"] (spFits K C) := by
  refine F.ok scFt (fun vs H Q E h => ?_) (fun cdv A outer s H vs Q E hr h => ?_)
  · obtain ⟨x, c, rfl, _⟩ := h
    rfl
  · obtain ⟨x, c, rfl, hf, k⟩ := h
    refine ⟨_, pss_cons (ps_if (pt_cmpR op_eq (pv 1) pe_str (nomark _)) (pss_one (ps_ret (pe_def DI hr rfl (pa_cons (pv 0) pa_nil)))) pss_nil) (pss_cons (ps_if (pt_cmpR op_eq (pv 1) pe_str (nomark _)) (pss_one (ps_ret (pe_callB (r := rIsi K) call_isi (by rfl) T.isi PyProof.Rows.boot_isinstance (pa_cons (pv 0) (pa_cons (pe_glob (v := .ref C) rfl T.mgC rfl) pa_nil))))) pss_nil) (pss_one (ps_ret (pe_callB (r := rIsi K) call_isi (by rfl) T.isi PyProof.Rows.boot_isinstance (pa_cons (pv 0) (pa_cons (pe_bltn (v := .ty "tuple") rfl G.mt PyProof.Rows.boot_tuple rfl) pa_nil)))))), ?_⟩
    refine ⟨_, rfl, rfl, _, rfl, ?_⟩
    rw [c_n, sg_eq]
    rcases hf with ⟨rfl, a, ha, rfl⟩ | ⟨rfl, a, t, rfl, ha⟩ | ⟨rfl, q, vs, rfl, hq⟩
    · rw [decide_eq_true rfl]
      refine iteT ?_
      exact ⟨_, rfl, a, rfl, ha, k⟩
    · rw [decide_eq_false (by decide)]
      refine iteF ?_
      refine ⟨_, rfl, rfl, _, rfl, ?_⟩
      rw [c_t, sg_eq, decide_eq_true rfl]
      refine iteT ?_
      obtain ⟨dx, f1, g1, h1⟩ := ha.obj
      exact ⟨_, rfl, _, _, _, _, true, rfl, ClsV.own C, .base (.ins h1 T.cl T.ca T.cn T.ct T.cm), kit_self _ _, k⟩
    · rw [decide_eq_false (by decide)]
      refine iteF ?_
      refine ⟨_, rfl, rfl, _, rfl, ?_⟩
      rw [c_t, sg_eq, decide_eq_false (by decide)]
      refine iteF ?_
      exact ⟨_, rfl, _, _, _, _, true, rfl, .ty "tuple", sqt_ty hq, G.tt, k⟩
theorem scHF : FnScope ["deed", "kind", "form", "part", "sign"] ["deed"] (defScope sHasForm) := ⟨rfl, rfl, rfl, by decide +kernel, rfl, by decide +kernel, by decide +kernel⟩
theorem at0 (x : V) (xs : List V) : atI (x :: xs) 0 = some x := by
  have h : atI (x :: xs) ((0 : Nat) : Int) = some x := atI_nat rfl
  exact h
theorem cut1 (x : V) (its : List V) : cutV (x :: its) (some 1) none = its := by
  have e : HT.sIx (its.length + 1) 0 (some 1) = 1 := by
    show min 1 (its.length + 1) = 1
    omega
  unfold cutV
  rw [List.length_cons, e, HT.sIx_none, Nat.add_sub_cancel, List.drop_succ_cons, List.drop_zero, List.take_length]
theorem cut2 (x y : V) (its : List V) : cutV (x :: y :: its) (some 2) none = its := by
  have e : HT.sIx (its.length + 1 + 1) 0 (some 2) = 2 := by
    show min 2 (its.length + 1 + 1) = 2
    omega
  unfold cutV
  rw [List.length_cons, List.length_cons, e, HT.sIx_none, show its.length + 1 + 1 - 2 = its.length from rfl, List.drop_succ_cons, List.drop_succ_cons, List.drop_zero, List.take_length]
theorem ok_hasForm {f : Addr} {fd : FuncData} (F : Fun K "has_form" "has_form" sHasForm f fd) (B : Blt mg) (T : Txt K mg C) (G : FrmC K w mg) (DF : Def P w K mg base "fits" 2 ["part", "sign"] (spFits K C)) : FnOk P w K mg base CX0 3 f fd ["deed"] (spHasForm K C) := by
  obtain ⟨dF, es, n, mF, kd, hk⟩ := G.ex
  refine F.ok scHF (fun vs H Q E h => ?_) (fun cdv A outer s H vs Q E hr h => ?_)
  · obtain ⟨v, d, rfl, _⟩ := h
    rfl
  · obtain ⟨v, d, rfl, hd, k⟩ := h
    refine ⟨_, pss_cons (ps_if (PW.pt (pw_or (pt_not (pt_val (pe_callB (r := rIsi K) call_isi (by rfl) T.isi PyProof.Rows.boot_isinstance (pa_cons (pv 0) (pa_cons (pe_bltn (v := .ty "tuple") rfl G.mt PyProof.Rows.boot_tuple rfl) pa_nil))))) (pw_or1 (pt_cmpR op_eq (pe_callB call_len_seq (by rfl) B.len PySem.boot_len (pa_cons (pv 0) pa_nil)) pe_int (nomark _))))) (pss_one (ps_ret pe_bl)) pss_nil) (pss_cons (ps_set (i := 1) scHF.nd rfl (Or.inl rfl) (pe_ix (r := rIxT K) ix_tup (pv 0) pe_int (fun _ _ => rfl))) (pss_cons (ps_if (PW.pt (pw_or (pt_not (pt_val (pe_callB (r := rIsi K) call_isi (by rfl) T.isi PyProof.Rows.boot_isinstance (pa_cons (pv 1) (pa_cons (pe_bltn (v := .ty "str") rfl B.str PyProof.Rows.boot_str rfl) pa_nil))))) (pw_or1 (pt_cmpR (op_notIn_kd kd) (pv 1) (pe_glob (v := .ref dF) rfl mF rfl) rfl)))) (pss_one (ps_ret pe_bl)) pss_nil) (pss_cons (ps_set (i := 2) scHF.nd rfl (Or.inl rfl) (pe_ix (r := rIxD K w) ix_kdict (pe_glob (v := .ref dF) rfl mF rfl) (pv 1) (fun _ _ => rfl))) (pss_one (ps_ret (pe_and (pe_cmpR op_eq (pe_callB call_len_seq (by rfl) B.len PySem.boot_len (pa_cons (pv 0) pa_nil)) (pe_op op_add pe_int (pe_callB call_len_str (by rfl) B.len PySem.boot_len (pa_cons (pv 2) pa_nil))) (nomark _)) (pe_one (pe_callB (cr_all rfl) (by rfl) B.all (by decide +kernel) (pa_cons (pe_lc (own := [("part", 3), ("sign", 4)]) (g := gTup K 2 (gCons (gName 3) (gCons (gName 4) gNil))) (tt := tYes) rfl scHF.nd (pi_zipTS rfl G.mz (pa_cons (pe_slice sl_tup (pv 0) (po_some pe_int) po_none) (pa_cons (pv 2) pa_nil))) (blkOk_by (N := ["deed", "kind", "form", "part", "sign"]) (sc := defScope sHasForm) (by decide +kernel)) (fun _ _ _ _ _ => by exact (pg_tup rfl (pgs_cons (pg_name (i := 3) scHF.nd rfl (Or.inl rfl)) (pgs_cons (pg_name (i := 4) scHF.nd rfl (Or.inl rfl)) pgs_nil)))) (fun _ _ _ _ _ => pts_nil) (fun _ _ _ _ _ => (pe_def DF hr rfl (pa_cons (pv 3) (pa_cons (pv 4) pa_nil))))) pa_nil))))))))), ?_⟩
    obtain ⟨p, its, rfl, hp, hl, hne, hl3, hall⟩ := shape d hd
    obtain ⟨tk, hk⟩ := hk _ (form_in d)
    have hsl := line4
    refine ⟨_, rfl, _, _, _, _, true, rfl, .ty "tuple", sqt_ty hp, G.tt, _, rfl, iteF ?_⟩
    refine ⟨_, rfl, p, _, rfl, .inr hp, rfl, _, rfl, ?_⟩
    have e0 : decide (V.int ((((V.str (kindOf d)) :: its).length : Nat) : Int) = V.int 0) = false := by
      rw [List.length_cons]
      simp only [decide_eq_false_iff_not, V.int.injEq]
      omega
    rw [e0]
    refine iteF ?_
    refine ⟨_, rfl, p, _, 0, _, rfl, rfl, hp, at0 _ _, ?_⟩
    refine ⟨_, rfl, _, _, _, _, true, rfl, .ty "str", .base (.str _), G.ss, _, rfl, iteF ?_⟩
    refine ⟨_, rfl, _, _, rfl, rfl, hk, _, rfl, iteF ?_⟩
    refine ⟨_, rfl, dF, _, .str (formOf d), rfl, rfl, ⟨es, n, _, kd.at_, kd.lit, hk, ⟨_, rfl⟩⟩, ?_⟩
    refine ⟨_, rfl, p, _, rfl, .inr hp, ?_⟩
    have fl : (formOf d).length = its.length := hl.symm
    refine ⟨_, rfl, formOf d, rfl, by omega, _, _, rfl, rfl, rfl, _, rfl, ?_⟩
    have e1 : decide (V.int ((((V.str (kindOf d)) :: its).length : Nat) : Int) = V.int (1 + (((formOf d).length : Nat) : Int))) = true := by
      rw [List.length_cons, fl]
      simp only [decide_eq_true_eq, V.int.injEq]
      omega
    rw [e1]
    refine iteT ?_
    refine ⟨_, rfl, _, rfl, p, _, rfl, hp, ?_, fun q nq => ?_⟩
    · rintro ⟨h0, _⟩
      have e : HT.sIx (its.length + 1) 0 (some 1) = 1 := by
        show min 1 (its.length + 1) = 1
        omega
      rw [List.length_cons, e] at h0
      cases h0
    rw [cut1]
    have sq := Same.new nq (o := .tup its)
    refine ⟨_, rfl, q, _, its, rfl, SqT.of upd_same, fun D nD => lc_it (n := its.length) (walk_zipTS (K := K) (a := q) (t := formOf d) (xs := its) (by rw [← hl, Nat.min_self])) (fun i H' => Same (upd H q (.tup its)) H' ∧ SqT K H' q its ∧ H' D = some (.lst (List.replicate i (.bl true)))) ⟨Same.new nD, SqT.of (Same.new nD _ _ upd_same), upd_same⟩ (fun i H' _ z => z.2.1) ?_ ?_⟩
    · rintro i y H1 H2 hi ⟨s1, hq1, hD1⟩ ⟨T, x, c, rfl, nT, rfl, hx, hc⟩
      have sT := Same.new nT (o := .tup [x, .str ⟨#[c]⟩])
      refine ⟨T, _, rfl, SqT.of upd_same, rfl, _, _, rfl, _, _, rfl, rfl, rfl, lc_yes ?_⟩
      refine ⟨_, rfl, _, rfl, x, c, rfl, (hall i x c hx hc).same ((sq.trans s1).trans sT), ?_⟩
      refine ⟨_, sT _ _ hD1, by rw [List.length_replicate]; omega, (s1.trans sT).set nD, ?_, ?_⟩
      · have nDq : q ≠ D := fun z => by
          rw [← z, upd_same] at nD
          cases nD
        exact sqt_kt (KT.lst (sT _ _ hD1)) (sqt_kt (KT.of sT) hq1)
      · rw [upd_same, List.replicate_succ']
    · rintro H1 ⟨s1, hq1, hD1⟩
      refine ⟨D, List.replicate its.length true, rfl, SqL.of ?_, ?_⟩
      · rw [hD1, List.map_replicate]
      · have ea : ((List.replicate its.length true).all id) = true := all_rep _
        rw [ea]
        exact k H1 (sq.trans s1)
theorem scRI : FnScope ["deed"] ["deed"] (defScope sRowsIn) := ⟨rfl, rfl, rfl, by decide +kernel, rfl, by decide +kernel, by decide +kernel⟩
theorem rows_look {K : PySem.W.Frag} {C : Addr} {H : Hp} {v : V} : ∀ (d : Dd), DAt K C H v d → ∃ p y its, v = .ref p ∧ SqT K H p (.str (kindOf d) :: y :: its) ∧ ((decide (114 ∈ (formOf d).cps.toList) = true ∧ RowsAt K C H its d.rows) ∨ (decide (114 ∈ (formOf d).cps.toList) = false ∧ d.rows = []))
  | .told a t, h => by
    obtain ⟨p, x, e, h1, h2, h3, h4⟩ := h
    exact ⟨p, _, _, e, h1, .inr ⟨by rw [formOf, cps_nt]; decide, rfl⟩⟩
  | .take s a b, h => by
    obtain ⟨p, e, h1, h2, h3⟩ := h
    exact ⟨p, _, _, e, h1, .inr ⟨by rw [formOf, cps_nn]; decide, rfl⟩⟩
  | .two s a b c, h => by
    obtain ⟨p, e, h1, h2, h3, h4⟩ := h
    exact ⟨p, _, _, e, h1, .inr ⟨by rw [formOf, cps_nnn]; decide, rfl⟩⟩
  | .wh a r, h => by
    obtain ⟨p, q, vs, e, h1, h2, h3, h4⟩ := h
    exact ⟨p, _, _, e, h1, .inl ⟨by rw [formOf, cps_nr]; decide, .cons ⟨q, rfl, vs, h3, h4⟩ .nil⟩⟩
  | .iff a r o, h => by
    obtain ⟨p, q, vs, q2, vs2, e, h1, h2, h3, h4, h5, h6⟩ := h
    exact ⟨p, _, _, e, h1, .inl ⟨by rw [formOf, cps_nrr]; decide, .cons ⟨q, rfl, vs, h3, h4⟩ (.cons ⟨q2, rfl, vs2, h5, h6⟩ .nil)⟩⟩
theorem ok_rowsIn {f : Addr} {fd : FuncData} (F : Fun K "rows_in" "rows_in" sRowsIn f fd) (G : FrmC K w mg) : FnOk P w K mg base CX0 1 f fd ["deed"] (spRowsIn K C) := by
  obtain ⟨dF, es, n, mF, kd, hk⟩ := G.ex
  refine F.ok scRI (fun vs H Q E h => ?_) (fun cdv A outer s H vs Q E hr h => ?_)
  · obtain ⟨v, d, rfl, _⟩ := h
    rfl
  · obtain ⟨v, d, rfl, hd, k⟩ := h
    refine ⟨_, pss_one (ps_ret (pe_ifExp (pt_cmpR op_in_sign pe_str (pe_ix (r := rIxD K w) ix_kdict (pe_glob (v := .ref dF) rfl mF rfl) (pe_ix (r := rIxT K) ix_tup (pv 0) pe_int (fun _ _ => rfl)) (fun _ _ => rfl)) rfl) (pe_slice sl_tup (pv 0) (po_some pe_int) po_none) (pe_tup pa_nil))), ?_⟩
    obtain ⟨p, y, its, rfl, hp, hrs⟩ := rows_look d hd
    obtain ⟨tk, hk⟩ := hk _ (form_in d)
    have hsl := line4
    refine ⟨_, rfl, p, _, 0, _, rfl, rfl, hp, at0 _ _, dF, _, .str (formOf d), rfl, rfl, ⟨es, n, _, kd.at_, kd.lit, hk, ⟨_, rfl⟩⟩, 114, formOf d, congrArg V.str c_r, rfl, _, rfl, ?_⟩
    rcases hrs with ⟨e, hrs⟩ | ⟨e, hrs⟩
    · rw [e]
      refine iteT ?_
      refine ⟨_, rfl, _, rfl, p, _, rfl, hp, ?_, fun q nq => ?_⟩
      · rintro ⟨h0, _⟩
        have e : HT.sIx (its.length + 1 + 1) 0 (some 2) = 2 := by
          show min 2 (its.length + 1 + 1) = 2
          omega
        rw [List.length_cons, List.length_cons, e] at h0
        cases h0
      rw [cut2]
      exact k q its _ (Same.new nq) (SqT.of upd_same) (hrs.kt (KT.of (Same.new nq)))
    · rw [e]
      refine iteF ?_
      refine ⟨Nat.zero_le _, fun q nq => ?_⟩
      exact k q [] _ (Same.new nq) (SqT.of upd_same) (by rw [hrs]; exact .nil)
end
end Js
set_option Elab.async false
set_option linter.all false
set_option maxRecDepth 100000
set_option maxHeartbeats 2000000
namespace Js
open PySem L2
def tx (cs : List Nat) : Str := ⟨cs.toArray⟩
theorem tx_list (cs : List Nat) : (tx cs).cps.toList = cs := rfl
theorem tx_len (cs : List Nat) : (tx cs).length = cs.length := by
  show cs.toArray.size = _
  rw [List.size_toArray]
theorem tx_of (x : Str) : tx x.cps.toList = x := PyProof.Rows.ext_toList (by rw [tx_list])
theorem tx_text (t : Tr) : t.text = tx t.codes := rfl
theorem tx_append (a b : List Nat) : tx a ++ tx b = tx (a ++ b) := by
  apply PyProof.Rows.ext_toList
  rw [tx_list]
  show (a.toArray ++ b.toArray).toList = a ++ b
  simp
def repl (n : Nat) (xs : List Nat) : List Nat := (List.replicate n xs).flatten
theorem repl_succ (n : Nat) (xs : List Nat) : repl (n + 1) xs = xs ++ repl n xs := by simp [repl, List.replicate_succ]
theorem repl_len (n : Nat) (xs : List Nat) : (repl n xs).length = n * xs.length := by
  induction n with
  | zero => simp [repl]
  | succ n ih => rw [repl_succ, List.length_append, ih, Nat.succ_mul]; omega
theorem foldl_repl (xs : Array Nat) : ∀ (n : Nat) (acc : Array Nat), ((List.replicate n xs).foldl (· ++ ·) acc).toList = acc.toList ++ repl n xs.toList
  | 0, acc => by simp [repl]
  | n + 1, acc => by
    rw [List.replicate_succ, List.foldl_cons, foldl_repl xs n, repl_succ]
    simp
theorem mul_tx (cs : List Nat) (n : Nat) : PySem.Txt.mul (tx cs) (n : Nat) = tx (repl n cs) := by
  unfold PySem.Txt.mul
  by_cases h : ((n : Nat) : Int) < 1
  · rw [if_pos h]
    have : n = 0 := by omega
    subst this
    rfl
  · rw [if_neg h]
    by_cases h2 : ((((n : Nat) : Int) == 1 || (tx cs).length == 0) = true)
    · rw [if_pos h2]
      rcases Bool.or_eq_true_iff.mp h2 with h3 | h3
      · have : n = 1 := by
          have := eq_of_beq h3
          omega
        subst this
        simp [repl]
      · have h4 : cs.length = 0 := by
          have := eq_of_beq h3
          rw [tx_len] at this
          exact this
        have h5 : cs = [] := List.length_eq_zero_iff.mp h4
        subst h5
        have : repl n [] = [] := by
          apply List.length_eq_zero_iff.mp
          rw [repl_len]
          simp
        rw [this]
    · rw [if_neg h2]
      apply PyProof.Rows.ext_toList
      rw [tx_list]
      show ((List.replicate ((n : Nat) : Int).toNat cs.toArray).foldl (· ++ ·) #[]).toList = _
      rw [foldl_repl, Int.toNat_natCast]
      simp
theorem mul_ok (x : Str) (n : Nat) (h : x.length * n ≤ 1000000) (hn : n ≤ 1000000) (hx : x.length ≤ 1000000) : PySem.MulOk x (n : Nat) := by
  have hs := sizeLine_eq
  refine ⟨?_, fun h1 h2 => ?_, fun h1 h2 => ?_⟩
  · rw [decide_eq_false (by omega), decide_eq_false (by omega)]
    rfl
  · intro z
    have h3 : (1000000 : Int) ≤ (2 ^ 63 - 1) / (n : Nat) := by
      have hp : (0 : Int) < (n : Nat) := by omega
      rw [Int.le_ediv_iff_mul_le hp]
      omega
    omega
  · unfold PySem.Builtin.Str.tooLong
    rw [Int.toNat_natCast]
    exact decide_eq_false (by omega)
section
variable {X : Cx}
theorem op_mulS : OpR X (binaryOp .Mult) (fun x y H Q => ∃ (cs : List Nat) (n : Nat), x = .str (tx cs) ∧ y = .int (n : Nat) ∧ cs.length * n ≤ 1000000 ∧ n ≤ 1000000 ∧ cs.length ≤ 1000000 ∧ Q (.str (tx (repl n cs))) H) := by
  intro pins s σ H x y v u Q I rx ry h
  obtain ⟨cs, n, rfl, rfl, h1, h2, h3, q⟩ := h
  obtain ⟨t, rfl⟩ := rx
  obtain ⟨t', rfl⟩ := ry
  refine PySem.SB.mul (mul_ok _ n (by rw [tx_len]; exact h1) h2 (by rw [tx_len]; exact h3)) fun tk k => ?_
  rw [mul_tx]
  exact ⟨.str _, H, I.tok k, ⟨tk, rfl⟩, q⟩
end
theorem chain_count (x : Str) (c : Nat) (hi : Nat) (hh : hi = x.length) : ∀ (cuts : List Nat) (a f : Nat), PySem.StrLaws.ChainG x ⟨#[c]⟩ hi a cuts f → (∀ k, f ≤ k → ¬ PySem.StrLaws.At x ⟨#[c]⟩ hi k) → cuts.length = (x.cps.toList.drop a).count c
  | [], a, f, h, hn => by
    have e : f = a := h
    subst e
    symm
    rw [List.length_nil, List.count_eq_zero]
    intro hm
    obtain ⟨j, hj⟩ := List.getElem?_of_mem hm
    rw [List.getElem?_drop] at hj
    subst hh
    exact hn (f + j) (by omega) ((PySem.StrLaws.subAt_one x c (f + j)).mpr hj)
  | d :: r, a, f, h, hn => by
    obtain ⟨h1, h2, h3, h4⟩ := h
    have ih := chain_count x c hi hh r (d + 1) f h4 hn
    subst hh
    have hd : x.cps.toList[d]? = some c := (PySem.StrLaws.subAt_one x c d).mp h2
    have hlt := (List.getElem?_eq_some_iff.mp hd).1
    have e1 : x.cps.toList.drop a = (x.cps.toList.drop a).take (d - a) ++ x.cps.toList.drop d := by
      have := List.take_append_drop (d - a) (x.cps.toList.drop a)
      rw [List.drop_drop] at this
      have e : a + (d - a) = d := by omega
      rw [e] at this
      exact this.symm
    have e2 : ((x.cps.toList.drop a).take (d - a)).count c = 0 := by
      rw [List.count_eq_zero]
      intro hm
      obtain ⟨j, hj⟩ := List.getElem?_of_mem hm
      have hj1 : j < d - a := by
        have := (List.getElem?_eq_some_iff.mp hj).1
        rw [List.length_take] at this
        omega
      rw [List.getElem?_take_of_lt hj1, List.getElem?_drop] at hj
      exact h3 (a + j) (by omega) (by omega) ((PySem.StrLaws.subAt_one x c (a + j)).mpr hj)
    have e3 : x.cps.toList.drop d = c :: x.cps.toList.drop (d + 1) := by
      rw [List.drop_eq_getElem_cons hlt, (List.getElem?_eq_some_iff.mp hd).2]
    rw [e1, List.count_append, e2, e3, List.count_cons_self, List.length_cons, ih]
    omega
theorem count_tx (cs : List Nat) (c : Nat) : PySem.Txt.count (tx cs) ⟨#[c]⟩ = ((cs.count c : Nat) : Int) := by
  unfold PySem.Txt.count
  obtain ⟨f, h1, h2⟩ := PySem.StrLaws.occ_tight (tx cs) ⟨#[c]⟩ (by show 1 ≤ 1; decide)
  rw [chain_count (tx cs) c _ rfl _ 0 f h1 h2, List.drop_zero, tx_list]
theorem codes_sign : ∀ (t : Tr) (c : Nat), c ∈ t.codes → c = 46 ∨ c = 40 ∨ c = 41
  | .nil, c, h => by simp [Tr.codes] at h; exact .inl h
  | .pr l r, c, h => by
    simp only [Tr.codes, List.mem_cons, List.mem_append, List.not_mem_nil, or_false] at h
    rcases h with h | h | h | h
    · exact .inr (.inl h)
    · exact codes_sign l c h
    · exact codes_sign r c h
    · exact .inr (.inr h)
end Js
set_option Elab.async false
set_option linter.all false
set_option maxRecDepth 100000
set_option maxHeartbeats 2000000
namespace Js
open PySem L2
abbrev sNamesIn : Stmt := top 25
def Dd.names : Dd → List Nat
  | .told a _ => [a]
  | .take _ a b => [a, b]
  | .two _ a b c => [a, b, c]
  | .wh a _ => [a]
  | .iff a _ _ => [a]
def namesV (ns : List Nat) : List V := ns.map fun a => V.int ((a : Nat) : Int)
theorem cn (s : Str) (cs : List Nat) (h : s.cps = cs.toArray) : PySem.Txt.count s "n" = ((cs.count 110 : Nat) : Int) := by
  rw [show s = tx cs from by cases s; simp only [tx]; exact congrArg _ h, c_n, count_tx]
theorem cut1n (x : V) (its : List V) (n : Nat) (hn : n ≤ its.length) : cutV (x :: its) (some 1) (some (1 + (n : Int))) = its.take n := by
  have e : HT.sIx (its.length + 1) 0 (some 1) = 1 := by
    show min 1 (its.length + 1) = 1
    omega
  have e2 : HT.sIx (its.length + 1) (its.length + 1) (some (1 + (n : Int))) = n + 1 := by
    have : (1 + (n : Int)) = ((n + 1 : Nat) : Int) := by omega
    rw [this]
    show min (n + 1) (its.length + 1) = n + 1
    omega
  unfold cutV
  rw [List.length_cons, e, e2, List.drop_succ_cons, List.drop_zero, Nat.add_sub_cancel]
theorem names_look {K : PySem.W.Frag} {C : Addr} {H : Hp} {v : V} : ∀ (d : Dd), DAt K C H v d → ∃ p its n, v = .ref p ∧ SqT K H p (.str (kindOf d) :: its) ∧ PySem.Txt.count (formOf d) "n" = ((n : Nat) : Int) ∧ n ≤ its.length ∧ its.take n = namesV d.names ∧ its.length ≤ 3 ∧ 1 ≤ n ∧ n < its.length + 1 ∧ (∀ a ∈ d.names, a < 10)
  | .told a t, h => by
    obtain ⟨p, x, e, h1, h2, h3, h4⟩ := h
    exact ⟨p, _, 1, e, h1, by rw [formOf, cn _ [110, 116] cps_nt]; rfl, by simp, rfl, by simp, by simp, by simp, by simp [Dd.names]; omega⟩
  | .take s a b, h => by
    obtain ⟨p, e, h1, h2, h3⟩ := h
    exact ⟨p, _, 2, e, h1, by rw [formOf, cn _ [110, 110] cps_nn]; rfl, by simp, rfl, by simp, by simp, by simp, by simp [Dd.names]; omega⟩
  | .two s a b c, h => by
    obtain ⟨p, e, h1, h2, h3, h4⟩ := h
    exact ⟨p, _, 3, e, h1, by rw [formOf, cn _ [110, 110, 110] cps_nnn]; rfl, by simp, rfl, by simp, by simp, by simp, by simp [Dd.names]; omega⟩
  | .wh a r, h => by
    obtain ⟨p, q, vs, e, h1, h2, h3, h4⟩ := h
    exact ⟨p, _, 1, e, h1, by rw [formOf, cn _ [110, 114] cps_nr]; rfl, by simp, rfl, by simp, by simp, by simp, by simp [Dd.names]; omega⟩
  | .iff a r o, h => by
    obtain ⟨p, q, vs, q2, vs2, e, h1, h2, h3, h4, h5, h6⟩ := h
    exact ⟨p, _, 1, e, h1, by rw [formOf, cn _ [110, 114, 114] cps_nrr]; rfl, by simp, rfl, by simp, by simp, by simp, by simp [Dd.names]; omega⟩
def spNamesIn (K : PySem.W.Frag) (C : Addr) : Sp := fun vs H Q _ => ∃ v d, vs = [v] ∧ DAt K C H v d ∧ ∀ p H', Same H H' → SqT K H' p (namesV d.names) → Q (.ref p) H'
section
variable {P : Program} {w : World} {K : PySem.W.Frag} {mg : Str → Option Value} {base : Heap} {C : Addr}
theorem scNI : FnScope ["deed"] ["deed"] (defScope sNamesIn) := ⟨rfl, rfl, rfl, by decide +kernel, rfl, by decide +kernel, by decide +kernel⟩
theorem ok_namesIn {f : Addr} {fd : FuncData} (F : Fun K "names_in" "names_in" sNamesIn f fd) (G : FrmC K w mg) : FnOk P w K mg base CX0 1 f fd ["deed"] (spNamesIn K C) := by
  obtain ⟨dF, es, n, mF, kd, hk⟩ := G.ex
  refine F.ok scNI (fun vs H Q E h => ?_) (fun cdv A outer s H vs Q E hr h => ?_)
  · obtain ⟨v, d, rfl, _⟩ := h
    rfl
  · obtain ⟨v, d, rfl, hd, k⟩ := h
    refine ⟨_, pss_one (ps_ret (pe_slice sl_tup (pv 0) (po_some pe_int) (po_some (pe_op op_add pe_int (pe_m1 PySem.F.slot_str_count PySem.F.type_str_count mt_count (pe_ix (r := rIxD K w) ix_kdict (pe_glob (v := .ref dF) rfl mF rfl) (pe_ix (r := rIxT K) ix_tup (pv 0) pe_int (fun _ _ => rfl)) (fun _ _ => rfl)) pe_str))))), ?_⟩
    obtain ⟨p, its, m, rfl, hp, hc, hm, hn, hl3, hm1, hm2, _⟩ := names_look d hd
    obtain ⟨tk, hk⟩ := hk _ (form_in d)
    have hsl := line4
    refine ⟨_, rfl, _, rfl, _, rfl, p, _, 0, _, rfl, rfl, hp, at0 _ _, dF, _, .str (formOf d), rfl, rfl, ⟨es, n, _, kd.at_, kd.lit, hk, ⟨_, rfl⟩⟩, ?_⟩
    refine ⟨⟨_, rfl⟩, _, _, rfl, rfl, ?_⟩
    rw [hc]
    refine ⟨_, _, rfl, rfl, _, rfl, p, _, rfl, hp, ?_, fun q nq => ?_⟩
    · rintro ⟨h0, _⟩
      have e : HT.sIx (its.length + 1) 0 (some 1) = 1 := by
        show min 1 (its.length + 1) = 1
        omega
      rw [List.length_cons, e] at h0
      cases h0
    rw [cut1n _ _ _ hm, hn]
    exact k q _ (Same.new nq) (SqT.of upd_same)
end
end Js
set_option Elab.async false
set_option linter.all false
set_option maxRecDepth 100000
set_option maxHeartbeats 2000000
namespace Js
open PySem L2
abbrev sLook : Stmt := top 27
def manyL : List (List Dd) → Nat
  | [] => 0
  | r :: rs => manyR r + manyL rs
def endsL : List (List Dd) → Nat → List Nat
  | [], _ => []
  | r :: rs, n => endsR r n ++ endsL rs (n + manyR r)
def deepL : List (List Dd) → Nat
  | [] => 0
  | r :: rs => max (deepR r) (deepL rs)
theorem many_rows : ∀ d : Dd, d.many = manyL d.rows + 1
  | .told _ _ => rfl
  | .take _ _ _ => rfl
  | .two _ _ _ _ => rfl
  | .wh a r => by rw [many_wh, Dd.rows, manyL, manyL, Nat.add_zero]
  | .iff a r o => by rw [many_iff]; simp only [Dd.rows, manyL]; omega
theorem ends_rows : ∀ (d : Dd) (n : Nat), d.ends n = (n + d.many) :: endsL d.rows (n + 1)
  | .told _ _, _ => rfl
  | .take _ _ _, _ => rfl
  | .two _ _ _ _, _ => rfl
  | .wh a r, n => by
    rw [Dd.ends, many_wh, Dd.rows, endsL, endsL, List.append_nil, Nat.add_assoc n, Nat.add_comm 1]
  | .iff a r o, n => by
    rw [Dd.ends, many_iff, Dd.rows, endsL, endsL, endsL, List.append_nil]
    congr 1
    omega
theorem deep_rows : ∀ (d : Dd), d.rows ≠ [] → d.deep = deepL d.rows + 1
  | .told _ _, h => absurd rfl h
  | .take _ _ _, h => absurd rfl h
  | .two _ _ _ _, h => absurd rfl h
  | .wh a r, _ => by rw [Dd.deep, Dd.rows, deepL, deepL, Nat.max_eq_left (Nat.zero_le _)]
  | .iff a r o, _ => by rw [Dd.deep, Dd.rows, deepL, deepL, deepL, Nat.max_eq_left (Nat.zero_le _)]
theorem endsL_len : ∀ (rs : List (List Dd)) (n : Nat), (endsL rs n).length = manyL rs
  | [], _ => rfl
  | r :: rs, n => by rw [endsL, List.length_append, endsR_len, endsL_len rs, manyL]
theorem manyR_app : ∀ (a b : List Dd), manyR (a ++ b) = manyR a + manyR b
  | [], b => by rw [List.nil_append, many_nil, Nat.zero_add]
  | d :: a, b => by rw [List.cons_append, many_cons, many_cons, manyR_app a b]; omega
theorem endsR_app : ∀ (a b : List Dd) (n : Nat), endsR (a ++ b) n = endsR a n ++ endsR b (n + manyR a)
  | [], b, n => by rw [List.nil_append, many_nil, endsR, List.nil_append, Nat.add_zero]
  | d :: a, b, n => by rw [List.cons_append, endsR, endsR_app a b, endsR, many_cons, List.append_assoc, Nat.add_assoc]
theorem manyL_app : ∀ (a b : List (List Dd)), manyL (a ++ b) = manyL a + manyL b
  | [], b => by rw [List.nil_append, manyL, Nat.zero_add]
  | r :: a, b => by rw [List.cons_append, manyL, manyL, manyL_app a b]; omega
theorem endsL_app : ∀ (a b : List (List Dd)) (n : Nat), endsL (a ++ b) n = endsL a n ++ endsL b (n + manyL a)
  | [], b, n => by rw [List.nil_append, manyL, endsL, List.nil_append, Nat.add_zero]
  | r :: a, b, n => by rw [List.cons_append, endsL, endsL_app a b, endsL, manyL, List.append_assoc, Nat.add_assoc]
theorem manyR_one (d : Dd) : manyR [d] = d.many := by rw [many_cons, many_nil, Nat.add_zero]
theorem endsR_one (d : Dd) (n : Nat) : endsR [d] n = d.ends n := by rw [endsR, endsR, List.append_nil]
theorem manyL_one (r : List Dd) : manyL [r] = manyR r := by rw [manyL, manyL, Nat.add_zero]
theorem endsL_one (r : List Dd) (n : Nat) : endsL [r] n = endsR r n := by rw [endsL, endsL, List.append_nil]
theorem deepR_mem : ∀ (r : List Dd) (d : Dd), d ∈ r → d.deep ≤ deepR r
  | e :: r, d, h => by
    rw [deepR]
    rcases List.mem_cons.mp h with rfl | h
    · exact Nat.le_max_left _ _
    · exact Nat.le_trans (deepR_mem r d h) (Nat.le_max_right _ _)
theorem deepL_mem : ∀ (rs : List (List Dd)) (r : List Dd), r ∈ rs → deepR r ≤ deepL rs
  | e :: rs, r, h => by
    rw [deepL]
    rcases List.mem_cons.mp h with rfl | h
    · exact Nat.le_max_left _ _
    · exact Nat.le_trans (deepL_mem rs r h) (Nat.le_max_right _ _)
theorem manyL_take : ∀ (rs : List (List Dd)) (j : Nat) (r : List Dd), rs[j]? = some r → manyL (rs.take j) + manyR r ≤ manyL rs
  | e :: rs, 0, r, h => by
    cases Option.some.inj h
    simp only [List.take_zero, manyL]
    omega
  | e :: rs, j + 1, r, h => by
    have := manyL_take rs j r h
    simp only [List.take_succ_cons, manyL]
    omega
theorem manyR_take : ∀ (rs : List Dd) (j : Nat) (r : Dd), rs[j]? = some r → manyR (rs.take j) + r.many ≤ manyR rs
  | e :: rs, 0, r, h => by
    cases Option.some.inj h
    rw [List.take_zero, many_nil, many_cons]
    omega
  | e :: rs, j + 1, r, h => by
    have := manyR_take rs j r h
    rw [List.take_succ_cons, many_cons, many_cons]
    omega
theorem take_snoc {α : Type} {l : List α} {i : Nat} {x : α} (h : l[i]? = some x) : l.take (i + 1) = l.take i ++ [x] := by
  obtain ⟨hi, e⟩ := List.getElem?_eq_some_iff.mp h
  rw [List.take_succ_eq_append_getElem hi, e]
def numsV (ns : List Nat) : List V := ns.map fun n => .int (n : Nat)
theorem ixN_at (n k : Nat) (h : k < n) : ixN n ((k : Nat) : Int) = some k := by
  unfold ixN
  rw [if_pos (by omega), if_pos (by omega), Int.toNat_natCast]
theorem numsV_len (ns : List Nat) : (numsV ns).length = ns.length := by rw [numsV, List.length_map]
theorem numsV_app (a b : List Nat) : numsV (a ++ b) = numsV a ++ numsV b := by rw [numsV, List.map_append]; rfl
def spLook (K : PySem.W.Frag) (C : Addr) (n : Nat) : Sp := fun vs H Q _ => ∃ (q e : Addr) (f : Nat) (r : List Dd) (es : List Nat), vs = [.ref q, .int (f : Nat), .ref e] ∧ RAt K C H q r ∧ deepR r < n ∧ f + deepR r ≤ 8 ∧ H e = some (.lst (numsV es)) ∧ es.length + manyR r ≤ 4000 ∧
  ∀ H', KB e H H' → H' e = some (.lst (numsV (es ++ endsR r es.length))) → Q .non H'
section
variable {P : Program} {w : World} {K : PySem.W.Frag} {mg : Str → Option Value} {base : Heap} {C : Addr}
theorem scLk : FnScope ["row", "floors", "ends", "deed", "place", "inner", "part"] ["row", "floors", "ends"] (defScope sLook) := ⟨rfl, rfl, rfl, by decide +kernel, rfl, by decide +kernel, by decide +kernel⟩
theorem ok_look {f : Addr} {fd : FuncData} (F : Fun K "look_through" "look_through" sLook f fd) (mgf : mg "look_through" = some (.ref f)) (b : Binds K fd ["row", "floors", "ends"] []) (B : Blt mg) (T : Txt K mg C) (G : FrmC K w mg)
    (DH : Def P w K mg base "has_form" 3 ["deed"] (spHasForm K C)) (DR : Def P w K mg base "rows_in" 1 ["deed"] (spRowsIn K C)) : ∀ n, FnOk P w K mg base CX0 (n + 4) f fd ["row", "floors", "ends"] (spLook K C n) := by
  obtain ⟨t1, mD⟩ := G.mD
  obtain ⟨t2, mFl⟩ := G.mF
  intro n
  induction n with
  | zero =>
    refine F.ok scLk (fun vs H Q E h => ?_) (fun cdv A outer s H vs Q E hr h => ?_)
    · obtain ⟨q, e, f, r, es, rfl, _⟩ := h
      rfl
    · obtain ⟨q, e, f, r, es, _, _, h, _⟩ := h
      exact absurd h (Nat.not_lt_zero _)
  | succ n G' =>
  refine F.ok scLk (fun vs H Q E h => ?_) (fun cdv A outer s H vs Q E hr h => ?_)
  · obtain ⟨q, e, f, r, es, rfl, _⟩ := h
    rfl
  · obtain ⟨q, e, f, r, es, rfl, ⟨vs, hq, hvs⟩, hdp, hfl, he, hmany, k⟩ := h
    have hr1 : Room 1 _ := hr.mono (by omega)
    have hr3 : Room 3 _ := hr.mono (by omega)
    refine ⟨_, PSs.nox (pss_one (ps_for PassesOwn.never rfl (pi_tup (pv 0)) (pg_name (i := 3) scLk.nd rfl (Or.inl rfl)) (pss_cons (ps_set (i := 4) scLk.nd rfl (Or.inl rfl) (pe_callB call_len_seq (by rfl) B.len PySem.boot_len (pa_cons (pv 2) pa_nil))) (pss_cons (ps_if (PW.pt (pw_or (pt_cmpR op_eq (pv 4) (pe_glob (v := .int 4000) rfl mD ⟨_, rfl⟩) (nomark _)) (pw_or1 (pt_not (pt_val (pe_def DH hr3 rfl (pa_cons (pv 3) pa_nil))))))) (pss_one ps_never) pss_nil) (pss_cons (ps_set (i := 5) scLk.nd rfl (Or.inl rfl) (pe_def DR hr1 rfl (pa_cons (pv 3) pa_nil))) (pss_cons (ps_if (PW.pt (pw_and (pt_truth (pv 5) (by intro _; rfl)) (pw_and1 (pt_cmpR op_eq (pv 1) (pe_glob (v := .int 8) rfl mFl ⟨_, rfl⟩) (nomark _))))) (pss_one ps_never) pss_nil) (pss_cons (ps_expr (pe_bm PySem.F.plainAttrs_list PySem.F.slot_list_append PySem.F.type_list_append mt_append (pv 2) (pa_cons (pe_op op_add (pv 4) pe_int) pa_nil))) (pss_cons (ps_for PassesOwn.never rfl (pi_tup (pv 5)) (pg_name (i := 6) scLk.nd rfl (Or.inl rfl)) (pss_one (ps_expr (pe_call G' hr rfl mgf F.kp b .nil pass0 (pa_cons (pv 6) (pa_cons (pe_op op_add (pv 1) pe_int) (pa_cons (pv 2) pa_nil))))))) (pss_one (ps_asg (pe_callB call_len_seq (by rfl) B.len PySem.boot_len (pa_cons (pv 2) pa_nil)) (pg_sub (pv 2) (pv 4) set_list))))))))))), ?_⟩
    have hsl := line4
    have hlen := DsAt.length r vs hvs
    refine ⟨_, rfl, q, rfl, ⟨_, hq⟩, for_tup (K := K) (a := q) (xs := vs) (fun i σ H' => ∃ x3 x4 x5 x6 : Option V, σ = [some (.ref q), some (.int (f : Nat)), some (.ref e), x3, x4, x5, x6] ∧ KB e H H' ∧ H' e = some (.lst (numsV (es ++ endsR (r.take i) es.length)))) ⟨none, none, none, none, rfl, KB.refl e H, by simpa [endsR] using he⟩ ?_ ?_ ?_⟩
    · rintro i σ H1 _ ⟨x3, x4, x5, x6, rfl, kb1, he1⟩
      exact sqt_kt (kb1.kt he) hq
    · rintro i v σ H1 hv ⟨x3, x4, x5, x6, rfl, kb1, he1⟩
      obtain ⟨d, hd, hdv⟩ := DsAt.get r vs i v hvs hv
      have hdm := List.mem_of_getElem? hd
      have hdd := deepR_mem r d hdm
      have hmt := manyR_take r i d hd
      have hpos := many_pos d
      have hdv1 := DAt_kt (kb1.kt he) d v hdv
      obtain ⟨pl, hpl⟩ : ∃ pl, es.length + manyR (r.take i) = pl := ⟨_, rfl⟩
      have hl1 : (numsV (es ++ endsR (r.take i) es.length)).length = pl := by rw [numsV_len, List.length_append, endsR_len, hpl]
      refine ⟨_, rfl, e, _, rfl, .inl (SqL.of he1), ?_⟩
      rw [hl1]
      refine ⟨_, rfl, rfl, _, rfl, ?_⟩
      have e0 : decide (V.int ((pl : Nat) : Int) = V.int 4000) = false := by
        simp only [decide_eq_false_iff_not, V.int.injEq]
        omega
      rw [e0]
      refine iteF ?_
      refine ⟨_, rfl, v, d, rfl, hdv1, fun H2 s2 => ⟨_, rfl, iteF ?_⟩⟩
      have hdv2 := DAt_kt (KT.of s2) d v hdv1
      refine ⟨_, rfl, v, d, rfl, hdv2, fun ip ws H3 s3 hip hws => ?_⟩
      have hwl := Paired.length hws
      refine ⟨_, rfl, !ws.isEmpty, .inr (.inl ⟨ws, hip, rfl⟩), ?_⟩
      have hrows : ∀ {Z : Prop}, Z → Z := fun z => z
      have step2 : ∀ (R : Bool → Hp → Prop), R false H3 → (if (!ws.isEmpty) = true then (tTest (tOp rEq (tVar 1) (tC (.int 8)))) [some (.ref q), some (.int (f : Nat)), some (.ref e), some v, some (.int ((pl : Nat) : Int)), some (.ref ip), x6] H3 R else R false H3) := by
        intro R hR
        cases hw : ws with
        | nil => exact iteF hR
        | cons w0 wr =>
          refine iteT ?_
          refine ⟨_, rfl, rfl, _, rfl, ?_⟩
          have hne : d.rows ≠ [] := fun z => by
            rw [z, hw] at hwl
            cases hwl
          have := deep_rows d hne
          have e1 : decide (V.int ((f : Nat) : Int) = V.int 8) = false := by
            simp only [decide_eq_false_iff_not, V.int.injEq]
            omega
          rw [e1]
          exact hR
      refine step2 _ ?_
      refine iteF ?_
      have he3 := s3 _ _ (s2 _ _ he1)
      obtain ⟨as, has⟩ : ∃ as, es ++ endsR (r.take i) es.length = as := ⟨_, rfl⟩
      rw [has] at he3 hl1
      rw [numsV_len] at hl1
      have hmr := many_rows d
      refine ⟨_, rfl, .inl ⟨rfl, _, SqL.of he3⟩, _, rfl, _, _, rfl, rfl, e, _, _, rfl, rfl, he3, by rw [numsV_len]; omega, ?_⟩
      have kb3 : KB e H H3 := (kb1.trans (KB.of s2)).trans (KB.of s3)
      have e4 : numsV as ++ [V.int (((pl : Nat) : Int) + 1)] = numsV (as ++ [pl + 1]) := by
        rw [numsV_app]
        rfl
      rw [e4]
      have he4 : (upd H3 e (.lst (numsV (as ++ [pl + 1])))) e = some (.lst (numsV (as ++ [pl + 1]))) := upd_same
      have kb4 : KB e H3 (upd H3 e (.lst (numsV (as ++ [pl + 1])))) := KB.set
      revert he4 kb4
      generalize upd H3 e (.lst (numsV (as ++ [pl + 1]))) = H4
      intro he4 kb4
      have kt4 : KT H3 H4 := kb4.kt he3
      refine ⟨_, rfl, ip, rfl, ⟨_, sqt_kt kt4 hip⟩, for_tup (K := K) (a := ip) (xs := ws) (fun j σ H' => ∃ x6 : Option V, σ = [some (.ref q), some (.int (f : Nat)), some (.ref e), some v, some (.int ((pl : Nat) : Int)), some (.ref ip), x6] ∧ KB e H4 H' ∧ H' e = some (.lst (numsV (as ++ [pl + 1] ++ endsL (d.rows.take j) (pl + 1))))) ⟨_, rfl, KB.refl e H4, by simpa [endsL] using he4⟩ ?_ ?_ ?_⟩
      · rintro j σ H5 _ ⟨x6, rfl, kb5, he5⟩
        exact sqt_kt (kb5.kt he4) (sqt_kt kt4 hip)
      · rintro j v6 σ H5 hv6 ⟨x6, rfl, kb5, he5⟩
        obtain ⟨r6, hr6, q6, rfl, hq6⟩ := paired_get hws hv6
        have hml := manyL_take d.rows j r6 hr6
        have hdl := deepL_mem d.rows r6 (List.mem_of_getElem? hr6)
        have hne : d.rows ≠ [] := fun z => by
          rw [z] at hr6
          cases hr6
        have hdr := deep_rows d hne
        have l5 : (as ++ [pl + 1] ++ endsL (d.rows.take j) (pl + 1)).length = pl + 1 + manyL (d.rows.take j) := by
          rw [List.length_append, List.length_append, endsL_len, hl1]
          rfl
        refine ⟨_, rfl, _, rfl, _, _, rfl, rfl, _, rfl, q6, e, f + 1, r6, _, rfl, (hq6.kt kt4).kt (kb5.kt he4), by omega, by omega, he5, by omega, fun H6 kb6 he6 => ?_⟩
        refine ⟨_, rfl, kb5.trans kb6, ?_⟩
        rw [he6, take_snoc hr6, endsL_app, endsL_one, l5, List.append_assoc (as ++ [pl + 1])]
      · rintro σ H5 ⟨x6, rfl, kb5, he5⟩
        rw [hwl, List.take_length] at he5
        have l5 : (as ++ [pl + 1] ++ endsL d.rows (pl + 1)).length = pl + d.many := by
          rw [List.length_append, List.length_append, endsL_len, hl1, hmr]
          simp only [List.length_cons, List.length_nil]
          omega
        refine ⟨_, rfl, e, _, rfl, .inl (SqL.of he5), ?_⟩
        rw [numsV_len, l5]
        refine ⟨_, rfl, _, rfl, e, _, _, pl, rfl, rfl, he5, ?_, ?_⟩
        · rw [numsV_len, l5]
          exact ixN_at _ _ (by omega)
        · have es5 : (numsV (as ++ [pl + 1] ++ endsL d.rows (pl + 1))).set pl (V.int (((pl + d.many : Nat)) : Int)) = numsV (es ++ endsR (r.take (i + 1)) es.length) := by
            rw [take_snoc hd, endsR_app, endsR_one, ends_rows, ← List.append_assoc, has, hpl, List.append_assoc, numsV_app, numsV_app]
            rw [List.set_append_right _ _ (by rw [numsV_len, hl1]; exact Nat.le_refl _), numsV_len, hl1, Nat.sub_self, numsV_app]
            rfl
          refine ⟨_, _, _, _, rfl, ((kb3.trans kb4).trans kb5).trans KB.set, ?_⟩
          rw [upd_same, ← es5]
    · rintro σ H1 ⟨x3, x4, x5, x6, rfl, kb1, he1⟩
      rw [hlen, List.take_length] at he1
      exact k H1 kb1 he1
end
end Js
set_option Elab.async false
set_option linter.all false
set_option maxRecDepth 100000
set_option maxHeartbeats 2000000
namespace Js
open PySem L2
inductive Pc where
  | nm (b : Nat)
  | th (t : Tr)
  | rw (r : List Dd)
def Dd.nm1 : Dd → Nat
  | .told a _ => a
  | .take _ a _ => a
  | .two _ a _ _ => a
  | .wh a _ => a
  | .iff a _ _ => a
def Dd.pcs : Dd → List Pc
  | .told _ t => [.th t]
  | .take _ _ b => [.nm b]
  | .two _ _ b c => [.nm b, .nm c]
  | .wh _ r => [.rw r]
  | .iff _ r o => [.rw r, .rw o]
def PcAt (K : PySem.W.Frag) (C : Addr) (H : Hp) (v : V) : Pc → Prop
  | .nm b => b < 10 ∧ v = .int (b : Nat)
  | .th t => t.size ≤ 4000 ∧ ∃ a, v = .ref a ∧ Th C H a t
  | .rw r => ∃ q, v = .ref q ∧ RAt K C H q r
theorem PcAt.kt {K : PySem.W.Frag} {C : Addr} {H H' : Hp} (k : KT H H') {v : V} : ∀ {x : Pc}, PcAt K C H v x → PcAt K C H' v x
  | .nm _, h => h
  | .th _, ⟨z, a, e, h⟩ => ⟨z, a, e, h.kt k⟩
  | .rw _, ⟨q, e, h⟩ => ⟨q, e, h.kt k⟩
theorem DAt_split {K : PySem.W.Frag} {C : Addr} {H : Hp} {v : V} : ∀ (d : Dd), DAt K C H v d → ∃ p its, v = .ref p ∧ SqT K H p (.str (kindOf d) :: .int ((d.nm1 : Nat) : Int) :: its) ∧ d.nm1 < 10 ∧ Paired (PcAt K C H) its d.pcs ∧ its ≠ []
  | .told a t, h => by
    obtain ⟨p, x, e, h1, h2, h3, h4⟩ := h
    exact ⟨p, _, e, h1, h2, .cons ⟨h4, x, rfl, h3⟩ .nil, by simp⟩
  | .take s a b, h => by
    obtain ⟨p, e, h1, h2, h3⟩ := h
    exact ⟨p, _, e, h1, h2, .cons ⟨h3, rfl⟩ .nil, by simp⟩
  | .two s a b c, h => by
    obtain ⟨p, e, h1, h2, h3, h4⟩ := h
    exact ⟨p, _, e, h1, h2, .cons ⟨h3, rfl⟩ (.cons ⟨h4, rfl⟩ .nil), by simp⟩
  | .wh a r, h => by
    obtain ⟨p, q, vs, e, h1, h2, h3, h4⟩ := h
    exact ⟨p, _, e, h1, h2, .cons ⟨q, rfl, vs, h3, h4⟩ .nil, by simp⟩
  | .iff a r o, h => by
    obtain ⟨p, q, vs, q2, vs2, e, h1, h2, h3, h4, h5, h6⟩ := h
    exact ⟨p, _, e, h1, h2, .cons ⟨q, rfl, vs, h3, h4⟩ (.cons ⟨q2, rfl, vs2, h5, h6⟩ .nil), by simp⟩
theorem paired1 {α β : Type} {R : α → β → Prop} {xs : List α} {y : β} (h : Paired R xs [y]) : ∃ x, xs = [x] ∧ R x y := by
  cases h with
  | cons h t =>
    cases t
    exact ⟨_, rfl, h⟩
def Pc.deep : Pc → Nat
  | .rw r => deepR r + 1
  | _ => 0
theorem pcs_len (d : Dd) : d.pcs.length ≤ 2 := by cases d <;> simp [Dd.pcs]
end Js
set_option Elab.async false
set_option linter.all false
set_option maxRecDepth 100000
set_option maxHeartbeats 2000000
namespace Js
open PySem L2
open PySem.Spec PyProof.Rows
theorem takes0 {X : Cx} : Takes X (fun _ _ _ _ => False) := fun u s' x => by
  obtain ⟨_, _, _, _, _, _, _, _, _, _, _, _, _, _, _, _, h⟩ := x
  exact h.elim
mutual
def Dd.ok : Dd → Prop
  | .told a t => a < 10 ∧ t.size ≤ 4000
  | .take _ a b => a < 10 ∧ b < 10
  | .two _ a b c => a < 10 ∧ b < 10 ∧ c < 10
  | .wh a r => a < 10 ∧ okR r
  | .iff a r o => a < 10 ∧ okR r ∧ okR o
def okR : List Dd → Prop
  | [] => True
  | d :: r => d.ok ∧ okR r
end
end Js
set_option Elab.async false
set_option linter.all false
set_option maxRecDepth 100000
set_option maxHeartbeats 2000000
namespace Js
open PySem L2
def spObj (C : Addr) (fs : List V → List (Str × V)) (n : Nat) : Sp := fun vs H Q _ => ∃ p dx xs, vs = .ref p :: xs ∧ xs.length = n ∧ H p = some (.ins C dx []) ∧ Q .non (upd H p (.ins C dx (fs xs)))
def tObj (C : Addr) (fs : List V → List (Str × V)) (n : Nat) (dvs : List V) (t : TA) : TE := fun σ H Q => t σ H fun vs H1 => (vs ++ dvs).length = n ∧ ∀ z dx H', Same H1 H' → H1 z = none → H' z = some (.ins C dx (fs (vs ++ dvs))) → Q (.ref z) H'
theorem mk_obj {C : Addr} {fs : List V → List (Str × V)} {n : Nat} {vs : List V} {H : Hp} {Q : VK} {E : XK} (hn : vs.length = n) (k : ∀ z dx H', Same H H' → H z = none → H' z = some (.ins C dx (fs vs)) → Q (.ref z) H') :
    ∀ x dx, H x = none → H dx = none → dx ≠ x → spObj C fs n (.ref x :: vs) (upd (upd H dx (.own x)) x (.ins C dx [])) (fun v H2 => v = .non ∧ Q (.ref x) H2) E := by
  intro x dx nx ndx ne
  refine ⟨x, dx, vs, rfl, hn, upd_same, rfl, ?_⟩
  rw [upd_upd]
  refine k x dx _ (fun b o e => ?_) nx upd_same
  rw [upd_ne (ne_of_none e nx), upd_ne (ne_of_none e ndx)]
  exact e
section
open PyProof.Rows
variable {X : Cx} {C f : Addr} {k n : Nat} {fd : FuncData} {ps : List Str} {fs : List V → List (Str × V)} {ds : List Value} {dvs : List V} {p pos : Pos} {x : Str} {e : Expr} {es : List Expr} {t : TA}
theorem pe_obj (M : Mk X.K C f) (G : FnOk X.prog X.w X.K X.mg X.base CX0 k f fd ps (spObj C fs n)) (hr : Room (k + 1) X.A) (hg : Gl X x) (hm : X.mg x = some (.ref C)) (hb : Binds X.K fd ps ds) (hd : Vals dvs ds) (ha : PA X (e :: es) t)
    (hdb : (x == ("__debug__" : Str)) = false := by decide) (he : starEach (e :: es) X.env = (false, eval e X.env) :: starEach es X.env := by rfl) (hpl : (backTo pos (starEach es X.env)).any (·.1) = false := by rfl) : PE X (.Call (.Name x p) (e :: es) [] pos) (tObj C fs n dvs t) := by
  refine ⟨fun pins s σ H Q I h => ?_⟩
  refine wpAny_Call_Name_kw (ld_glob I hg hm ?_ hdb)
  refine PySem.W.callWith_K (h₀ := X.base) I.ok.mod.kin M.kp (thn (ha.run pos pins s σ H _ I h) fun us s1 ⟨vs, H1, I1, r, q⟩ => ⟨I1.kIn, ?_⟩) he hpl
  exact run_make M G hr hb hd pass0 I1 r (mk_obj q.1 q.2)
end
structure MkO (P : Program) (w : World) (K : PySem.W.Frag) (mg : Str → Option Value) (base : Heap) (x : Str) (CS f : Addr) (fd : FuncData) (ps : List Str) (fs : List V → List (Str × V)) (n : Nat) : Prop where
  M : Mk K CS f
  G : FnOk P w K mg base CX0 1 f fd ps (spObj CS fs n)
  mgc : mg x = some (.ref CS)
  b : Binds K fd ps []
end Js
set_option Elab.async false
set_option linter.all false
set_option maxRecDepth 100000
set_option maxHeartbeats 2000000
namespace Js
open PySem L2
abbrev sRowW : Stmt := top 29
abbrev sDeedW : Stmt := top 30
def letS : Nat → Str
  | 0 => "a" | 1 => "b" | 2 => "c" | 3 => "d" | 4 => "e" | 5 => "f" | 6 => "g" | 7 => "h" | 8 => "i" | _ => "j"
mutual
def Dd.words : Dd → List Str
  | .told a t => [letS a, ("=" : Str), t.text]
  | .take s a b => [letS a, ("=" : Str), takeS s, letS b]
  | .two s a b c => [letS a, ("=" : Str), twoS s, letS b, letS c]
  | .wh a r => [("while" : Str), letS a] ++ (("[" : Str) :: ((wordsT r).drop 1 ++ [("]" : Str)]))
  | .iff a r o => [("if" : Str), letS a] ++ (("[" : Str) :: ((wordsT r).drop 1 ++ [("]" : Str)])) ++ (("[" : Str) :: ((wordsT o).drop 1 ++ [("]" : Str)]))
def wordsT : List Dd → List Str
  | [] => []
  | d :: r => (";" : Str) :: (d.words ++ wordsT r)
end
def wordsR (r : List Dd) : List Str := (wordsT r).drop 1
def wordsL (rs : List (List Dd)) : List Str := rs.flatMap fun r => ("[" : Str) :: (wordsR r ++ [("]" : Str)])
def strV (xs : List Str) : List V := xs.map V.str
theorem strV_app (xs ys : List Str) : strV (xs ++ ys) = strV xs ++ strV ys := List.map_append
theorem strV_len (xs : List Str) : (strV xs).length = xs.length := List.length_map _
theorem wordsT_app : ∀ (a b : List Dd), wordsT (a ++ b) = wordsT a ++ wordsT b
  | [], b => by rw [List.nil_append, wordsT, List.nil_append]
  | d :: a, b => by rw [List.cons_append, wordsT, wordsT_app a b, wordsT, List.cons_append, List.append_assoc]
theorem wordsT_one (d : Dd) : wordsT [d] = (";" : Str) :: d.words := by rw [wordsT, wordsT, List.append_nil]
theorem words_ne : ∀ d : Dd, d.words ≠ []
  | .told _ _ => by simp [Dd.words]
  | .take _ _ _ => by simp [Dd.words]
  | .two _ _ _ _ => by simp [Dd.words]
  | .wh _ _ => by simp [Dd.words]
  | .iff _ _ _ => by simp [Dd.words]
theorem wordsR_nil : wordsR [] = [] := by rw [wordsR, wordsT]; rfl
theorem wordsR_first (d : Dd) : wordsR [d] = d.words := by rw [wordsR, wordsT_one]; rfl
theorem wordsR_snoc (a : List Dd) (d : Dd) (h : a ≠ []) : wordsR (a ++ [d]) = wordsR a ++ [(";" : Str)] ++ d.words := by
  cases a with
  | nil => exact absurd rfl h
  | cons x a => rw [wordsR, wordsT_app, wordsT_one, wordsR, wordsT, List.cons_append, List.drop_succ_cons, List.drop_zero, List.drop_succ_cons, List.drop_zero]; simp
theorem wordsR_ne (a : List Dd) (h : a ≠ []) : wordsR a ≠ [] := by
  cases a with
  | nil => exact absurd rfl h
  | cons x a =>
    rw [wordsR, wordsT, List.drop_succ_cons, List.drop_zero]
    intro z
    exact words_ne x (List.append_eq_nil_iff.mp z).1
mutual
theorem words_len : ∀ d : Dd, d.words.length + 1 ≤ 8 * d.many
  | .told _ _ => by rw [many_told]; simp [Dd.words]
  | .take _ _ _ => by rw [many_take]; simp [Dd.words]
  | .two _ _ _ _ => by rw [many_two]; simp [Dd.words]
  | .wh a r => by
    have := wordsT_len r
    rw [many_wh]
    simp only [Dd.words, List.length_append, List.length_cons, List.length_nil, List.length_drop]
    omega
  | .iff a r o => by
    have := wordsT_len r
    have := wordsT_len o
    rw [many_iff]
    simp only [Dd.words, List.length_append, List.length_cons, List.length_nil, List.length_drop]
    omega
theorem wordsT_len : ∀ r : List Dd, (wordsT r).length ≤ 8 * manyR r
  | [] => by rw [wordsT]; exact Nat.zero_le _
  | d :: r => by
    have := words_len d
    have := wordsT_len r
    rw [many_cons, wordsT]
    simp only [List.length_append, List.length_cons]
    omega
end
theorem wordsR_len (r : List Dd) : (wordsR r).length ≤ 8 * manyR r := by
  have := wordsT_len r
  rw [wordsR, List.length_drop]
  omega
def spRowW (K : PySem.W.Frag) (C : Addr) (n : Nat) : Sp := fun vs H Q _ => ∃ q r, vs = [.ref q] ∧ RAt K C H q r ∧ deepR r < n ∧ manyR r ≤ 4000 ∧ ∀ p H', Same H H' → H p = none → H' p = some (.lst (strV (wordsR r))) → Q (.ref p) H'
def spDeedW (K : PySem.W.Frag) (C : Addr) (n : Nat) : Sp := fun vs H Q _ => ∃ v d, vs = [v] ∧ DAt K C H v d ∧ d.deep < n ∧ d.many ≤ 4000 ∧ ∀ p H', Same H H' → H p = none → H' p = some (.lst (strV d.words)) → Q (.ref p) H'
section
variable {P : Program} {w : World} {K : PySem.W.Frag} {mg : Str → Option Value} {base : Heap} {C : Addr}
theorem scRW : FnScope ["row", "words", "deed"] ["row"] (defScope sRowW) := ⟨rfl, rfl, rfl, by decide +kernel, rfl, by decide +kernel, by decide +kernel⟩
theorem ok_rowW {f fD : Addr} {fd fdD : FuncData} (F : Fun K "row_words" "row_words" sRowW f fd) (FD : Fun K "deed_words" "deed_words" sDeedW fD fdD) (mgd : mg "deed_words" = some (.ref fD)) (bd : Binds K fdD ["deed"] []) (m n : Nat) (GD : FnOk P w K mg base CX0 m fD fdD ["deed"] (spDeedW K C n)) : FnOk P w K mg base CX0 (m + 1) f fd ["row"] (spRowW K C n) := by
  refine F.ok scRW (fun vs H Q E h => ?_) (fun cdv A outer s H vs Q E hr h => ?_)
  · obtain ⟨q, r, rfl, _⟩ := h
    rfl
  · obtain ⟨q, r, rfl, ⟨vs, hq, hvs⟩, hdp, hmn, k⟩ := h
    refine ⟨_, pss_cons (ps_set (i := 1) scRW.nd rfl (Or.inl rfl) (pe_lst pa_nil)) (pss_cons (ps_for PassesOwn.never rfl (pi_tup (pv 0)) (pg_name (i := 2) scRW.nd rfl (Or.inl rfl)) (pss_cons (ps_if (pt_truth (pv 1) (by intro _; rfl)) (pss_one (ps_expr (pe_bm PySem.F.plainAttrs_list PySem.F.slot_list_append PySem.F.type_list_append mt_append (pv 1) (pa_cons pe_str pa_nil)))) pss_nil) (pss_one (ps_expr (pe_bm PySem.F.plainAttrs_list PySem.F.slot_list_extend PySem.F.type_list_extend mt_extend (pv 1) (pa_cons (pe_call GD hr rfl mgd FD.kp bd .nil pass0 (pa_cons (pv 2) pa_nil)) pa_nil)))))) (pss_one (ps_ret (pv 1)))), ?_⟩
    have hsl := line4
    have hlen := DsAt.length r vs hvs
    refine ⟨Nat.zero_le _, fun l nl => ?_⟩
    refine ⟨_, rfl, q, rfl, ⟨_, sqt_kt (KT.of (Same.new nl)) hq⟩, for_tup (K := K) (a := q) (xs := vs) (fun i σ H' => ∃ x2 : Option V, σ = [some (.ref q), some (.ref l), x2] ∧ Same H H' ∧ H' l = some (.lst (strV (wordsR (r.take i))))) ⟨none, rfl, Same.new nl, by rw [upd_same, List.take_zero, wordsR_nil]; rfl⟩ (fun i σ H1 _ z => ?_) ?_ ?_⟩
    · obtain ⟨_, _, s1, _⟩ := z
      exact sqt_kt (KT.of s1) hq
    · rintro i v σ H1 hv ⟨x2, rfl, s1, hl1⟩
      obtain ⟨d, hd, hdv⟩ := DsAt.get r vs i v hvs hv
      have hdd := deepR_mem r d (List.mem_of_getElem? hd)
      have hmt := manyR_take r i d hd
      have hwl := wordsR_len (r.take i)
      have hdl := words_len d
      refine ⟨_, rfl, !(strV (wordsR (r.take i))).isEmpty, .inl ⟨_, SqL.of hl1, rfl⟩, ?_⟩
      by_cases h0 : r.take i = []
      · rw [h0, wordsR_nil] at hl1
        rw [h0, wordsR_nil]
        refine iteF ?_
        refine ⟨_, rfl, .inl ⟨rfl, _, SqL.of hl1⟩, _, rfl, v, d, rfl, DAt_kt (KT.of s1) d v hdv, by omega, by omega, fun p H2 s2 np hp => ?_⟩
        refine ⟨l, p, _, _, rfl, rfl, s2 _ _ hl1, hp, by rw [strV_len, strV_len, List.length_nil]; omega, ?_⟩
        refine ⟨_, rfl, (s1.trans s2).set nl, ?_⟩
        rw [upd_same, take_snoc hd, h0, List.nil_append, wordsR_first]
        rfl
      · have hne := wordsR_ne _ h0
        rw [show (!(strV (wordsR (r.take i))).isEmpty) = true from by
          cases e : wordsR (r.take i) with
          | nil => exact absurd e hne
          | cons _ _ => rfl]
        refine iteT ?_
        refine ⟨_, rfl, .inl ⟨rfl, _, SqL.of hl1⟩, l, _, _, rfl, rfl, hl1, by rw [strV_len]; omega, ?_⟩
        have s1' := s1.set (o := .lst (strV (wordsR (r.take i)) ++ [V.str ";"])) nl
        have hl2 : (upd H1 l (.lst (strV (wordsR (r.take i)) ++ [V.str ";"]))) l = some (.lst (strV (wordsR (r.take i)) ++ [V.str ";"])) := upd_same
        revert s1' hl2
        generalize upd H1 l (.lst (strV (wordsR (r.take i)) ++ [V.str ";"])) = H1'
        intro s1' hl2
        refine ⟨_, rfl, .inl ⟨rfl, _, SqL.of hl2⟩, _, rfl, v, d, rfl, DAt_kt (KT.of s1') d v hdv, by omega, by omega, fun p H2 s2 np hp => ?_⟩
        refine ⟨l, p, _, _, rfl, rfl, s2 _ _ hl2, hp, by rw [List.length_append, strV_len, strV_len, List.length_singleton]; omega, ?_⟩
        refine ⟨_, rfl, (s1'.trans s2).set nl, ?_⟩
        rw [upd_same, take_snoc hd, wordsR_snoc _ _ h0, strV_app, strV_app]
        rfl
    · rintro σ H1 ⟨x2, rfl, s1, hl1⟩
      refine ⟨_, rfl, ?_⟩
      rw [hlen, List.take_length] at hl1
      exact k l H1 s1 nl hl1
theorem scDW : FnScope ["deed", "kind", "letters", "inner", "words", "part", "name"] ["deed"] (defScope sDeedW) := ⟨rfl, rfl, rfl, by decide +kernel, rfl, by decide +kernel, by decide +kernel⟩
theorem let_at (a : Nat) (h : a < 10) : ∃ c, atI (("abcdefghij" : Str)).cps.toList ((a : Nat) : Int) = some c ∧ letS a = ⟨#[c]⟩ := by
  match a, h with
  | 0, _ => exact ⟨97, by decide +kernel, by decide +kernel⟩
  | 1, _ => exact ⟨98, by decide +kernel, by decide +kernel⟩
  | 2, _ => exact ⟨99, by decide +kernel, by decide +kernel⟩
  | 3, _ => exact ⟨100, by decide +kernel, by decide +kernel⟩
  | 4, _ => exact ⟨101, by decide +kernel, by decide +kernel⟩
  | 5, _ => exact ⟨102, by decide +kernel, by decide +kernel⟩
  | 6, _ => exact ⟨103, by decide +kernel, by decide +kernel⟩
  | 7, _ => exact ⟨104, by decide +kernel, by decide +kernel⟩
  | 8, _ => exact ⟨105, by decide +kernel, by decide +kernel⟩
  | 9, _ => exact ⟨106, by decide +kernel, by decide +kernel⟩
theorem words_rows : ∀ d : Dd, d.rows ≠ [] → d.words = [kindOf d, letS (d.names.headD 0)] ++ wordsL d.rows
  | .told _ _, h => absurd rfl h
  | .take _ _ _, h => absurd rfl h
  | .two _ _ _ _, h => absurd rfl h
  | .wh a r, _ => by simp [Dd.words, kindOf, Dd.names, Dd.rows, wordsL, wordsR]
  | .iff a r o, _ => by simp [Dd.words, kindOf, Dd.names, Dd.rows, wordsL, wordsR]
theorem words_flat : ∀ d : Dd, d.rows = [] → kindOf d ≠ ("told" : Str) → d.words = [letS (d.names.headD 0), ("=" : Str), kindOf d] ++ (d.names.map letS).drop 1
  | .told _ _, _, h => absurd rfl h
  | .take _ _ _, _, _ => by simp [Dd.words, kindOf, Dd.names]
  | .two _ _ _ _, _, _ => by simp [Dd.words, kindOf, Dd.names]
  | .wh a r, h, _ => by cases h
  | .iff a r o, h, _ => by cases h
theorem names_cons : ∀ d : Dd, ∃ a ns, d.names = a :: ns
  | .told a _ => ⟨a, _, rfl⟩
  | .take _ a _ => ⟨a, _, rfl⟩
  | .two _ a _ _ => ⟨a, _, rfl⟩
  | .wh a _ => ⟨a, _, rfl⟩
  | .iff a _ _ => ⟨a, _, rfl⟩
theorem told_of : ∀ d : Dd, kindOf d = ("told" : Str) → ∃ a t, d = .told a t
  | .told a t, _ => ⟨a, t, rfl⟩
  | .take false _ _, h => absurd (show ("first" : Str) = "told" from h) (by decide +kernel)
  | .take true _ _, h => absurd (show ("second" : Str) = "told" from h) (by decide +kernel)
  | .two false _ _ _, h => absurd (show ("pair" : Str) = "told" from h) (by decide +kernel)
  | .two true _ _ _, h => absurd (show ("same" : Str) = "told" from h) (by decide +kernel)
  | .wh _ _, h => absurd (show ("while" : Str) = "told" from h) (by decide +kernel)
  | .iff _ _ _, h => absurd (show ("if" : Str) = "told" from h) (by decide +kernel)
theorem names_few : ∀ d : Dd, d.names.length ≤ 3
  | .told _ _ => by simp [Dd.names]
  | .take _ _ _ => by simp [Dd.names]
  | .two _ _ _ _ => by simp [Dd.names]
  | .wh _ _ => by simp [Dd.names]
  | .iff _ _ _ => by simp [Dd.names]
theorem wordsL_snoc (a : List (List Dd)) (r : List Dd) : wordsL (a ++ [r]) = wordsL a ++ ((("[" : Str) :: wordsR r) ++ [("]" : Str)]) := by
  simp [wordsL]
theorem wordsL_len : ∀ rs : List (List Dd), (wordsL rs).length ≤ 8 * manyL rs + 2 * rs.length
  | [] => Nat.zero_le _
  | r :: rs => by
    have h1 := wordsL_len rs
    have h2 := wordsR_len r
    have e : wordsL (r :: rs) = (("[" : Str) :: (wordsR r ++ [("]" : Str)])) ++ wordsL rs := by simp [wordsL]
    rw [e, manyL]
    simp only [List.length_append, List.length_cons, List.length_nil]
    omega
theorem ok_deedW {f fR : Addr} {fd fdR : FuncData} {tL : Tok} (F : Fun K "deed_words" "deed_words" sDeedW f fd) (FR : Fun K "row_words" "row_words" sRowW fR fdR) (mgr : mg "row_words" = some (.ref fR)) (br : Binds K fdR ["row"] []) (B : Blt mg) (G : FrmC K w mg) (mL : mg "LETTERS" = some (.str "abcdefghij" tL)) (SS : Spc P w K mg base C "__str__" 2 ["self"] (spStr C)) (DN : Def P w K mg base "names_in" 1 ["deed"] (spNamesIn K C)) (DR : Def P w K mg base "rows_in" 1 ["deed"] (spRowsIn K C)) (m n : Nat) (hm : 4 ≤ m) (GR : FnOk P w K mg base CX0 m fR fdR ["row"] (spRowW K C n)) : FnOk P w K mg base CX0 (m + 1) f fd ["deed"] (spDeedW K C (n + 1)) := by
  refine F.ok scDW (fun vs H Q E h => ?_) (fun cdv A outer s H vs Q E hr h => ?_)
  · obtain ⟨v, d, rfl, _⟩ := h
    rfl
  · obtain ⟨v, d, rfl, hd, hdp, hmn, k⟩ := h
    have hr1 : Room 1 _ := hr.mono (by omega)
    have hr4 : Room 4 _ := hr.mono (by omega)
    refine ⟨_, pss_cons (ps_set (i := 1) scDW.nd rfl (Or.inl rfl) (pe_ix (r := rIxT K) ix_tup (pv 0) pe_int (fun _ _ => rfl))) (pss_cons (ps_setLc (i := 2) (own := [("name", 6)]) (g := gName 6) (tt := tYes) rfl scDW.nd rfl rfl rfl (pi_tup (pe_def DN hr1 rfl (pa_cons (pv 0) pa_nil))) (blkOk_by (N := ["deed", "kind", "letters", "inner", "words", "part", "name"]) (sc := defScope sDeedW) (by decide +kernel)) (fun _ _ _ _ _ => pg_name (i := 6) scDW.nd rfl (Or.inl rfl)) (fun _ _ _ _ _ => pts_nil) (fun _ _ _ _ _ => (pe_ix (r := rIxS) ix_str (pe_glob (v := .str "abcdefghij") rfl mL ⟨_, rfl⟩) (pv 6) (fun _ _ => rfl)))) (pss_cons (ps_if (pt_cmpR op_eq (pv 1) pe_str (nomark _)) (pss_one (ps_ret (pe_lst (pa_cons (pe_ix (r := rIxL K) ix_list (pv 2) pe_int (fun _ _ => rfl)) (pa_cons pe_str (pa_cons (pe_callTy (call_strT SS hr4) (by rfl) B.str PyProof.Rows.boot_str (pa_cons (pe_ix (r := rIxT K) ix_tup (pv 0) pe_int (fun _ _ => rfl)) pa_nil)) pa_nil)))))) pss_nil) (pss_cons (ps_set (i := 3) scDW.nd rfl (Or.inl rfl) (pe_def DR hr1 rfl (pa_cons (pv 0) pa_nil))) (pss_cons (ps_if (pt_not (pt_truth (pv 3) (by intro _; rfl))) (pss_one (ps_ret (pe_op op_cat (pe_lst (pa_cons (pe_ix (r := rIxL K) ix_list (pv 2) pe_int (fun _ _ => rfl)) (pa_cons pe_str (pa_cons (pv 1) pa_nil)))) (pe_slice sl_list (pv 2) (po_some pe_int) po_none)))) pss_nil) (pss_cons (ps_set (i := 4) scDW.nd rfl (Or.inl rfl) (pe_lst (pa_cons (pv 1) (pa_cons (pe_ix (r := rIxL K) ix_list (pv 2) pe_int (fun _ _ => rfl)) pa_nil)))) (pss_cons (ps_for PassesOwn.never rfl (pi_tup (pv 3)) (pg_name (i := 5) scDW.nd rfl (Or.inl rfl)) (pss_one (ps_expr (pe_bm PySem.F.plainAttrs_list PySem.F.slot_list_extend PySem.F.type_list_extend mt_extend (pv 4) (pa_cons (pe_op op_cat (pe_op op_cat (pe_lst (pa_cons pe_str pa_nil)) (pe_call GR hr rfl mgr FR.kp br .nil pass0 (pa_cons (pv 5) pa_nil))) (pe_lst (pa_cons pe_str pa_nil))) pa_nil))))) (pss_one (ps_ret (pv 4))))))))), ?_⟩
    have hsl := line4
    obtain ⟨p, its, mm, rfl, hp, _, _, _, _, _, _, hn10⟩ := names_look d hd
    obtain ⟨a, ns, hns⟩ := names_cons d
    have hnf := names_few d
    refine ⟨_, rfl, p, _, 0, _, rfl, rfl, hp, at0 _ _, ?_⟩
    refine ⟨_, rfl, _, d, rfl, hd, fun np H1 s1 hnp => ?_⟩
    refine ⟨np, rfl, ⟨_, hnp⟩, fun D nD => lc_tup (K := K) (a := np) (xs := namesV d.names) (fun i H' => Same H1 H' ∧ H' D = some (.lst (strV ((d.names.take i).map letS)))) ⟨Same.new nD, upd_same⟩ (fun i H' _ z => sqt_kt (KT.of z.1) hnp) ?_ ?_⟩
    · rintro i x H2 hx ⟨s2, hD⟩
      rw [namesV, List.getElem?_map] at hx
      cases e : d.names[i]? with
      | none => rw [e] at hx; cases hx
      | some b =>
      rw [e] at hx
      cases Option.some.inj hx
      obtain ⟨c, hc1, hc2⟩ := let_at b (hn10 b (List.mem_of_getElem? e))
      refine ⟨rfl, lc_yes ?_⟩
      refine ⟨_, rfl, _, _, c, rfl, rfl, by show 10 ≤ sizeLine; omega, hc1, ?_⟩
      refine ⟨_, hD, by rw [strV_len, List.length_map, List.length_take]; omega, s2.set nD, ?_⟩
      rw [upd_same, take_snoc e, List.map_append, strV_app, ← hc2]
      rfl
    · rintro H2 ⟨s2, hD⟩
      rw [show (namesV d.names).length = d.names.length from List.length_map _, List.take_length, hns, List.map_cons] at hD
      rw [hns, List.length_cons] at hnf
      have sH := s1.trans s2
      have hd2 := DAt_kt (KT.of sH) d _ hd
      have hp2 := sqt_kt (KT.of sH) hp
      have hlD : H D = none := s1.free nD
      refine ⟨_, rfl, rfl, _, rfl, ?_⟩
      by_cases ht : kindOf d = ("told" : Str)
      · rw [decide_eq_true (congrArg V.str ht)]
        refine iteT ?_
        obtain ⟨a', t, rfl⟩ := told_of d ht
        cases hns
        obtain ⟨p2, x, e2, hq2, ha, hx, hz⟩ := hd2
        cases e2
        refine ⟨_, rfl, D, _, 0, _, rfl, rfl, SqL.of hD, at0 _ _, ?_⟩
        refine ⟨_, rfl, p, _, 2, _, rfl, rfl, hq2, (show atI [V.str "told", V.int (a : Nat), V.ref x] ((2 : Nat) : Int) = some (V.ref x) from atI_nat rfl), x, t, rfl, hx, hz, fun H3 s3 => ?_⟩
        refine ⟨by show 3 ≤ sizeLine; omega, fun l nl => ?_⟩
        exact k l _ ((sH.trans s3).trans (Same.new nl)) ((sH.trans s3).free nl) upd_same
      · rw [decide_eq_false (fun z => ht (V.str.inj z))]
        refine iteF ?_
        refine ⟨_, rfl, _, d, rfl, hd2, fun ip ws H3 s3 hip hws => ?_⟩
        have hwl := Paired.length hws
        have hD3 := s3 _ _ hD
        refine ⟨_, rfl, !ws.isEmpty, .inr (.inl ⟨ws, hip, rfl⟩), ?_⟩
        by_cases hrw : d.rows = []
        · have hw0 : ws = [] := by
            rw [hrw] at hwl
            exact List.length_eq_zero_iff.mp hwl
          subst hw0
          refine iteT ?_
          refine ⟨_, rfl, D, _, 0, _, rfl, rfl, SqL.of hD3, at0 _ _, _, rfl, by show 3 ≤ sizeLine; omega, fun l nl => ?_⟩
          have sl := Same.new nl (o := .lst [V.str (letS a), V.str "=", V.str (kindOf d)])
          refine ⟨_, rfl, _, rfl, D, _, rfl, SqL.of (sl _ _ hD3), fun l2 nl2 => ?_⟩
          have nll : l ≠ l2 := ne_of_none upd_same nl2
          refine ⟨l, l2, _, _, rfl, rfl, (upd_ne nll).trans upd_same, upd_same, ?_, fun l3 nl3 => ?_⟩
          · rw [show strV (letS a :: ns.map letS) = V.str (letS a) :: strV (ns.map letS) from rfl, cut1, strV_len, List.length_map]
            show 3 + _ ≤ _
            omega
          · rw [show strV (letS a :: ns.map letS) = V.str (letS a) :: strV (ns.map letS) from rfl, cut1] at nl3 ⊢
            have sA := ((sH.trans s3).trans sl).trans (Same.new nl2 (o := .lst (strV (ns.map letS))))
            refine k l3 _ (sA.trans (Same.new nl3)) (sA.free nl3) ?_
            rw [upd_same, words_flat d hrw ht, hns]
            rfl
        · have hw1 : ws.isEmpty = false := by
            cases ws with
            | nil => exact absurd (List.length_eq_zero_iff.mp hwl.symm) hrw
            | cons _ _ => rfl
          rw [hw1]
          refine iteF ?_
          refine ⟨_, rfl, _, rfl, D, _, 0, _, rfl, rfl, SqL.of hD3, at0 _ _, by show 2 ≤ sizeLine; omega, fun l nl => ?_⟩
          have hdr := deep_rows d hrw
          have hmr := many_rows d
          have hrl : d.rows.length ≤ 2 := by cases d <;> simp [Dd.rows]
          refine ⟨_, rfl, ip, rfl, ⟨_, sqt_kt (KT.of (Same.new nl)) hip⟩, for_tup (K := K) (a := ip) (xs := ws) (fun j σ H' => ∃ x5 : Option V, σ = [some (.ref p), some (.str (kindOf d)), some (.ref D), some (.ref ip), some (.ref l), x5, none] ∧ Same H3 H' ∧ H' l = some (.lst (strV ([kindOf d, letS a] ++ wordsL (d.rows.take j))))) ⟨none, rfl, Same.new nl, upd_same⟩ (fun j σ H' _ z => ?_) ?_ ?_⟩
          · obtain ⟨_, _, s4, _⟩ := z
            exact sqt_kt (KT.of s4) hip
          · rintro j y σ H4 hy ⟨x5, rfl, s4, hl4⟩
            obtain ⟨r6, hr6, q6, rfl, hq6⟩ := paired_get hws hy
            have hml := manyL_take d.rows j r6 hr6
            have hdl := deepL_mem d.rows r6 (List.mem_of_getElem? hr6)
            have hwL := wordsL_len (d.rows.take j)
            have hwR := wordsR_len r6
            rw [List.length_take] at hwL
            refine ⟨_, rfl, .inl ⟨rfl, _, SqL.of hl4⟩, by show 1 ≤ sizeLine; omega, fun u nu => ?_⟩
            have su := Same.new nu (o := .lst [V.str "["])
            refine ⟨_, rfl, q6, r6, rfl, (hq6.same s4).same su, by omega, by omega, fun p5 H5 s5 np5 hp5 => ?_⟩
            refine ⟨u, p5, _, _, rfl, rfl, s5 _ _ upd_same, hp5, by rw [strV_len]; show 1 + _ ≤ _; omega, fun u2 nu2 => ?_⟩
            have su2 := Same.new nu2 (o := .lst ([V.str "["] ++ strV (wordsR r6)))
            refine ⟨by show 1 ≤ sizeLine; omega, fun u3 nu3 => ?_⟩
            have su3 := Same.new nu3 (o := .lst [V.str "]"])
            refine ⟨u2, u3, _, _, rfl, rfl, su3 _ _ upd_same, upd_same, by rw [List.length_append, strV_len]; show 1 + _ + 1 ≤ _; omega, fun u4 nu4 => ?_⟩
            have su4 := Same.new nu4 (o := .lst (([V.str "["] ++ strV (wordsR r6)) ++ [V.str "]"]))
            have sB := (((su.trans s5).trans su2).trans su3).trans su4
            refine ⟨l, u4, _, _, rfl, rfl, sB _ _ hl4, upd_same, ?_, ?_⟩
            · simp only [List.length_append, strV_len, List.length_cons, List.length_nil]
              omega
            · refine ⟨_, rfl, (s4.trans sB).set nl, ?_⟩
              rw [upd_same, take_snoc hr6, wordsL_snoc, ← List.append_assoc [kindOf d, letS a], strV_app ([kindOf d, letS a] ++ wordsL (d.rows.take j))]
              rw [strV_app (("[" : Str) :: wordsR r6)]
              rfl
          · rintro σ H4 ⟨x5, rfl, s4, hl4⟩
            rw [hwl, List.take_length] at hl4
            refine ⟨_, rfl, ?_⟩
            refine k l H4 ((sH.trans s3).trans s4) ((sH.trans s3).free nl) ?_
            rw [hl4, words_rows d hrw, hns]
            rfl
end
end Js
set_option Elab.async false
set_option linter.all false
set_option maxRecDepth 100000
set_option maxHeartbeats 2000000
namespace Js
open PySem L2
abbrev sRead : Stmt := top 32
abbrev sWhole : Stmt := top 33
abbrev sDue : Stmt := top 34
def whole : List (List Tr) → Bool
  | [[_]] => true
  | _ => false
def topLen : List (List Tr) → Nat
  | [] => 0
  | xs :: _ => xs.length
inductive Rel (t : Tr) : List (List Tr) → List (Option Tr) → Prop where
  | start : Rel t [[]] [some t]
  | fin : Rel t [[t]] []
  | l0 {lv ws l r} : Rel t lv (some (.pr l r) :: ws) → Rel t ([] :: lv) (some l :: some r :: none :: ws)
  | l1 {lv ws l r} : Rel t lv (some (.pr l r) :: ws) → Rel t ([l] :: lv) (some r :: none :: ws)
  | l2 {lv ws l r} : Rel t lv (some (.pr l r) :: ws) → Rel t ([l, r] :: lv) (none :: ws)
theorem Rel.ne {t : Tr} {lv : List (List Tr)} {ws : List (Option Tr)} (h : Rel t lv ws) : lv ≠ [] := by
  cases h <;> simp
theorem Rel.shut {t : Tr} {lv : List (List Tr)} {ws : List (Option Tr)} (h : Rel t lv (none :: ws)) : ∃ l r lv', lv = [l, r] :: lv' ∧ Rel t lv' (some (.pr l r) :: ws) := by
  cases h with
  | l2 h => exact ⟨_, _, _, rfl, h⟩
theorem Rel.done {t : Tr} {lv : List (List Tr)} (h : Rel t lv []) : lv = [[t]] := by
  cases h with
  | fin => rfl
def nn : List (Option Tr) → Nat
  | [] => 0
  | none :: r => nn r + 1
  | some _ :: r => nn r
theorem Rel.len {t : Tr} {lv : List (List Tr)} {ws : List (Option Tr)} (h : Rel t lv ws) : lv.length = 1 + nn ws := by
  induction h with
  | start => rfl
  | fin => rfl
  | l0 _ ih => simp only [nn, List.length_cons] at ih ⊢; omega
  | l1 _ ih => simp only [nn, List.length_cons] at ih ⊢; omega
  | l2 _ ih => simp only [nn, List.length_cons] at ih ⊢; omega
theorem Rel.room {t x : Tr} {xs : List Tr} {lv : List (List Tr)} {ws : List (Option Tr)} (h : Rel t (xs :: lv) (some x :: ws)) : xs.length ≤ 1 := by
  cases h <;> simp
def lsz (lv : List (List Tr)) : Nat := (lv.map fun xs => (xs.map Tr.size).sum).sum
theorem lsz_cons (xs : List Tr) (lv : List (List Tr)) : lsz (xs :: lv) = (xs.map Tr.size).sum + lsz lv := by simp [lsz]
def LvAt (C : Addr) (H : Hp) (p : Addr) (xs : List Tr) : Prop := ∃ vs, H p = some (.lst vs) ∧ Paired (ThV C H) vs xs
structure Levels (C : Addr) (H : Hp) (LA : Addr) (ps : List Addr) (lv : List (List Tr)) : Prop where
  la : H LA = some (.lst (ps.map V.ref).reverse)
  at_ : Paired (LvAt C H) ps lv
  nd : (LA :: ps).Nodup
theorem lv_keep {C : Addr} {H H' : Hp} (k : KT H H') : ∀ {ps : List Addr} {lv : List (List Tr)}, (∀ p ∈ ps, ∀ vs, H p = some (.lst vs) → H' p = some (.lst vs)) → Paired (LvAt C H) ps lv → Paired (LvAt C H') ps lv
  | _, _, _, .nil => .nil
  | p :: ps, _, hl, .cons ⟨vs, h1, h2⟩ t => .cons ⟨vs, hl p (List.mem_cons_self ..) vs h1, ths_kt k h2⟩ (lv_keep k (fun q hq => hl q (List.mem_cons_of_mem _ hq)) t)
theorem Levels.same {C : Addr} {H H' : Hp} (s : Same H H') {LA : Addr} {ps : List Addr} {lv : List (List Tr)} (h : Levels C H LA ps lv) : Levels C H' LA ps lv :=
  ⟨s _ _ h.la, lv_keep (KT.of s) (fun _ _ _ e => s _ _ e) h.at_, h.nd⟩
theorem at_some {C : Addr} {H : Hp} : ∀ {ps : List Addr} {lv : List (List Tr)}, Paired (LvAt C H) ps lv → ∀ p ∈ ps, ∃ vs, H p = some (.lst vs)
  | _, _, .nil, p, hp => by cases hp
  | _, _, .cons ⟨vs, h1, _⟩ t, p, hp => by
    rcases List.mem_cons.mp hp with rfl | hp
    · exact ⟨vs, h1⟩
    · exact at_some t p hp
theorem Levels.put {C : Addr} {H : Hp} {LA p : Addr} {ps : List Addr} {xs : List Tr} {lv : List (List Tr)} {vs : List V} {v : V} {x : Tr} (h : Levels C H LA (p :: ps) (xs :: lv)) (hp : H p = some (.lst vs)) (hv : ThV C H v x) :
    Levels C (upd H p (.lst (vs ++ [v]))) LA (p :: ps) ((xs ++ [x]) :: lv) := by
  have nd := h.nd
  rw [List.nodup_cons, List.nodup_cons] at nd
  have k : KT H (upd H p (.lst (vs ++ [v]))) := KT.lst hp
  have hat := h.at_
  cases hat with
  | cons h0 t =>
    obtain ⟨vs', e1, e2⟩ := h0
    have e := Option.some.inj (hp.symm.trans e1)
    injection e with e
    subst e
    refine ⟨(upd_ne (fun z => nd.1 (by rw [z]; simp))).trans h.la, .cons ⟨_, upd_same, paired_snoc (ths_kt k e2) (hv.kt k)⟩ (lv_keep k (fun q hq ws e => ?_) t), h.nd⟩
    rw [upd_ne (fun z => nd.2.1 (by rw [← z]; exact hq))]
    exact e
theorem Levels.open_ {C : Addr} {H : Hp} {LA q : Addr} {ps : List Addr} {lv : List (List Tr)} (h : Levels C H LA ps lv) (nq : H q = none) :
    Levels C (upd (upd H q (.lst [])) LA (.lst ((ps.map V.ref).reverse ++ [.ref q]))) LA (q :: ps) ([] :: lv) := by
  have nqL : LA ≠ q := ne_of_none h.la nq
  have hL : (upd H q (.lst [])) LA = some (.lst (ps.map V.ref).reverse) := (upd_ne nqL).trans h.la
  have k : KT H (upd (upd H q (.lst [])) LA (.lst ((ps.map V.ref).reverse ++ [.ref q]))) := (KT.new nq).trans (KT.lst hL)
  have nd := h.nd
  rw [List.nodup_cons] at nd
  refine ⟨by rw [upd_same, List.map_cons, List.reverse_cons], .cons ⟨[], (upd_ne (Ne.symm nqL)).trans upd_same, .nil⟩ (lv_keep k (fun p hp ws e => ?_) h.at_), ?_⟩
  · rw [upd_ne (fun z => nd.1 (by rw [← z]; exact hp)), upd_ne (ne_of_none e nq)]
    exact e
  · rw [List.nodup_cons, List.nodup_cons]
    refine ⟨fun z => ?_, fun z => ?_, nd.2⟩
    · rcases List.mem_cons.mp z with z | z
      · exact nqL z
      · exact nd.1 z
    · obtain ⟨ws, e⟩ := at_some h.at_ q z
      rw [nq] at e
      cases e
theorem Levels.shut {C : Addr} {H : Hp} {LA p : Addr} {ps : List Addr} {xs : List Tr} {lv : List (List Tr)} (h : Levels C H LA (p :: ps) (xs :: lv)) : Levels C (upd H LA (.lst (ps.map V.ref).reverse)) LA ps lv := by
  have nd := h.nd
  rw [List.nodup_cons, List.nodup_cons] at nd
  have hat := h.at_
  cases hat with
  | cons h0 t =>
    refine ⟨upd_same, lv_keep (KT.lst h.la) (fun q hq ws e => ?_) t, ?_⟩
    · rw [upd_ne (fun z => nd.1 (by rw [← z]; simp [hq]))]
      exact e
    · rw [List.nodup_cons]
      exact ⟨fun z => nd.1 (by simp [z]), nd.2.2⟩
def due (lv : List (List Tr)) (b : Nat) : Str := if whole lv = true then "" else if topLen lv = 2 then ")" else if b = 4000 then "." else ".("
def spWhole (C : Addr) : Sp := fun vs H Q _ => ∃ LA ps lv, vs = [.ref LA] ∧ Levels C H LA ps lv ∧ lv ≠ [] ∧ Q (.bl (whole lv)) H
def spDue (C : Addr) : Sp := fun vs H Q _ => ∃ LA ps lv b, vs = [.ref LA, .int (b : Nat)] ∧ Levels C H LA ps lv ∧ lv ≠ [] ∧ Q (.str (due lv b)) H
section
variable {P : Program} {w : World} {K : PySem.W.Frag} {mg : Str → Option Value} {base : Heap} {C fI : Addr} {fdI : FuncData}
theorem scW : FnScope ["levels"] ["levels"] (defScope sWhole) := ⟨rfl, rfl, rfl, by decide +kernel, rfl, by decide +kernel, by decide +kernel⟩
theorem ok_whole {f : Addr} {fd : FuncData} (F : Fun K "is_whole" "is_whole" sWhole f fd) (T : Txt K mg C) : FnOk P w K mg base CX0 1 f fd ["levels"] (spWhole C) := by
  refine F.ok scW (fun vs H Q E h => ?_) (fun cdv A outer s H vs Q E hr h => ?_)
  · obtain ⟨LA, ps, lv, rfl, _⟩ := h
    rfl
  · obtain ⟨LA, ps, lv, rfl, hL, hne, k⟩ := h
    refine ⟨_, pss_one (ps_ret (pe_and (pe_cmpR op_eq (pe_callB call_len_seq (by rfl) T.len PySem.boot_len (pa_cons (pv 0) pa_nil)) pe_int (nomark _))
      (pe_one (pe_cmpR op_eq (pe_callB call_len_seq (by rfl) T.len PySem.boot_len (pa_cons (pe_ix ix_list (pv 0) pe_int (fun _ _ => rfl)) pa_nil)) pe_int (nomark _))))), ?_⟩
    refine ⟨_, rfl, LA, _, rfl, .inl (SqL.of hL.la), rfl, _, rfl, ?_⟩
    have hat := hL.at_
    have la := hL.la
    cases hat with
    | nil => exact absurd rfl hne
    | @cons p xs ps lv h0 t =>
      obtain ⟨vs, e1, e2⟩ := h0
      cases t with
      | nil =>
        refine iteT ?_
        refine ⟨_, rfl, LA, _, _, .ref p, rfl, rfl, SqL.of la, rfl, p, vs, rfl, .inl (SqL.of e1), rfl, ?_⟩
        have hl := Paired.length e2
        have e : decide (V.int ((vs.length : Nat) : Int) = V.int 1) = whole [xs] := by
          rw [hl]
          match xs with
          | [] => rfl
          | [x] => rfl
          | x :: y :: r =>
            show decide (V.int (((x :: y :: r).length : Nat) : Int) = V.int 1) = false
            simp only [List.length_cons, decide_eq_false_iff_not, V.int.injEq]
            omega
        show Q (.bl (decide (V.int ((vs.length : Nat) : Int) = V.int 1))) H
        rw [e]
        exact k
      | @cons p2 ys ps lv h1 t =>
        have ed : decide (V.int (((((p :: p2 :: ps).map V.ref).reverse).length : Nat) : Int) = V.int 1) = false := by
          simp only [List.length_reverse, List.length_map, List.length_cons, decide_eq_false_iff_not, V.int.injEq]
          omega
        rw [ed]
        have e : whole (xs :: ys :: lv) = false := by rcases xs with _ | ⟨x, _ | ⟨y, r⟩⟩ <;> rfl
        rw [e] at k
        exact iteF k
theorem scD : FnScope ["levels", "begun"] ["levels", "begun"] (defScope sDue) := ⟨rfl, rfl, rfl, by decide +kernel, rfl, by decide +kernel, by decide +kernel⟩
theorem ok_due {f fW : Addr} {fd fdW : FuncData} (F : Fun K "signs_due" "signs_due" sDue f fd) (T : Txt K mg C) (AW : At K mg "is_whole" sWhole ["levels"] fW fdW) : FnOk P w K mg base CX0 2 f fd ["levels", "begun"] (spDue C) := by
  have GW : FnOk P w K mg base CX0 1 fW fdW ["levels"] (spWhole C) := ok_whole AW.F T
  obtain ⟨tm, mgM⟩ := T.mgM
  refine F.ok scD (fun vs H Q E h => ?_) (fun cdv A outer s H vs Q E hr h => ?_)
  · obtain ⟨LA, ps, lv, b, rfl, _⟩ := h
    rfl
  · obtain ⟨LA, ps, lv, b, rfl, hL, hne, k⟩ := h
    refine ⟨_, pss_cons (ps_if (pt_val (pe_call GW hr rfl AW.mgf AW.F.kp AW.b .nil pass0 (pa_cons (pv 0) pa_nil))) (pss_one (ps_ret pe_str)) pss_nil)
      (pss_cons (ps_if (pt_cmpR op_eq (pe_callB call_len_seq (by rfl) T.len PySem.boot_len (pa_cons (pe_ix ix_list (pv 0) (pe_un un_neg pe_int) (fun _ _ => rfl)) pa_nil)) pe_int (nomark _)) (pss_one (ps_ret pe_str)) pss_nil)
      (pss_cons (ps_if (pt_cmpR op_eq (pv 1) (pe_glob (v := .int 4000) rfl mgM ⟨_, rfl⟩) (nomark _)) (pss_one (ps_ret pe_str)) pss_nil)
      (pss_one (ps_ret pe_str)))), ?_⟩
    refine ⟨_, rfl, LA, ps, lv, rfl, hL, hne, _, rfl, ?_⟩
    unfold due at k
    by_cases hw : whole lv = true
    · rw [if_pos hw] at k
      rw [hw]
      exact iteT k
    · rw [if_neg hw] at k
      have hw' : whole lv = false := by simpa using hw
      rw [hw']
      refine iteF ?_
      have la := hL.la
      have hat := hL.at_
      cases hat with
      | nil => exact absurd rfl hne
      | @cons p xs ps lv h0 t =>
        obtain ⟨vs, e1, e2⟩ := h0
        have hl := Paired.length e2
        refine ⟨_, rfl, _, rfl, LA, _, _, .ref p, rfl, rfl, SqL.of la, ?_, p, vs, rfl, .inl (SqL.of e1), rfl, _, rfl, ?_⟩
        · rw [List.map_cons, List.reverse_cons]
          exact atI_last _ _
        · have e : decide (V.int ((vs.length : Nat) : Int) = V.int 2) = decide (topLen (xs :: lv) = 2) := by
            simp only [topLen, V.int.injEq, ← hl]
            exact decide_eq_decide.mpr (by omega)
          rw [e]
          by_cases h2 : topLen (xs :: lv) = 2
          · rw [if_pos h2] at k
            rw [decide_eq_true h2]
            exact iteT k
          · rw [if_neg h2] at k
            rw [decide_eq_false h2]
            refine iteF ?_
            refine ⟨_, rfl, rfl, _, rfl, ?_⟩
            by_cases hb : b = 4000
            · rw [if_pos hb] at k
              subst hb
              exact iteT k
            · rw [if_neg hb] at k
              have ed : decide (V.int ((b : Nat) : Int) = V.int 4000) = false := by
                simp only [decide_eq_false_iff_not, V.int.injEq]
                omega
              rw [ed]
              exact iteF k
theorem due_in {c : Nat} {z : Str} (h : c ∈ z.cps.toList) : (!decide (c ∈ z.cps.toList)) = false := by simp [h]
theorem scRd : FnScope ["text", "levels", "begun", "place", "sign", "first", "second"] ["text"] (defScope sRead) := ⟨rfl, rfl, rfl, by decide +kernel, rfl, by decide +kernel, by decide +kernel⟩
end
end Js
set_option Elab.async false
set_option linter.all false
set_option maxRecDepth 100000
set_option maxHeartbeats 2000000
namespace Js
open PySem L2
open PySem.Spec PyProof.Rows
abbrev sRdI : Stmt := inClass (top 38) 0
abbrev sAhead : Stmt := top 40
abbrev sTk2 : Stmt := top 41
abbrev sFw : Stmt := top 42
abbrev sRdN : Stmt := top 46
theorem vals_pt : ∀ (xs : List V) (ys : List Value), xs.length = ys.length → (∀ (j : Nat) x y, xs[j]? = some x → ys[j]? = some y → RelV x y) → Vals xs ys
  | [], [], _, _ => .nil
  | [], y :: ys, h, _ => by cases h
  | x :: xs, [], h, _ => by cases h
  | x :: xs, y :: ys, h, k => .cons (k 0 x y rfl rfl) (vals_pt xs ys (by simpa using h) fun j a b e1 e2 => k (j + 1) a b e1 e2)
def sgnV (x : Str) : List V := x.cps.toList.map fun c => V.str ⟨#[c]⟩
theorem call_list_txt {X : Cx} (hc : X.calm = true) : CallR X (.type "list") (fun xs H Q => ∃ x, xs = [.str x] ∧ x.length ≤ sizeLine ∧ ∀ l, H l = none → Q (.ref l) (upd H l (.lst (sgnV x)))) := by
  intro pins s σ H xs us Q I r h
  obtain ⟨x, rfl, hz, q⟩ := h
  obtain ⟨u, rfl, rx⟩ := vals1 r
  obtain ⟨t, rfl⟩ := rx
  refine PySem.call_list_str (I.ok.hd hc) x t (fun h' tk acc' c' kp e hacc => ?_) hz
  refine ⟨.ref s.heap.objs.size, _, I.laid (t' := tk) kp (Nat.le_refl _) (show ObjOk X.prog X.w _ h' _ (.lst (sgnV x)) from ⟨?_, acc'.toList, c', ?_, ?_⟩), rfl, q _ (I.hok.fresh (Nat.le_refl _))⟩
  · rw [sgnV, List.length_map, Array.length_toList]
    exact hz
  · refine vals_pt _ _ (by rw [sgnV, List.length_map, Array.length_toList, Array.length_toList, hacc.1]) fun j a b e1 e2 => ?_
    rw [sgnV, List.getElem?_map] at e1
    obtain ⟨c, hc1, rfl⟩ := Option.map_eq_some_iff.mp e1
    obtain ⟨c2, u, hc2, rfl⟩ := hacc.2 j b (by simpa using e2)
    have e3 : c = c2 := by
      have h1 : x.cps[j]? = some c := by simpa using hc1
      exact Option.some.inj (h1.symm.trans hc2)
    subst e3
    exact ⟨u, rfl⟩
  · simpa using e
def letters : List Str := (List.range 10).map letS
theorem let_sgn : sgnV "abcdefghij" = strV letters := by decide +kernel
def looksS : List Str := [("while" : Str), ("if" : Str)]
def takersS : List Str := [("first" : Str), ("second" : Str), ("pair" : Str), ("same" : Str)]
def fwS (fl : Nat) : List Str := if fl = 8 then letters else letters ++ looksS
structure RdC (K : PySem.W.Frag) (mg : Str → Option Value) : Prop where
  ml : mg "list" = none
  lt : ∃ t, mg "LETTERS" = some (.str "abcdefghij" t)
  lk : ∃ a, mg "LOOKS" = some (.ref a) ∧ ∀ H, SqT K H a (strV looksS)
  tk : ∃ a, mg "TAKERS" = some (.ref a) ∧ ∀ H, SqT K H a (strV takersS)
structure TxtD (K : PySem.W.Frag) (mg : Str → Option Value) (CD : Addr) : Prop where
  cl : Cls K CD
  nW : NoAttr K CD "words"
  nA : NoAttr K CD "at"
  nB : NoAttr K CD "begun"
  mgD : mg "Reader" = some (.ref CD)
def rdF (wl : Addr) (at_ bg : Nat) : List (Str × V) := [("words", .ref wl), ("at", .int ((at_ : Nat) : Int)), ("begun", .int ((bg : Nat) : Int))]
def rdL : List V → List (Str × V)
  | [x] => [("words", x), ("at", .int 0), ("begun", .int 0)]
  | _ => []
theorem d_wa : ¬ (("words" : Str) = "at") := by decide +kernel
theorem d_wb : ¬ (("words" : Str) = "begun") := by decide +kernel
theorem d_ab : ¬ (("at" : Str) = "begun") := by decide +kernel
theorem rd_words (wl : Addr) (a b : Nat) : (rdF wl a b).lookup ("words" : Str) = some (.ref wl) := by
  simp [rdF, List.lookup]
theorem rd_at (wl : Addr) (a b : Nat) : (rdF wl a b).lookup ("at" : Str) = some (.int ((a : Nat) : Int)) := by
  have e : (("at" : Str) == "words") = false := by decide +kernel
  simp [rdF, List.lookup, e]
theorem rd_begun (wl : Addr) (a b : Nat) : (rdF wl a b).lookup ("begun" : Str) = some (.int ((b : Nat) : Int)) := by
  have e : (("begun" : Str) == "words") = false := by decide +kernel
  have e2 : (("begun" : Str) == "at") = false := by decide +kernel
  simp [rdF, List.lookup, e, e2]
theorem rd_pa (wl : Addr) (a b : Nat) : putF "at" (.int (((a : Nat) : Int) + 1)) (rdF wl a b) = rdF wl (a + 1) b := by
  simp only [rdF, putF, if_neg d_wa, if_true]
  rfl
theorem rd_pb (wl : Addr) (a b : Nat) : putF "begun" (.int (((b : Nat) : Int) + 1)) (rdF wl a b) = rdF wl a (b + 1) := by
  simp only [rdF, putF, if_neg d_wb, if_neg d_ab, if_true]
  rfl
def RdAt (CD : Addr) (H : Hp) (rd wl : Addr) (ws : List Str) (at_ bg : Nat) : Prop := (∃ dx, H rd = some (.ins CD dx (rdF wl at_ bg))) ∧ H wl = some (.lst (strV ws)) ∧ ws.length ≤ 10000000
theorem RdAt.same {CD : Addr} {H H' : Hp} {rd wl : Addr} {ws : List Str} {a b : Nat} (s : Same H H') (h : RdAt CD H rd wl ws a b) : RdAt CD H' rd wl ws a b := by
  obtain ⟨⟨dx, h1⟩, h2, h3⟩ := h
  exact ⟨⟨dx, s _ _ h1⟩, s _ _ h2, h3⟩
theorem RdAt.ne {CD : Addr} {H : Hp} {rd wl : Addr} {ws : List Str} {a b : Nat} (h : RdAt CD H rd wl ws a b) : wl ≠ rd := fun z => by
  obtain ⟨⟨dx, h1⟩, h2, _⟩ := h
  rw [z, h1] at h2
  cases h2
def wdV (ws : List Str) (i : Nat) : V := match ws[i]? with
  | some x => .str x
  | none => .non
theorem wdV_some {ws : List Str} {i : Nat} {x : Str} (h : ws[i]? = some x) : wdV ws i = .str x := by rw [wdV, h]
theorem wdV_none {ws : List Str} {i : Nat} (h : ws[i]? = none) : wdV ws i = .non := by rw [wdV, h]
theorem strV_flat (xs : List Str) : (strV xs).all flatV = true := by
  rw [List.all_eq_true]
  intro v hv
  obtain ⟨x, _, rfl⟩ := List.mem_map.mp hv
  rfl
theorem inV_strV (x : Str) (xs : List Str) : inV (.str x) (strV xs) = decide (x ∈ xs) := by
  unfold inV strV
  rw [List.any_map]
  by_cases h : x ∈ xs
  · rw [decide_eq_true h, List.any_eq_true]
    exact ⟨x, h, by simp [eqV]⟩
  · rw [decide_eq_false h, List.any_eq_false]
    intro y hy
    have : ¬ y = x := fun z => h (z ▸ hy)
    simp [eqV, this]
def spAhead (CD : Addr) : Sp := fun vs H Q _ => ∃ rd wl ws a b, vs = [.ref rd] ∧ RdAt CD H rd wl ws a b ∧ Q (wdV ws a) H
def spFw : Sp := fun vs H Q _ => ∃ fl : Nat, vs = [.int ((fl : Nat) : Int)] ∧ ∀ l H', Same H H' → H l = none → H' l = some (.lst (strV (fwS fl))) → Q (.ref l) H'
theorem let_mem (c : Nat) (h : c < 10) : letS c ∈ letters := List.mem_map.mpr ⟨c, List.mem_range.mpr h, rfl⟩
theorem let_ix (c : Nat) (h : c < 10) : ∃ rest, Builtin.Str.occurrences (("abcdefghij" : Str)) (letS c) 0 ((("abcdefghij" : Str))).length 1 = c :: rest := by
  match c, h with
  | 0, _ => exact ⟨[], by decide +kernel⟩
  | 1, _ => exact ⟨[], by decide +kernel⟩
  | 2, _ => exact ⟨[], by decide +kernel⟩
  | 3, _ => exact ⟨[], by decide +kernel⟩
  | 4, _ => exact ⟨[], by decide +kernel⟩
  | 5, _ => exact ⟨[], by decide +kernel⟩
  | 6, _ => exact ⟨[], by decide +kernel⟩
  | 7, _ => exact ⟨[], by decide +kernel⟩
  | 8, _ => exact ⟨[], by decide +kernel⟩
  | 9, _ => exact ⟨[], by decide +kernel⟩
section
variable {P : Program} {w : World} {K : PySem.W.Frag} {mg : Str → Option Value} {base : Heap} {C CP CD fI fP : Addr} {fdI fdP : FuncData}
theorem scDI : FnScope ["self", "words"] ["self", "words"] (defScope sRdI) := ⟨rfl, rfl, rfl, by decide +kernel, rfl, by decide +kernel, by decide +kernel⟩
theorem ok_rdinit {f : Addr} {fd : FuncData} (F : Fun K "__init__" "Reader.__init__" sRdI f fd) (TD : TxtD K mg CD) : FnOk P w K mg base CX0 1 f fd ["self", "words"] (spObj CD rdL 1) := by
  refine F.ok scDI (fun vs H Q E h => ?_) (fun cdv A outer s H vs Q E hr h => ?_)
  · obtain ⟨p, dx, xs, rfl, hl, _⟩ := h
    rw [List.length_cons, hl]
    rfl
  · obtain ⟨p, dx, xs, rfl, hl, hp, k⟩ := h
    obtain ⟨x, rfl⟩ : ∃ x, xs = [x] := List.length_eq_one_iff.mp hl
    refine ⟨_, pss_cons (ps_fld (pv 0) (pv 1) rfl) (pss_cons (ps_fld (pv 0) pe_int rfl) (pss_one (ps_fld (pv 0) pe_int rfl))), ?_⟩
    refine ⟨_, rfl, _, rfl, p, CD, dx, [], rfl, hp, TD.cl, TD.nW, (by show 0 < 1000; decide), ?_⟩
    refine ⟨_, rfl, p, CD, dx, _, rfl, upd_same, TD.cl, TD.nA, (by show 1 < 1000; decide), ?_⟩
    refine ⟨_, rfl, p, CD, dx, _, rfl, upd_same, TD.cl, TD.nB, Nat.lt_of_le_of_lt (length_putF _ _ _) (by show 1 + 1 < 1000; decide), ?_⟩
    rw [upd_upd, upd_upd]
    have e : putF "begun" (.int 0) (putF "at" (.int 0) (putF "words" x [])) = rdL [x] := by
      simp only [rdL, putF, if_neg d_wa, if_neg d_wb, if_neg d_ab]
    show Q .non (upd H p (.ins CD dx (putF "begun" (.int 0) (putF "at" (.int 0) (putF "words" x [])))))
    rw [e]
    exact k
theorem scAh : FnScope ["reader"] ["reader"] (defScope sAhead) := ⟨rfl, rfl, rfl, by decide +kernel, rfl, by decide +kernel, by decide +kernel⟩
theorem scTk2 : FnScope ["reader", "right", "word"] ["reader", "right"] (defScope sTk2) := ⟨rfl, rfl, rfl, by decide +kernel, rfl, by decide +kernel, by decide +kernel⟩
theorem scFw : FnScope ["floors", "letters"] ["floors"] (defScope sFw) := ⟨rfl, rfl, rfl, by decide +kernel, rfl, by decide +kernel, by decide +kernel⟩
theorem scRdn : FnScope ["reader"] ["reader"] (defScope sRdN) := ⟨rfl, rfl, rfl, by decide +kernel, rfl, by decide +kernel, by decide +kernel⟩
theorem ok_ahead {f : Addr} {fd : FuncData} (F : Fun K "ahead" "ahead" sAhead f fd) (B : Blt mg) (TD : TxtD K mg CD) : FnOk P w K mg base CX0 1 f fd ["reader"] (spAhead CD) := by
  refine F.ok scAh (fun vs H Q E h => ?_) (fun cdv A outer s H vs Q E hr h => ?_)
  · obtain ⟨rd, wl, ws, a, b, rfl, _⟩ := h
    rfl
  · obtain ⟨rd, wl, ws, a, b, rfl, ⟨⟨dx, h1⟩, h2, h3⟩, k⟩ := h
    refine ⟨_, pss_one (ps_ret (pe_ifExp (pt_cmpR op_lt (pe_fld (pv 0) rfl) (pe_callB call_len_seq (by rfl) B.len PySem.boot_len (pa_cons (pe_fld (pv 0) rfl) pa_nil)) (nomark _)) (pe_ix (r := rIxL K) ix_list (pe_fld (pv 0) rfl) (pe_fld (pv 0) rfl) (fun _ _ => rfl)) pe_non)), ?_⟩
    refine ⟨_, rfl, _, _, _, _, _, rfl, h1, TD.cl, TD.nA, rd_at _ _ _, _, rfl, _, _, _, _, _, rfl, h1, TD.cl, TD.nW, rd_words _ _ _, wl, _, rfl, .inl (SqL.of h2), _, _, rfl, rfl, _, rfl, ?_⟩
    rw [strV_len]
    by_cases hlt : a < ws.length
    · rw [decide_eq_true (show ((a : Nat) : Int) < ((ws.length : Nat) : Int) by omega)]
      refine iteT ?_
      have hx : ws[a]? = some ws[a] := List.getElem?_eq_getElem hlt
      refine ⟨_, rfl, _, _, _, _, _, rfl, h1, TD.cl, TD.nW, rd_words _ _ _, _, rfl, _, _, _, _, _, rfl, h1, TD.cl, TD.nA, rd_at _ _ _, wl, _, _, _, rfl, rfl, SqL.of h2, atI_nat (v := .str ws[a]) ?_, ?_⟩
      · rw [strV, List.getElem?_map, hx]
        rfl
      · rw [wdV_some hx] at k
        exact k
    · rw [decide_eq_false (show ¬ ((a : Nat) : Int) < ((ws.length : Nat) : Int) by omega)]
      refine iteF ?_
      rw [wdV_none (List.getElem?_eq_none_iff.mpr (by omega))] at k
      exact k
theorem ok_fw {f : Addr} {fd : FuncData} (F : Fun K "first_words" "first_words" sFw f fd) (R : RdC K mg) (G : FrmC K w mg) : FnOk P w K mg base CX0 1 f fd ["floors"] spFw := by
  obtain ⟨tL, mL⟩ := R.lt
  obtain ⟨aLk, mLk, hLk⟩ := R.lk
  obtain ⟨tF, mF⟩ := G.mF
  refine F.ok scFw (fun vs H Q E h => ?_) (fun cdv A outer s H vs Q E hr h => ?_)
  · obtain ⟨fl, rfl, _⟩ := h
    rfl
  · obtain ⟨fl, rfl, k⟩ := h
    refine ⟨_, pss_cons (ps_set (i := 1) scFw.nd rfl (Or.inl rfl) (pe_callTy (call_list_txt rfl) (by rfl) R.ml PyProof.Rows.boot_list (pa_cons (pe_glob (v := .str "abcdefghij") rfl mL ⟨_, rfl⟩) pa_nil))) (pss_one (ps_ret (pe_ifExp (pt_cmpR op_eq (pv 0) (pe_glob (v := .int 8) rfl mF ⟨_, rfl⟩) (nomark _)) (pv 1) (pe_lst (StX.pa_star (pv 1) (StX.pa_star (pe_glob (v := .ref aLk) rfl mLk rfl) pa_nil)))))), ?_⟩
    refine ⟨_, rfl, by decide +kernel, fun l nl => ?_⟩
    rw [let_sgn]
    have s1 := Same.new nl (o := .lst (strV letters))
    have e1 : (upd H l (.lst (strV letters))) l = some (.lst (strV letters)) := upd_same
    revert s1 e1
    generalize upd H l (.lst (strV letters)) = H1
    intro s1 e1
    refine ⟨_, rfl, rfl, _, rfl, ?_⟩
    by_cases h8 : fl = 8
    · subst h8
      rw [decide_eq_true (show V.int ((8 : Nat) : Int) = V.int 8 from rfl)]
      exact iteT ⟨_, rfl, k l H1 s1 nl e1⟩
    · rw [decide_eq_false (show ¬ V.int ((fl : Nat) : Int) = V.int 8 from fun z => h8 (by have := V.int.inj z; omega))]
      refine iteF ?_
      refine ⟨_, rfl, l, _, rfl, .inr (SqL.of e1), aLk, _, rfl, .inl (hLk H1), by show 12 ≤ sizeLine; decide, fun l2 nl2 => ?_⟩
      refine k l2 _ (s1.trans (Same.new nl2)) (s1.free nl2) ?_
      rw [upd_same, fwS, if_neg h8, strV_app, List.append_nil]
end
end Js
set_option Elab.async false
set_option linter.all false
set_option maxRecDepth 100000
set_option maxHeartbeats 2000000
namespace Js
open PySem L2
open PySem.Spec PyProof.Rows
abbrev sRdT : Stmt := top 47
abbrev sRdD : Stmt := top 44
abbrev sRdL : Stmt := top 45
abbrev sRdR : Stmt := top 43
theorem kb_del {rd : Addr} {H H' : Hp} (k : KB rd H H') : Same (del H rd) (del H' rd) := fun x o h => by
  by_cases e : x = rd
  · rw [e, del, if_pos rfl] at h
    cases h
  · rw [del_ne e] at h ⊢
    exact k x o e h
theorem del_up (H : Hp) (rd : Addr) : Same (del H rd) H := fun x o h => by
  by_cases e : x = rd
  · rw [e, del, if_pos rfl] at h
    cases h
  · rw [del_ne e] at h
    exact h
theorem del_at {H : Hp} {rd x : Addr} {o : HO} (h : H x = some o) (n : x ≠ rd) : del H rd x = some o := (del_ne n).trans h
theorem th_del {C CD rd : Addr} {H : Hp} (hC : C ≠ CD) {dx : Addr} {fs : List (Str × V)} (h : H rd = some (.ins CD dx fs)) : ∀ (t : Tr) (a : Addr), Th C H a t → Th C (del H rd) a t := by
  have ne : ∀ {a dy : Addr} {gs : List (Str × V)}, H a = some (.ins C dy gs) → a ≠ rd := fun e z => by
    rw [z, h] at e
    injection e with e
    injection e with e1
    exact hC e1.symm
  intro t a ht
  induction ht with
  | nil h => exact .nil (del_at h (ne h))
  | pr h _ _ i1 i2 => exact .pr (del_at h (ne h)) i1 i2
theorem rd_on {CD : Addr} {H : Hp} {rd wl dx : Addr} {ws : List Str} {a b : Nat} (hne : wl ≠ rd) (h2 : H wl = some (.lst (strV ws))) (h3 : ws.length ≤ 10000000) : RdAt CD (upd H rd (.ins CD dx (putF "at" (.int (((a : Nat) : Int) + 1)) (rdF wl a b)))) rd wl ws (a + 1) b := by
  refine ⟨⟨dx, ?_⟩, by rw [upd_ne hne]; exact h2, h3⟩
  rw [upd_same, rd_pa]
theorem rd_bg {CD : Addr} {H : Hp} {rd wl dx : Addr} {ws : List Str} {a b : Nat} (hne : wl ≠ rd) (h2 : H wl = some (.lst (strV ws))) (h3 : ws.length ≤ 10000000) : RdAt CD (upd H rd (.ins CD dx (putF "begun" (.int (((b : Nat) : Int) + 1)) (rdF wl a b)))) rd wl ws a (b + 1) := by
  refine ⟨⟨dx, ?_⟩, by rw [upd_ne hne]; exact h2, h3⟩
  rw [upd_same, rd_pb]
theorem rd_ne {CD : Addr} {H : Hp} {rd wl x : Addr} {ws : List Str} {a b : Nat} {xs : List V} (h : RdAt CD H rd wl ws a b) (hx : H x = some (.tup xs)) : x ≠ rd := fun z => by
  obtain ⟨⟨dx, h1⟩, _⟩ := h
  rw [z, h1] at hx
  cases hx
theorem rd_nl {CD : Addr} {H : Hp} {rd wl x : Addr} {ws : List Str} {a b : Nat} {xs : List V} (h : RdAt CD H rd wl ws a b) (hx : H x = some (.lst xs)) : x ≠ rd := fun z => by
  obtain ⟨⟨dx, h1⟩, _⟩ := h
  rw [z, h1] at hx
  cases hx
theorem let_nlk (c : Nat) (h : c < 10) : letS c ∉ looksS := by
  match c, h with
  | 0, _ => decide +kernel
  | 1, _ => decide +kernel
  | 2, _ => decide +kernel
  | 3, _ => decide +kernel
  | 4, _ => decide +kernel
  | 5, _ => decide +kernel
  | 6, _ => decide +kernel
  | 7, _ => decide +kernel
  | 8, _ => decide +kernel
  | 9, _ => decide +kernel
theorem text_ntk (t : Tr) : t.text ∉ takersS := by
  cases t with
  | nil => decide +kernel
  | pr l r =>
    intro h
    have hl : (Tr.pr l r).text.cps.toList[0]? = some 40 := by rw [Tr.text_list]; rfl
    simp only [takersS, List.mem_cons, List.not_mem_nil, or_false] at h
    rcases h with h | h | h | h <;> (rw [h] at hl; exact absurd hl (by decide +kernel))
theorem fw_cl (fl : Nat) : ("]" : Str) ∉ fwS fl := by
  unfold fwS
  split <;> decide +kernel
section
variable {P : Program} {w : World} {K : PySem.W.Frag} {mg : Str → Option Value} {base : Heap} {C CP CD fI fP : Addr} {fdI fdP : FuncData}
theorem scTd : FnScope ["reader", "word", "thing"] ["reader"] (defScope sRdT) := ⟨rfl, rfl, rfl, by decide +kernel, rfl, by decide +kernel, by decide +kernel⟩
theorem scDd : FnScope ["reader", "floors", "word", "name", "kind", "others", "sign"] ["reader", "floors"] (defScope sRdD) := ⟨rfl, rfl, rfl, by decide +kernel, rfl, by decide +kernel, by decide +kernel⟩
theorem scLo2 : FnScope ["reader", "kind", "floors", "name", "inner", "sign"] ["reader", "kind", "floors"] (defScope sRdL) := ⟨rfl, rfl, rfl, by decide +kernel, rfl, by decide +kernel, by decide +kernel⟩
theorem scRw : FnScope ["reader", "floors", "deeds"] ["reader", "floors"] (defScope sRdR) := ⟨rfl, rfl, rfl, by decide +kernel, rfl, by decide +kernel, by decide +kernel⟩
end
end Js
set_option Elab.async false
set_option linter.all false
set_option maxRecDepth 100000
set_option maxHeartbeats 2000000
namespace JsZ
open PySem PySem.Spec PyProof.Rows L2
abbrev ht1 (h : Heap) (l : Addr) : Heap := h.push { cls := .type "tuple_iterator", data := .fields #[.ref l, .int 0 0] }
abbrev ht2 (h : Heap) (l : Addr) : Heap := (ht1 h l).push { cls := .type "enumerate", data := .fields #[.none, .bool false, .ref h.objs.size, rawInt 0, .none, .none] }
theorem new_enumT (l : Addr) (us : Array Value) :
    Meets (Builtin.«enumerate.__new__» ⟨[.type "enumerate", .ref l], []⟩) (fun _ R s => s.heap.IsTuple l us ∧ R (.ok (.ret (.ref (ht1 s.heap l).objs.size))) { s with heap := ht2 s.heap l }) :=
  .of_wp fun prog w A R s h => by
    obtain ⟨hp, g, d, tk, os⟩ := s; obtain ⟨h1, h⟩ := h
    have hsub := sub_enumerate
    have hL : Heap.IsTuple (Shared.heap ⟨hp, g, d, tk, os⟩) l us := h1
    wp_walk
    refine wpAny_stack_any fun st => wpAny_pure ?_
    split
    · rename_i c _ _ _ _ _
      cases (c == Value.type "enumerate")
      · wp_walk using wpAny_pyIter_tuple hL
        exact ⟨_, rfl, h⟩
      · wp_walk using wpAny_pyIter_tuple hL
        exact ⟨_, rfl, h⟩
    · wp_walk using wpAny_pyIter_tuple hL
      exact ⟨_, rfl, h⟩
section
variable {prog : Program} {w : World} {A : Around} {E : Value → Shared → Prop} {s : Shared}
theorem call_enumT {l : Addr} {us : Array Value} {Q : Value → Shared → Prop} (hL : s.heap.IsTuple l us)
    (h : ∀ h', IsEnum h' (s.heap.objs.size + 1) s.heap.objs.size 0 .none → h'.IsTupleIter s.heap.objs.size l 0 → h'.objs.size = s.heap.objs.size + 2 → (∀ b o, s.heap.get? b = some o → h'.get? b = some o) → Q (.ref (s.heap.objs.size + 1)) { s with heap := h' }) :
    wpAny (model prog w) A (call (.type "enumerate") [.ref l]) Q E s := by
  refine callType_new F.called_enumerate (by decide) (F.typeCall_enumerate_1 _) (F.newCall_enumerate_1 _) (fun obj => F.args_object_init_2 obj _) F.entry_enumerate_new (new_enumT l us) ⟨hL, ?_⟩
  have hz : (ht1 s.heap l).objs.size = s.heap.objs.size + 1 := Heap.size_push ..
  show _ ∧ _
  rw [hz]
  have he : IsEnum (ht2 s.heap l) (s.heap.objs.size + 1) s.heap.objs.size 0 .none := by
    have := Heap.get?_push_size (ht1 s.heap l) (o := { cls := .type "enumerate", data := .fields #[.none, .bool false, .ref s.heap.objs.size, rawInt 0, .none, .none] }) rfl
    rw [hz] at this
    exact this
  refine ⟨⟨_, he, rfl⟩, h _ he ⟨_, Heap.get?_push_of_some _ (Heap.get?_push_size _ rfl), rfl, rfl⟩ (by rw [Heap.size_push, hz]) fun b o q => Heap.get?_push_of_some _ (Heap.get?_push_of_some _ q)⟩
end
def ItE (K : PySem.W.Frag) (a : Addr) : It :=
  ⟨fun i H => ∃ (xs : List V) (x : V), SqT K H a xs ∧ xs[i]? = some x,
    fun i H v H' => ∃ T x, v = .ref T ∧ H T = none ∧ H' = upd H T (.tup [.int (i : Nat), x]) ∧ ∀ xs, SqT K H a xs → xs[i]? = some x,
    fun i H => ∃ xs : List V, SqT K H a xs ∧ i = xs.length⟩
theorem turn_E {P : Program} {w : World} {K : PySem.W.Frag} {elts : List Expr} {kk : Nat} {tpos : Pos} (a e it : Addr) (ha : a ≠ it) (hea : e ≠ a) :
    Turn P w K (.Tuple elts kk tpos) (ItE K a) [e, it] e (fun i h => (∃ old, IsEnum h e it ((i : Nat) : Int) old) ∧ h.IsTupleIter it a i ∧ e ≠ it) where
  mem := by simp
  obj := fun i h st b hb => by
    obtain ⟨⟨old, he⟩, ⟨o, ho, hc, hd⟩, _⟩ := st
    have e' : b = e ∨ b = it := by simpa using hb
    rcases e' with z | z
    · rw [z]; exact ⟨_, he, fun v q => nomatch q⟩
    · rw [z]; exact ⟨o, ho, fun v q => by rw [hd] at q; cases q⟩
  keep := fun i h h' st k => let ⟨⟨old, he⟩, hi, hne⟩ := st; ⟨⟨old, k e (by simp) _ he⟩, hi.at fun o q => k it (by simp) o q, hne⟩
  item := by
    intro X hP hw hK hc i pins s σ H E I hf st hg
    subst hP hw hK
    obtain ⟨⟨old, he⟩, hit, hne⟩ := st
    obtain ⟨xs, x, hqx, hx⟩ := hg
    obtain ⟨us, rv, p, _⟩ := I.tuple hqx
    obtain ⟨u, hu, ru⟩ := rv.get hx
    have hel : e < s.heap.objs.size := Heap.lt_size he
    have hil : it < s.heap.objs.size := by obtain ⟨_, q, _⟩ := hit; exact Heap.lt_size q
    have hh : X.A.in1.handled = none := I.ok.hd hc
    have li : i < us.toArray.size := by
      have := (List.getElem?_eq_some_iff.mp hu).1
      simpa using this
    refine wpAny_pyNext_enum_itemD (Draws.tuple hh it a ha us.toArray) he ⟨hit, p⟩ li hne (by simp [hne, hea]) fun v h' tk hPx ho hit' hT hsz hk => ?_
    have ev : v = u := by
      have : us.toArray[i]? = some u := by simpa using hu
      exact Option.some.inj (hPx.symm.trans this)
    subst ev
    refine ⟨_, rfl, wpAny_letOwnedTupleGo_enum (s := { s with heap := h', toks := tk + 1 }) ho fun h'' he' sb => ?_⟩
    have hT2 : h''.get? s.heap.objs.size = some { cls := .type "tuple", data := .seq #[.int i tk, v] } := (sb.2 _ (Nat.ne_of_gt hel)).trans hT
    have new : ObjOk X.prog X.w (upd H s.heap.objs.size (.tup [.int (i : Nat), x])) h'' s.heap.objs.size (.tup [.int (i : Nat), x]) := ⟨by show 2 ≤ sizeLine; decide, [.int i tk, v], .cons ⟨_, rfl⟩ (.cons ru .nil), ⟨_, hT2, rfl, _, rfl⟩⟩
    have I1 : Inv X pins σ (upd H s.heap.objs.size (.tup [.int (i : Nat), x])) { s with heap := h'', toks := tk + 1 } :=
      I.turnedNew (ch := [e, it]) (fun b ob hb q => (sb.2 b (fun z => hb (by simp [z]))).trans (hk b ob (fun z => hb (by simp [z])) (fun z => hb (by simp [z])) q)) hf (Nat.le_refl _) new
    refine ⟨.ref s.heap.objs.size, _, I1, rfl, ⟨_, x, rfl, I.hok.fresh (Nat.le_refl _), rfl, fun l hl => by rw [I.tuple_inj hl hqx]; exact hx⟩, ⟨⟨v, ?_⟩, ?_, hne⟩, fun b hb => ?_⟩
    · have e1 : ((i + 1 : Nat) : Int) = (i : Int) + 1 := by omega
      rw [e1]; exact he'
    · exact hit'.1.at fun o q => (sb.2 it (Ne.symm hne)).trans q
    · have hb' : b < s.heap.objs.size := by
        have e' : b = e ∨ b = it := by simpa using hb
        rcases e' with z | z
        · rw [z]; exact hel
        · rw [z]; exact hil
      rw [upd_ne (Nat.ne_of_lt hb')]
      exact (hf b hb).1
  done := by
    intro X hP hw hK hc i pins s σ H E I hf st hg
    subst hP hw hK
    obtain ⟨⟨old, he⟩, hit, hne⟩ := st
    obtain ⟨xs, hqx, rfl⟩ := hg
    obtain ⟨us, rv, p, _⟩ := I.tuple hqx
    obtain ⟨f0, f1, f2, f3, f4, f5⟩ := hf it (by simp)
    have hh : X.A.in1.handled = none := I.ok.hd hc
    have lu : us.toArray.size = xs.length := by rw [List.size_toArray, ← rv.length]
    exact wpAny_pyNext_enum_endD (Draws.tuple hh it a ha us.toArray) he (by rw [lu]; exact ⟨hit, p⟩) fun h' eb => ⟨rfl, I.turned (t' := s.toks) (fun b o hb q => eb b o hb q) f0 f1 f3 f4 f5⟩
  self := fun A i s Q E st h => let ⟨⟨_, he⟩, _⟩ := st; wpAny_pyIter_enum he h
end JsZ
namespace L2
open PySem PySem.Spec PyProof.Rows
def iEnumT (K : PySem.W.Frag) (ta : TA) : TI := fun σ H R => ta σ H fun vs H1 => ∃ a xs, vs = [.ref a] ∧ SqT K H1 a xs ∧ R (JsZ.ItE K a) H1
theorem pi_enumT {X : Cx} {e : Expr} {ta : TA} {p pos tpos : Pos} {elts : List Expr} {kk : Nat} (hg : Gl X "enumerate") (hm : X.mg "enumerate" = none) (ha : PA X [e] ta) (hs : starEach [e] X.env = [(false, eval e X.env)] := by rfl) :
    PI X (.Tuple elts kk tpos) (.Call (.Name "enumerate" p) [e] [] pos) (iEnumT X.K ta) := by
  refine ⟨fun pins s σ H R I h => ?_⟩
  refine Call_ (ld_blt I hg hm boot_enumerate (PyProof.Rows.callWith_type1 (thn (ha.run pos pins s σ H _ I h) fun us s1 ⟨vs, H1, I1, r1, q1⟩ => ?_) hs rfl))
  obtain ⟨a, xs, ex, hqx, q⟩ := q1
  subst ex
  obtain ⟨u, rfl, ru⟩ := vals1 r1
  cases (show u = Value.ref a from ru)
  obtain ⟨its, rv, p1, _⟩ := I1.tuple hqx
  obtain ⟨o1, ho1, _⟩ := id p1
  have la := Heap.lt_size ho1
  refine JsZ.call_enumT p1 fun h' he hit hsz hk => wpAny_pyIter_enum he ?_
  have I2 : Inv X pins σ H1 { s1 with heap := h' } := I1.kept (t' := s1.toks) hk
  refine ⟨s1.heap.objs.size + 1, [s1.heap.objs.size + 1, s1.heap.objs.size], _, _, H1, rfl, I2, JsZ.turn_E a (s1.heap.objs.size + 1) s1.heap.objs.size (Nat.ne_of_lt la) (fun z => absurd la (by rw [← z]; exact Nat.not_lt.mpr (Nat.le_succ _))), ⟨⟨.none, he⟩, hit, Nat.succ_ne_self _⟩, fun b hb => ?_, q⟩
  have e' : b = s1.heap.objs.size + 1 ∨ b = s1.heap.objs.size := by simpa using hb
  have hle : s1.heap.objs.size ≤ b := by
    rcases e' with z | z
    · rw [z]; exact Nat.le_add_right _ _
    · rw [z]; exact Nat.le_refl _
  exact I1.fpOk hle (I1.hok.fresh hle)
theorem walk_enumT {K : PySem.W.Frag} {a : Addr} {xs : List V} : Walk (JsZ.ItE K a) xs.length (fun H => SqT K H a xs) (fun i H v H' => ∃ T x, v = .ref T ∧ H T = none ∧ H' = upd H T (.tup [.int (i : Nat), x]) ∧ xs[i]? = some x) :=
  ⟨fun i H hi hq => ⟨xs, xs[i], hq, List.getElem?_eq_getElem hi⟩, fun H hq => ⟨xs, hq, rfl⟩, fun i H v H' hi hq y => by
      obtain ⟨T, x, e1, e2, e3, e4⟩ := y
      exact ⟨T, x, e1, e2, e3, e4 xs hq⟩⟩
end L2
set_option Elab.async false
set_option linter.all false
set_option maxRecDepth 100000
set_option maxHeartbeats 2000000
namespace Js
open PySem L2
abbrev sLay : Stmt := top 28
def Dd.isW : Dd → Bool
  | .wh _ _ => true
  | _ => false
def Dd.isF : Dd → Bool
  | .iff _ _ _ => true
  | _ => false
theorem kind_w : ∀ d : Dd, decide (V.str (kindOf d) = V.str "while") = d.isW
  | .told _ _ => (by decide +kernel : decide (V.str (("told" : Str)) = V.str "while") = false)
  | .take false _ _ => (by decide +kernel : decide (V.str (("first" : Str)) = V.str "while") = false)
  | .take true _ _ => (by decide +kernel : decide (V.str (("second" : Str)) = V.str "while") = false)
  | .two false _ _ _ => (by decide +kernel : decide (V.str (("pair" : Str)) = V.str "while") = false)
  | .two true _ _ _ => (by decide +kernel : decide (V.str (("same" : Str)) = V.str "while") = false)
  | .wh _ _ => (by decide +kernel : decide (V.str (("while" : Str)) = V.str "while") = true)
  | .iff _ _ _ => (by decide +kernel : decide (V.str (("if" : Str)) = V.str "while") = false)
theorem kind_f : ∀ d : Dd, (!decide (V.str (kindOf d) = V.str "if")) = !d.isF
  | .told _ _ => (by decide +kernel : (!decide (V.str (("told" : Str)) = V.str "if")) = true)
  | .take false _ _ => (by decide +kernel : (!decide (V.str (("first" : Str)) = V.str "if")) = true)
  | .take true _ _ => (by decide +kernel : (!decide (V.str (("second" : Str)) = V.str "if")) = true)
  | .two false _ _ _ => (by decide +kernel : (!decide (V.str (("pair" : Str)) = V.str "if")) = true)
  | .two true _ _ _ => (by decide +kernel : (!decide (V.str (("same" : Str)) = V.str "if")) = true)
  | .wh _ _ => (by decide +kernel : (!decide (V.str (("while" : Str)) = V.str "if")) = true)
  | .iff _ _ _ => (by decide +kernel : (!decide (V.str (("if" : Str)) = V.str "if")) = false)
def wayL : List (List Dd) → Nat → Nat → List Nat
  | [], _, _ => []
  | r :: rs, b, n => (if r.isEmpty then b else n) :: wayL rs b (n + manyR r)
def layL : List (List Dd) → Nat → Nat → List (Dd × List Nat)
  | [], _, _ => []
  | r :: rs, b, n => layR r b n ++ layL rs b (n + manyR r)
def Dd.back (d : Dd) (f n : Nat) : Nat := if d.isW then n else f
def Dd.ways (d : Dd) (f n : Nat) : List Nat := wayL d.rows (d.back f n) (n + 1) ++ (if d.isF then [] else [f])
theorem lay_rows : ∀ (d : Dd) (f n : Nat), d.lay f n = (d, d.ways f n) :: layL d.rows (d.back f n) (n + 1)
  | .told _ _, _, _ => rfl
  | .take _ _ _, _, _ => rfl
  | .two _ _ _ _, _, _ => rfl
  | .wh a r, f, n => by
    rw [Dd.lay]
    simp [Dd.ways, Dd.back, Dd.isW, Dd.isF, Dd.rows, wayL, layL]
  | .iff a r o, f, n => by
    rw [Dd.lay]
    simp [Dd.ways, Dd.back, Dd.isW, Dd.isF, Dd.rows, wayL, layL]
theorem layL_len : ∀ (rs : List (List Dd)) (b n : Nat), (layL rs b n).length = manyL rs
  | [], _, _ => rfl
  | r :: rs, b, n => by rw [layL, List.length_append, layR_len, layL_len rs, manyL]
theorem layL_app : ∀ (a c : List (List Dd)) (b n : Nat), layL (a ++ c) b n = layL a b n ++ layL c b (n + manyL a)
  | [], c, b, n => by rw [List.nil_append, manyL, layL, List.nil_append, Nat.add_zero]
  | r :: a, c, b, n => by rw [List.cons_append, layL, layL_app a c, layL, manyL, List.append_assoc, Nat.add_assoc]
theorem layL_one (r : List Dd) (b n : Nat) : layL [r] b n = layR r b n := by rw [layL, layL, List.append_nil]
theorem wayL_app : ∀ (a c : List (List Dd)) (b n : Nat), wayL (a ++ c) b n = wayL a b n ++ wayL c b (n + manyL a)
  | [], c, b, n => by rw [List.nil_append, manyL, wayL, List.nil_append, Nat.add_zero]
  | r :: a, c, b, n => by rw [List.cons_append, wayL, wayL_app a c, wayL, manyL, List.cons_append, Nat.add_assoc]
theorem wayL_one (r : List Dd) (b n : Nat) : wayL [r] b n = [if r.isEmpty then b else n] := rfl
theorem wayL_len : ∀ (rs : List (List Dd)) (b n : Nat), (wayL rs b n).length = rs.length
  | [], _, _ => rfl
  | r :: rs, b, n => by rw [wayL, List.length_cons, wayL_len rs, List.length_cons]
theorem take_over {α : Type} (L R : List α) (k m : Nat) (h : L.length = k) : (L ++ R).take (k + m) = L ++ R.take m := by
  subst h
  exact List.take_length_add_append m
theorem lay_step : ∀ (r : List Dd) (b n i : Nat) (d : Dd), r[i]? = some d →
    (layR r b n).take (manyR (r.take (i + 1))) = (layR r b n).take (manyR (r.take i)) ++ d.lay (if i + 1 < r.length then n + manyR (r.take i) + d.many else b) (n + manyR (r.take i))
  | e :: r, b, n, 0, d, h => by
    cases Option.some.inj h
    have t0 := take_over (e.lay (if r.isEmpty = true then b else n + e.many) n) (layR r b (n + e.many)) e.many 0 (lay_len _ _ _)
    rw [List.take_zero, List.append_nil] at t0
    show (layR (e :: r) b n).take (manyR [e]) = (layR (e :: r) b n).take 0 ++ e.lay (if 0 + 1 < (e :: r).length then n + 0 + e.many else b) (n + 0)
    rw [manyR_one, List.take_zero, List.nil_append, layR]
    refine t0.trans ?_
    cases r with
    | nil => rfl
    | cons x y =>
      rw [if_pos (show 0 + 1 < (e :: x :: y).length by simp only [List.length_cons]; omega)]
      rfl
  | e :: r, b, n, i + 1, d, h => by
    have ih := lay_step r b (n + e.many) i d h
    rw [List.take_succ_cons, List.take_succ_cons, many_cons, many_cons, layR, take_over _ _ _ _ (lay_len _ _ _), take_over _ _ _ _ (lay_len _ _ _), ih, List.append_assoc]
    have ec : (i + 1 + 1 < (e :: r).length) = (i + 1 < r.length) := by
      rw [List.length_cons]
      exact propext ⟨fun h => by omega, fun h => by omega⟩
    simp only [ec, Nat.add_assoc]
theorem seq_via {ta : TE} {g : TG} {rest : TS} {D : Ends} {σ : L2.St} {H : Hp} (v : V) (h : ∀ R : VK, R v H → ta σ H R) (k : g v σ H (rest D)) : tSeq (tAsg ta g) rest D σ H := h _ k
theorem via {T : VK → Prop} {K0 : VK} (v : V) (H : Hp) (h : ∀ R : VK, R v H → T R) (k : K0 v H) : T K0 := h K0 k
theorem ends_at : ∀ (r : List Dd) (n i : Nat) (d : Dd), r[i]? = some d → ∃ rest, endsR r n = endsR (r.take i) n ++ (d.ends (n + manyR (r.take i)) ++ rest)
  | e :: r, n, 0, d, h => by
    cases Option.some.inj h
    exact ⟨endsR r (n + e.many), by rw [List.take_zero, many_nil, endsR, endsR, List.nil_append, Nat.add_zero]⟩
  | e :: r, n, i + 1, d, h => by
    obtain ⟨rest, ih⟩ := ends_at r (n + e.many) i d h
    exact ⟨rest, by rw [List.take_succ_cons, many_cons, endsR, ih, endsR, List.append_assoc, Nat.add_assoc]⟩
theorem endsL_at : ∀ (rs : List (List Dd)) (n j : Nat) (r : List Dd), rs[j]? = some r → ∃ rest, endsL rs n = endsL (rs.take j) n ++ (endsR r (n + manyL (rs.take j)) ++ rest)
  | e :: rs, n, 0, r, h => by
    cases Option.some.inj h
    exact ⟨endsL rs (n + manyR e), by rw [List.take_zero, manyL, endsL, endsL, List.nil_append, Nat.add_zero]⟩
  | e :: rs, n, j + 1, r, h => by
    obtain ⟨rest, ih⟩ := endsL_at rs (n + manyR e) j r h
    exact ⟨rest, by rw [List.take_succ_cons, manyL, endsL, ih, endsL, List.append_assoc, Nat.add_assoc]⟩
def Pre (E : List Nat) (k : Nat) (l : List Nat) : Prop := ∀ i x, l[i]? = some x → E[k + i]? = some x
theorem Pre.right {E : List Nat} {k : Nat} {a b : List Nat} (h : Pre E k (a ++ b)) : Pre E (k + a.length) b := fun i x e => by
  have := h (a.length + i) x (by rw [List.getElem?_append_right (Nat.le_add_right _ _), Nat.add_sub_cancel_left]; exact e)
  rw [Nat.add_assoc]
  exact this
theorem Pre.left {E : List Nat} {k : Nat} {a b : List Nat} (h : Pre E k (a ++ b)) : Pre E k a := fun i x e => h i x (by
  rw [List.getElem?_append_left (List.getElem?_eq_some_iff.mp e).1]
  exact e)
theorem Pre.whole (E : List Nat) : Pre E 0 E := fun i x e => by
  rw [Nat.zero_add]
  exact e
def PlE (K : PySem.W.Frag) (C : Addr) (H : Hp) (v : V) (x : Dd × List Nat) : Prop := ∃ t wv dv, v = .ref t ∧ H t = some (.tup [dv, .ref wv]) ∧ H wv = some (.tup (numsV x.2)) ∧ DAt K C H dv x.1
theorem PlE.kt {K : PySem.W.Frag} {C : Addr} {H H' : Hp} (k : KT H H') {v : V} {x : Dd × List Nat} (h : PlE K C H v x) : PlE K C H' v x := by
  obtain ⟨t, wv, dv, e, h1, h2, h3⟩ := h
  exact ⟨t, wv, dv, e, k _ _ h1 (fun _ e => nomatch e), k _ _ h2 (fun _ e => nomatch e), DAt_kt k _ _ h3⟩
theorem pls_kt {K : PySem.W.Frag} {C : Addr} {H H' : Hp} (k : KT H H') : ∀ {ys : List V} {ps : List (Dd × List Nat)}, Paired (PlE K C H) ys ps → Paired (PlE K C H') ys ps
  | _, _, .nil => .nil
  | _, _, .cons h t => .cons (h.kt k) (pls_kt k t)
theorem paired_app {α β : Type} {R : α → β → Prop} : ∀ {xs : List α} {ys : List β} {xs' : List α} {ys' : List β}, Paired R xs ys → Paired R xs' ys' → Paired R (xs ++ xs') (ys ++ ys')
  | _, _, _, _, .nil, h => h
  | _, _, _, _, .cons h t, h' => .cons h (paired_app t h')
def spLay (K : PySem.W.Frag) (C : Addr) (n : Nat) : Sp := fun vs H Q _ => ∃ (q e p : Addr) (f : Nat) (r : List Dd) (E : List Nat) (xs : List V), vs = [.ref q, .int (f : Nat), .ref e, .ref p] ∧ RAt K C H q r ∧ deepR r < n ∧ H e = some (.lst (numsV E)) ∧ Pre E xs.length (endsR r xs.length) ∧
  H p = some (.lst xs) ∧ e ≠ p ∧ xs.length + manyR r ≤ 4000 ∧ ∀ H' ys, KB p H H' → H' p = some (.lst (xs ++ ys)) → Paired (PlE K C H') ys (layR r f xs.length) → Q .non H'
section
variable {P : Program} {w : World} {K : PySem.W.Frag} {mg : Str → Option Value} {base : Heap} {C : Addr}
theorem scLy : FnScope ["row", "behind", "ends", "plan", "at", "deed", "point", "after", "back", "ways", "part"] ["row", "behind", "ends", "plan"] (defScope sLay) := ⟨rfl, rfl, rfl, by decide +kernel, rfl, by decide +kernel, by decide +kernel⟩
theorem ok_lay {f : Addr} {fd : FuncData} (F : Fun K "lay_out" "lay_out" sLay f fd) (mgf : mg "lay_out" = some (.ref f)) (b : Binds K fd ["row", "behind", "ends", "plan"] []) (B : Blt mg) (G : FrmC K w mg)
    (DR : Def P w K mg base "rows_in" 1 ["deed"] (spRowsIn K C)) : ∀ n, FnOk P w K mg base CX0 (n + 2) f fd ["row", "behind", "ends", "plan"] (spLay K C n) := by
  intro n
  induction n with
  | zero =>
    refine F.ok scLy (fun vs H Q E h => ?_) (fun cdv A outer s H vs Q E hr h => ?_)
    · obtain ⟨q, e, p, f, r, E, xs, rfl, _⟩ := h
      rfl
    · obtain ⟨q, e, p, f, r, E, xs, _, _, h, _⟩ := h
      exact absurd h (Nat.not_lt_zero _)
  | succ n G' =>
  refine F.ok scLy (fun vs H Q E h => ?_) (fun cdv A outer s H vs Q E hr h => ?_)
  · obtain ⟨q, e, p, f, r, E, xs, rfl, _⟩ := h
    rfl
  · obtain ⟨q, e, p, f, r, En, xs, rfl, ⟨vs, hq, hvs⟩, hdp, he, hpre, hp, hep, hmany, k⟩ := h
    have hr1 : Room 1 _ := hr.mono (by omega)
    refine ⟨_, pss_one (ps_for PassesOwn.never rfl (pi_enumT rfl G.me (pa_cons (pv 0) pa_nil)) (pg_tup rfl (pgs_cons (pg_name (i := 4) scLy.nd rfl (Or.inl rfl)) (pgs_cons (pg_name (i := 5) scLy.nd rfl (Or.inl rfl)) pgs_nil))) (pss_cons (ps_set (i := 6) scLy.nd rfl (Or.inl rfl) (pe_callB call_len_seq (by rfl) B.len PySem.boot_len (pa_cons (pv 3) pa_nil))) (pss_cons (ps_set (i := 7) scLy.nd rfl (Or.inl rfl) (pe_ifExp (pt_cmpR op_lt (pe_op op_add (pv 4) pe_int) (pe_callB call_len_seq (by rfl) B.len PySem.boot_len (pa_cons (pv 0) pa_nil)) (nomark _)) (pe_ix (r := rIxL K) ix_list (pv 2) (pv 6) (fun _ _ => rfl)) (pv 1))) (pss_cons (ps_set (i := 8) scLy.nd rfl (Or.inl rfl) (pe_ifExp (pt_cmpR op_eq (pe_ix (r := rIxT K) ix_tup (pv 5) pe_int (fun _ _ => rfl)) pe_str (nomark _)) (pv 6) (pv 7))) (pss_cons (ps_expr (pe_bm PySem.F.plainAttrs_list PySem.F.slot_list_append PySem.F.type_list_append mt_append (pv 3) (pa_cons pe_non pa_nil))) (pss_cons (ps_set (i := 9) scLy.nd rfl (Or.inl rfl) (pe_lst pa_nil)) (pss_cons (ps_for PassesOwn.never rfl (pi_tup (pe_def DR hr1 rfl (pa_cons (pv 5) pa_nil))) (pg_name (i := 10) scLy.nd rfl (Or.inl rfl)) (pss_cons (ps_expr (pe_bm PySem.F.plainAttrs_list PySem.F.slot_list_append PySem.F.type_list_append mt_append (pv 9) (pa_cons (pe_ifExp (pt_truth (pv 10) (by intro _; rfl)) (pe_callB call_len_seq (by rfl) B.len PySem.boot_len (pa_cons (pv 3) pa_nil)) (pv 8)) pa_nil))) (pss_one (ps_expr (pe_call G' hr rfl mgf F.kp b .nil pass0 (pa_cons (pv 10) (pa_cons (pv 8) (pa_cons (pv 2) (pa_cons (pv 3) pa_nil))))))))) (pss_cons (ps_if (pt_cmpR op_ne (pe_ix (r := rIxT K) ix_tup (pv 5) pe_int (fun _ _ => rfl)) pe_str (nomark _)) (pss_one (ps_expr (pe_bm PySem.F.plainAttrs_list PySem.F.slot_list_append PySem.F.type_list_append mt_append (pv 9) (pa_cons (pv 7) pa_nil)))) pss_nil) (pss_one (ps_asg (pe_tup (pa_cons (pv 5) (pa_cons (pe_callTy call_tuple_of (by rfl) G.mt PyProof.Rows.boot_tuple (pa_cons (pv 9) pa_nil)) pa_nil))) (pg_sub (pv 3) (pv 6) set_list))))))))))), ?_⟩
    have hsl := line4
    have hlen := DsAt.length r vs hvs
    refine ⟨_, rfl, q, vs, rfl, hq, for_it (walk_enumT (K := K) (a := q) (xs := vs)) (fun i σ H' => ∃ x4 x5 x6 x7 x8 x9 x10 : Option V, ∃ ys : List V, σ = [some (.ref q), some (.int (f : Nat)), some (.ref e), some (.ref p), x4, x5, x6, x7, x8, x9, x10] ∧ KB p H H' ∧ H' p = some (.lst (xs ++ ys)) ∧ Paired (PlE K C H') ys ((layR r f xs.length).take (manyR (r.take i)))) ⟨none, none, none, none, none, none, none, [], rfl, KB.refl p H, by rw [List.append_nil]; exact hp, by rw [List.take_zero, many_nil, List.take_zero]; exact .nil⟩ ?_ ?_ ?_⟩
    · rintro i σ H1 _ ⟨x4, x5, x6, x7, x8, x9, x10, ys, rfl, kb1, hp1, hys⟩
      exact sqt_kt (kb1.kt hp) hq
    · rintro i y σ H1 H2 hi ⟨x4, x5, x6, x7, x8, x9, x10, ys, rfl, kb1, hp1, hys⟩ ⟨T, v, rfl, nT, rfl, hv⟩
      obtain ⟨d, hd, hdv⟩ := DsAt.get r vs i v hvs hv
      have hdd := deepR_mem r d (List.mem_of_getElem? hd)
      have hmt := manyR_take r i d hd
      have hpos := many_pos d
      have hmr := many_rows d
      have sT := Same.new nT (o := .tup [.int (i : Nat), v])
      have kb2 : KB p H (upd H1 T (.tup [.int (i : Nat), v])) := kb1.trans (KB.of sT)
      have hp2 := sT _ _ hp1
      have hys2 := pls_kt (KT.of sT) hys
      have hdv2 : DAt K C (upd H1 T (.tup [.int (i : Nat), v])) v d := DAt_kt (kb2.kt hp) d v hdv
      have hq2 : SqT K (upd H1 T (.tup [.int (i : Nat), v])) q vs := sqt_kt (kb2.kt hp) hq
      have he2 := kb2 _ _ hep he
      have hT2 : (upd H1 T (.tup [.int (i : Nat), v])) T = some (.tup [.int (i : Nat), v]) := upd_same
      revert kb2 hp2 hys2 hdv2 hq2 he2 hT2
      generalize upd H1 T (.tup [.int (i : Nat), v]) = H2
      intro kb2 hp2 hys2 hdv2 hq2 he2 hT2
      refine ⟨T, _, rfl, SqT.of hT2, rfl, _, _, rfl, _, _, rfl, rfl, ?_⟩
      obtain ⟨pt, hpt⟩ : ∃ pt, xs.length + manyR (r.take i) = pt := ⟨_, rfl⟩
      have lys : ys.length = manyR (r.take i) := by
        rw [Paired.length hys, List.length_take, layR_len]
        omega
      have lxy : (xs ++ ys).length = pt := by rw [List.length_append, lys, hpt]
      refine ⟨_, rfl, p, _, rfl, .inl (SqL.of hp2), ?_⟩
      rw [lxy]
      -- after
      obtain ⟨af, haf⟩ : ∃ af, (if i + 1 < r.length then pt + d.many else f) = af := ⟨_, rfl⟩
      obtain ⟨rest, hen⟩ := ends_at r xs.length i d hd
      have hpre2 : Pre En pt (d.ends pt) := by
        rw [hen] at hpre
        have := hpre.right
        rw [endsR_len, hpt] at this
        exact this.left
      have hpre3 : En[pt]? = some (pt + d.many) := by
        have := hpre2 0 (pt + d.many) (by rw [ends_rows]; rfl)
        exact this
      dsimp only [gName]
      refine seq_via (.int (af : Nat)) (fun R hR => ?_) ?_
      · refine ⟨_, rfl, _, _, rfl, rfl, _, rfl, q, vs, rfl, .inr hq2, _, _, rfl, rfl, _, rfl, ?_⟩
        rw [hlen]
        by_cases hlt : i + 1 < r.length
        · rw [decide_eq_true (show ((i : Nat) : Int) + 1 < ((r.length : Nat) : Int) by omega)]
          refine iteT ?_
          rw [if_pos hlt] at haf
          refine ⟨_, rfl, _, rfl, e, _, _, .int (af : Nat), rfl, rfl, SqL.of he2, ?_, hR⟩
          refine atI_nat ?_
          rw [numsV, List.getElem?_map, hpre3, ← haf]
          rfl
        · rw [decide_eq_false (show ¬ ((i : Nat) : Int) + 1 < ((r.length : Nat) : Int) by omega)]
          refine iteF ?_
          rw [if_neg hlt] at haf
          subst haf
          exact ⟨_, rfl, hR⟩
      -- back
      obtain ⟨pd, its, ev, hpd, _⟩ := shape d hdv2
      subst ev
      refine seq_via (.int ((d.back af pt : Nat) : Int)) (fun R hR => ?_) ?_
      · refine ⟨_, rfl, pd, _, 0, _, rfl, rfl, hpd, at0 _ _, rfl, _, rfl, ?_⟩
        rw [kind_w]
        unfold Dd.back at hR
        cases hw : d.isW with
        | true =>
          rw [hw] at hR
          exact iteT ⟨_, rfl, hR⟩
        | false =>
          rw [hw] at hR
          exact iteF ⟨_, rfl, hR⟩
      obtain ⟨bk, hbk⟩ : ∃ bk, d.back af pt = bk := ⟨_, rfl⟩
      rw [hbk]
      refine ⟨_, rfl, .inl ⟨rfl, _, SqL.of hp2⟩, p, _, _, rfl, rfl, hp2, by omega, ?_⟩
      have kb3 : KB p H (upd H2 p (.lst (xs ++ ys ++ [.non]))) := kb2.trans KB.set
      have kt3 : KT H2 (upd H2 p (.lst (xs ++ ys ++ [.non]))) := KT.lst hp2
      have hp3 : (upd H2 p (.lst (xs ++ ys ++ [.non]))) p = some (.lst (xs ++ ys ++ [.non])) := upd_same
      have he3 : (upd H2 p (.lst (xs ++ ys ++ [.non]))) e = some (.lst (numsV En)) := by rw [upd_ne hep]; exact he2
      revert kb3 kt3 hp3 he3
      generalize upd H2 p (.lst (xs ++ ys ++ [.non])) = H3
      intro kb3 kt3 hp3 he3
      refine ⟨Nat.zero_le _, fun wl nwl => ?_⟩
      have s4 : Same H3 (upd H3 wl (.lst [])) := Same.new nwl
      have hwl4 : (upd H3 wl (.lst [])) wl = some (.lst []) := upd_same
      have hwp : wl ≠ p := fun z => by rw [z, hp3] at nwl; cases nwl
      have hwe : wl ≠ e := fun z => by rw [z, he3] at nwl; cases nwl
      have nwH : H wl = none := by
        cases hw : H wl with
        | none => rfl
        | some o =>
          have := kb3 _ _ hwp hw
          rw [nwl] at this
          cases this
      revert s4 hwl4
      generalize upd H3 wl (.lst []) = H4
      intro s4 hwl4
      have kt24 : KT H2 H4 := kt3.trans (KT.of s4)
      have hdv4 := DAt_kt kt24 d _ hdv2
      refine ⟨_, rfl, _, d, rfl, hdv4, fun ip ws H5 s5 hip hws => ?_⟩
      have hwl5 := Paired.length hws
      have kb5 : KB p H H5 := (kb3.trans (KB.of s4)).trans (KB.of s5)
      have kt25 : KT H2 H5 := kt24.trans (KT.of s5)
      have hp5 := s5 _ _ (s4 _ _ hp3)
      have he5 := s5 _ _ (s4 _ _ he3)
      have hw5 := s5 _ _ hwl4
      refine ⟨ip, rfl, ⟨_, hip⟩, for_tup (K := K) (a := ip) (xs := ws) (fun j σ H' => ∃ (x10 : Option V) (zs : List V), σ = [some (.ref q), some (.int (f : Nat)), some (.ref e), some (.ref p), some (.int (i : Nat)), some (.ref pd), some (.int (pt : Nat)), some (.int (af : Nat)), some (.int (bk : Nat)), some (.ref wl), x10] ∧ KB p H H' ∧ KT H5 H' ∧ H' e = some (.lst (numsV En)) ∧ H' wl = some (.lst (numsV (wayL (d.rows.take j) bk (pt + 1)))) ∧ H' p = some (.lst (xs ++ ys ++ [.non] ++ zs)) ∧ Paired (PlE K C H') zs (layL (d.rows.take j) bk (pt + 1))) ⟨_, [], rfl, kb5, KT.refl H5, he5, hw5, by rw [List.append_nil]; exact hp5, .nil⟩ ?_ ?_ ?_⟩
      · rintro j σ H6 _ ⟨x10, zs, rfl, kb6, kt6, he6, hw6, hp6, hzs⟩
        exact sqt_kt kt6 hip
      · rintro j v10 σ H6 hv10 ⟨x10, zs, rfl, kb6, kt6, he6, hw6, hp6, hzs⟩
        obtain ⟨r6, hr6, q6, rfl, hq6⟩ := paired_get hws hv10
        have hml := manyL_take d.rows j r6 hr6
        have hdl := deepL_mem d.rows r6 (List.mem_of_getElem? hr6)
        have hne : d.rows ≠ [] := fun z => by
          rw [z] at hr6
          cases hr6
        have hdr := deep_rows d hne
        have hjl := (List.getElem?_eq_some_iff.mp hv10).1
        have lzs : zs.length = manyL (d.rows.take j) := by rw [Paired.length hzs, layL_len]
        have lp6 : (xs ++ ys ++ [V.non] ++ zs).length = pt + 1 + manyL (d.rows.take j) := by
          rw [List.length_append, List.length_append, lxy, lzs]
          rfl
        obtain ⟨vs6, hsq6, hds6⟩ := hq6.kt kt6
        have l6 := DsAt.length r6 vs6 hds6
        refine ⟨_, rfl, .inl ⟨rfl, _, SqL.of hw6⟩, ?_⟩
        refine via (T := (tIf _ _ _) _ H6) (.int (((if r6.isEmpty then bk else pt + 1 + manyL (d.rows.take j) : Nat)) : Int)) H6 (fun R hR => ?_) ?_
        · refine ⟨_, rfl, !vs6.isEmpty, .inr (.inl ⟨vs6, hsq6, rfl⟩), ?_⟩
          cases r6 with
          | nil =>
            cases vs6 with
            | nil => exact iteF ⟨_, rfl, hR⟩
            | cons x y => cases l6
          | cons x y =>
            cases vs6 with
            | nil => cases l6
            | cons x' y' =>
              refine iteT ⟨_, rfl, p, _, rfl, .inl (SqL.of hp6), ?_⟩
              rw [lp6]
              exact hR
        obtain ⟨wn, hwn⟩ : ∃ wn, (if r6.isEmpty then bk else pt + 1 + manyL (d.rows.take j) : Nat) = wn := ⟨_, rfl⟩
        rw [hwn]
        have hrl : d.rows.length ≤ 2 := by
          cases d <;> simp [Dd.rows]
        refine ⟨wl, _, _, rfl, rfl, hw6, by rw [numsV_len, wayL_len, List.length_take]; omega, ?_⟩
        have kt7 : KT H6 (upd H6 wl (.lst (numsV (wayL (d.rows.take j) bk (pt + 1)) ++ [.int (wn : Nat)]))) := KT.lst hw6
        have e7 : numsV (wayL (d.rows.take j) bk (pt + 1)) ++ [.int (wn : Nat)] = numsV (wayL (d.rows.take (j + 1)) bk (pt + 1)) := by
          rw [take_snoc hr6, wayL_app, wayL_one, numsV_app, hwn]
          rfl
        rw [e7] at kt7 ⊢
        have hw7 : (upd H6 wl (.lst (numsV (wayL (d.rows.take (j + 1)) bk (pt + 1))))) wl = some (.lst (numsV (wayL (d.rows.take (j + 1)) bk (pt + 1)))) := upd_same
        have he7 : (upd H6 wl (.lst (numsV (wayL (d.rows.take (j + 1)) bk (pt + 1))))) e = some (.lst (numsV En)) := by rw [upd_ne (Ne.symm hwe)]; exact he6
        have hp7 : (upd H6 wl (.lst (numsV (wayL (d.rows.take (j + 1)) bk (pt + 1))))) p = some (.lst (xs ++ ys ++ [.non] ++ zs)) := by rw [upd_ne (Ne.symm hwp)]; exact hp6
        have kb7 : KB p H (upd H6 wl (.lst (numsV (wayL (d.rows.take (j + 1)) bk (pt + 1))))) := fun a o na ha => by
          rw [upd_ne (ne_of_none ha nwH)]
          exact kb6 _ _ na ha
        revert kt7 hw7 he7 hp7 kb7
        generalize upd H6 wl (.lst (numsV (wayL (d.rows.take (j + 1)) bk (pt + 1)))) = H7
        intro kt7 hw7 he7 hp7 kb7
        have hpre7 : Pre En (xs ++ ys ++ [V.non] ++ zs).length (endsR r6 (xs ++ ys ++ [V.non] ++ zs).length) := by
          rw [lp6]
          have h1 : Pre En (pt + 1) (endsL d.rows (pt + 1)) := by
            have := hpre2
            rw [ends_rows] at this
            exact Pre.right (a := [pt + d.many]) this
          obtain ⟨rest2, hen2⟩ := endsL_at d.rows (pt + 1) j r6 hr6
          rw [hen2] at h1
          have h2 := h1.right
          rw [endsL_len] at h2
          exact h2.left
        refine ⟨_, rfl, _, rfl, _, rfl, _, rfl, q6, e, p, bk, r6, En, _, rfl, (hq6.kt kt6).kt kt7, by omega, he7, hpre7, hp7, hep, by rw [lp6]; omega, fun H8 zs2 kb8 hp8 hzs2 => ?_⟩
        have kt8 : KT H7 H8 := kb8.kt hp7
        rw [lp6] at hzs2
        refine ⟨_, zs ++ zs2, rfl, kb7.trans kb8, (kt6.trans kt7).trans kt8, kb8 _ _ hep he7, kb8 _ _ hwp hw7, by rw [hp8, List.append_assoc (xs ++ ys ++ [V.non])], ?_⟩
        rw [take_snoc hr6, layL_app, layL_one]
        exact paired_app (pls_kt (kt7.trans kt8) hzs) hzs2
      · rintro σ H6 ⟨x10, zs, rfl, kb6, kt6, he6, hw6, hp6, hzs⟩
        rw [hwl5, List.take_length] at hw6 hzs
        have hpd6 := sqt_kt (kt25.trans kt6) hpd
        refine ⟨_, rfl, pd, _, 0, _, rfl, rfl, hpd6, at0 _ _, rfl, _, rfl, ?_⟩
        rw [kind_f]
        cases hF : d.isF with
        | true =>
          refine iteF ?_
          have ew : wayL d.rows bk (pt + 1) = d.ways af pt := by
            rw [Dd.ways, hbk, hF, if_pos rfl, List.append_nil]
          rw [ew] at hw6
          refine ⟨_, rfl, _, rfl, wl, _, rfl, .inl ⟨SqL.of hw6, fun wt nwt => ?_⟩⟩
          have s8 : Same H6 (upd H6 wt (.tup (numsV (d.ways af pt)))) := Same.new nwt
          have hwt8 : (upd H6 wt (.tup (numsV (d.ways af pt)))) wt = some (.tup (numsV (d.ways af pt))) := upd_same
          revert s8 hwt8
          generalize upd H6 wt (.tup (numsV (d.ways af pt))) = H8
          intro s8 hwt8
          refine ⟨by show 2 ≤ sizeLine; decide, fun tt ntt => ?_⟩
          have s9 : Same H8 (upd H8 tt (.tup [.ref pd, .ref wt])) := Same.new ntt
          have htt9 : (upd H8 tt (.tup [.ref pd, .ref wt])) tt = some (.tup [.ref pd, .ref wt]) := upd_same
          revert s9 htt9
          generalize upd H8 tt (.tup [.ref pd, .ref wt]) = H9
          intro s9 htt9
          have s79 := s8.trans s9
          have hp9 := s79 _ _ hp6
          have kt9 : KT H9 (upd H9 p (.lst ((xs ++ ys ++ [V.non] ++ zs).set pt (.ref tt)))) := KT.lst hp9
          refine ⟨_, rfl, _, rfl, p, _, _, pt, rfl, rfl, hp9, ixN_at _ _ (by rw [List.length_append, List.length_append, lxy]; simp only [List.length_cons]; omega), ?_⟩
          have es : (xs ++ ys ++ [V.non] ++ zs).set pt (.ref tt) = xs ++ (ys ++ (.ref tt :: zs)) := by
            rw [List.append_assoc (xs ++ ys), List.set_append_right _ _ (by rw [lxy]; exact Nat.le_refl _), lxy, Nat.sub_self, List.append_assoc]
            rfl
          have ktz : KT H2 (upd H9 p (.lst ((xs ++ ys ++ [V.non] ++ zs).set pt (.ref tt)))) := ((kt25.trans kt6).trans (KT.of s79)).trans kt9
          refine ⟨_, _, _, _, _, _, _, ys ++ (.ref tt :: zs), rfl, (kb6.trans (KB.of s79)).trans KB.set, by rw [upd_same, es], ?_⟩
          rw [lay_step r f xs.length i d hd, hpt, haf, lay_rows, hbk]
          refine paired_app (pls_kt ktz hys2) (.cons ⟨tt, wt, .ref pd, rfl, kt9 _ _ htt9 (fun _ e => nomatch e), kt9 _ _ (s9 _ _ hwt8) (fun _ e => nomatch e), DAt_kt ktz d _ hdv2⟩ (pls_kt ((KT.of s79).trans kt9) hzs))
        | false =>
          refine iteT ?_
          have hrl : d.rows.length ≤ 2 := by
            cases d <;> simp [Dd.rows]
          refine ⟨_, rfl, .inl ⟨rfl, _, SqL.of hw6⟩, _, rfl, wl, _, _, rfl, rfl, hw6, by rw [numsV_len, wayL_len]; omega, ?_⟩
          have ew : numsV (wayL d.rows bk (pt + 1)) ++ [.int (af : Nat)] = numsV (d.ways af pt) := by
            rw [Dd.ways, hbk, hF, if_neg Bool.false_ne_true, numsV_app]
            rfl
          rw [ew]
          have kt7 : KT H6 (upd H6 wl (.lst (numsV (d.ways af pt)))) := KT.lst hw6
          have hw7 : (upd H6 wl (.lst (numsV (d.ways af pt)))) wl = some (.lst (numsV (d.ways af pt))) := upd_same
          have hp7 : (upd H6 wl (.lst (numsV (d.ways af pt)))) p = some (.lst (xs ++ ys ++ [.non] ++ zs)) := by rw [upd_ne (Ne.symm hwp)]; exact hp6
          have kb7 : KB p H (upd H6 wl (.lst (numsV (d.ways af pt)))) := fun a o na ha => by
            rw [upd_ne (ne_of_none ha nwH)]
            exact kb6 _ _ na ha
          have hzs7 := pls_kt kt7 hzs
          revert kt7 hw7 hp7 kb7 hzs7
          generalize upd H6 wl (.lst (numsV (d.ways af pt))) = H7
          intro kt7 hw7 hp7 kb7 hzs7
          refine ⟨_, rfl, _, rfl, wl, _, rfl, .inl ⟨SqL.of hw7, fun wt nwt => ?_⟩⟩
          have s8 : Same H7 (upd H7 wt (.tup (numsV (d.ways af pt)))) := Same.new nwt
          have hwt8 : (upd H7 wt (.tup (numsV (d.ways af pt)))) wt = some (.tup (numsV (d.ways af pt))) := upd_same
          revert s8 hwt8
          generalize upd H7 wt (.tup (numsV (d.ways af pt))) = H8
          intro s8 hwt8
          refine ⟨by show 2 ≤ sizeLine; decide, fun tt ntt => ?_⟩
          have s9 : Same H8 (upd H8 tt (.tup [.ref pd, .ref wt])) := Same.new ntt
          have htt9 : (upd H8 tt (.tup [.ref pd, .ref wt])) tt = some (.tup [.ref pd, .ref wt]) := upd_same
          revert s9 htt9
          generalize upd H8 tt (.tup [.ref pd, .ref wt]) = H9
          intro s9 htt9
          have s79 := s8.trans s9
          have hp9 := s79 _ _ hp7
          have kt9 : KT H9 (upd H9 p (.lst ((xs ++ ys ++ [V.non] ++ zs).set pt (.ref tt)))) := KT.lst hp9
          refine ⟨_, rfl, _, rfl, p, _, _, pt, rfl, rfl, hp9, ixN_at _ _ (by rw [List.length_append, List.length_append, lxy]; simp only [List.length_cons]; omega), ?_⟩
          have es : (xs ++ ys ++ [V.non] ++ zs).set pt (.ref tt) = xs ++ (ys ++ (.ref tt :: zs)) := by
            rw [List.append_assoc (xs ++ ys), List.set_append_right _ _ (by rw [lxy]; exact Nat.le_refl _), lxy, Nat.sub_self, List.append_assoc]
            rfl
          have ktz : KT H2 (upd H9 p (.lst ((xs ++ ys ++ [V.non] ++ zs).set pt (.ref tt)))) := ((kt25.trans (kt6.trans kt7)).trans (KT.of s79)).trans kt9
          refine ⟨_, _, _, _, _, _, _, ys ++ (.ref tt :: zs), rfl, (kb7.trans (KB.of s79)).trans KB.set, by rw [upd_same, es], ?_⟩
          rw [lay_step r f xs.length i d hd, hpt, haf, lay_rows, hbk]
          refine paired_app (pls_kt ktz hys2) (.cons ⟨tt, wt, .ref pd, rfl, kt9 _ _ htt9 (fun _ e => nomatch e), kt9 _ _ (s9 _ _ hwt8) (fun _ e => nomatch e), DAt_kt ktz d _ hdv2⟩ (pls_kt ((KT.of s79).trans kt9) hzs7))
    · rintro σ H1 ⟨x4, x5, x6, x7, x8, x9, x10, ys, rfl, kb1, hp1, hys⟩
      rw [hlen, List.take_length, List.take_of_length_le (by rw [layR_len]; exact Nat.le_refl _)] at hys
      exact k H1 ys kb1 hp1 hys
end
end Js
set_option Elab.async false
set_option linter.all false
set_option maxRecDepth 100000
set_option maxHeartbeats 2000000
namespace Js
open PySem L2
noncomputable instance : DecidableEq Dd := Classical.typeDecidableEq Dd
def kindN : Dd → Nat
  | .told _ _ => 0
  | .take false _ _ => 1
  | .take true _ _ => 2
  | .two false _ _ _ => 3
  | .two true _ _ _ => 4
  | .wh _ _ => 5
  | .iff _ _ _ => 6
def kindI (x : Str) : Nat := (["told", "first", "second", "pair", "same", "while", "if"] : List Str).findIdx (· == x)
theorem kind_ix : ∀ d : Dd, kindI (kindOf d) = kindN d
  | .told _ _ => (by decide +kernel : kindI "told" = 0)
  | .take false _ _ => (by decide +kernel : kindI "first" = 1)
  | .take true _ _ => (by decide +kernel : kindI "second" = 2)
  | .two false _ _ _ => (by decide +kernel : kindI "pair" = 3)
  | .two true _ _ _ => (by decide +kernel : kindI "same" = 4)
  | .wh _ _ => (by decide +kernel : kindI "while" = 5)
  | .iff _ _ _ => (by decide +kernel : kindI "if" = 6)
theorem kind_eq {d e : Dd} (h : kindOf d = kindOf e) : kindN d = kindN e := by rw [← kind_ix, ← kind_ix, h]
section
variable {X : Cx} {pins : List (Addr × Obj)} {σ : L2.St} {H : Hp} {s : Shared} {C : Addr}
theorem DAt_kind (I : Inv X pins σ H s) {d e : Dd} {v : V} (h : DAt X.K C H v d) (g : DAt X.K C H v e) : kindN d = kindN e := by
  obtain ⟨p, its, rfl, h1, _⟩ := shape d h
  obtain ⟨p', its', e', g1, _⟩ := shape e g
  cases e'
  have := I.tuple_inj h1 g1
  simp only [List.cons.injEq, V.str.injEq] at this
  exact kind_eq this.1
mutual
theorem DAt_inj (I : Inv X pins σ H s) : ∀ (d e : Dd) (v : V), DAt X.K C H v d → DAt X.K C H v e → d = e
  | .told a t, e, v, h, g => by
    have hk := DAt_kind I h g
    cases e with
    | told b u =>
      obtain ⟨p, x, rfl, h1, h2, h3, h4⟩ := h
      obtain ⟨p', x', e', g1, g2, g3, g4⟩ := g
      cases e'
      have := I.tuple_inj h1 g1
      simp only [List.cons.injEq, V.int.injEq, V.ref.injEq, and_true, true_and] at this
      obtain ⟨ea, rfl⟩ := this
      cases Int.ofNat.inj ea
      rw [h3.inj g3]
    | take s _ _ => cases s <;> cases hk
    | two s _ _ _ => cases s <;> cases hk
    | wh _ _ => cases hk
    | iff _ _ _ => cases hk
  | .take k a b, e, v, h, g => by
    have hk := DAt_kind I h g
    cases e with
    | take s a' b' =>
      obtain ⟨p, rfl, h1, h2, h3⟩ := h
      obtain ⟨p', e', g1, g2, g3⟩ := g
      cases e'
      have := I.tuple_inj h1 g1
      simp only [List.cons.injEq, V.int.injEq, and_true] at this
      obtain ⟨_, ea, eb⟩ := this
      cases Int.ofNat.inj ea
      cases Int.ofNat.inj eb
      have : k = s := by cases k <;> cases s <;> first | rfl | cases hk
      rw [this]
    | told _ _ => cases k <;> cases hk
    | two s _ _ _ => cases k <;> cases s <;> cases hk
    | wh _ _ => cases k <;> cases hk
    | iff _ _ _ => cases k <;> cases hk
  | .two k a b c, e, v, h, g => by
    have hk := DAt_kind I h g
    cases e with
    | two s a' b' c' =>
      obtain ⟨p, rfl, h1, h2, h3, h4⟩ := h
      obtain ⟨p', e', g1, g2, g3, g4⟩ := g
      cases e'
      have := I.tuple_inj h1 g1
      simp only [List.cons.injEq, V.int.injEq, and_true] at this
      obtain ⟨_, ea, eb, ec⟩ := this
      cases Int.ofNat.inj ea
      cases Int.ofNat.inj eb
      cases Int.ofNat.inj ec
      have : k = s := by cases k <;> cases s <;> first | rfl | cases hk
      rw [this]
    | told _ _ => cases k <;> cases hk
    | take s _ _ => cases k <;> cases s <;> cases hk
    | wh _ _ => cases k <;> cases hk
    | iff _ _ _ => cases k <;> cases hk
  | .wh a r, e, v, h, g => by
    have hk := DAt_kind I h g
    cases e with
    | wh a' r' =>
      obtain ⟨p, q, vs, rfl, h1, h2, h3, h4⟩ := h
      obtain ⟨p', q', vs', e', g1, g2, g3, g4⟩ := g
      cases e'
      have := I.tuple_inj h1 g1
      simp only [List.cons.injEq, V.int.injEq, V.ref.injEq, and_true, true_and] at this
      obtain ⟨ea, rfl⟩ := this
      cases Int.ofNat.inj ea
      cases I.tuple_inj h3 g3
      rw [DsAt_inj I r r' vs h4 g4]
    | told _ _ => cases hk
    | take s _ _ => cases s <;> cases hk
    | two s _ _ _ => cases s <;> cases hk
    | iff _ _ _ => cases hk
  | .iff a r o, e, v, h, g => by
    have hk := DAt_kind I h g
    cases e with
    | iff a' r' o' =>
      obtain ⟨p, q, vs, q2, vs2, rfl, h1, h2, h3, h4, h5, h6⟩ := h
      obtain ⟨p', q', vs', q2', vs2', e', g1, g2, g3, g4, g5, g6⟩ := g
      cases e'
      have := I.tuple_inj h1 g1
      simp only [List.cons.injEq, V.int.injEq, V.ref.injEq, and_true, true_and] at this
      obtain ⟨ea, rfl, rfl⟩ := this
      cases Int.ofNat.inj ea
      cases I.tuple_inj h3 g3
      cases I.tuple_inj h5 g5
      rw [DsAt_inj I r r' vs h4 g4, DsAt_inj I o o' vs2 h6 g6]
    | told _ _ => cases hk
    | take s _ _ => cases s <;> cases hk
    | two s _ _ _ => cases s <;> cases hk
    | wh _ _ => cases hk
theorem DsAt_inj (I : Inv X pins σ H s) : ∀ (r u : List Dd) (vs : List V), DsAt X.K C H vs r → DsAt X.K C H vs u → r = u
  | [], u, vs, h, g => by
    have e : vs = [] := h
    subst e
    cases u with
    | nil => rfl
    | cons d u =>
      obtain ⟨v, us, e, _⟩ := g
      cases e
  | d :: r, u, vs, h, g => by
    obtain ⟨v, us, rfl, h1, h2⟩ := h
    cases u with
    | nil => cases (show v :: us = [] from g)
    | cons e u =>
      obtain ⟨v', us', e', g1, g2⟩ := g
      cases e'
      rw [DAt_inj I d e v h1 g1, DsAt_inj I r u us h2 g2]
end
theorem RAt_inj (I : Inv X pins σ H s) {q : Addr} {r u : List Dd} (h : RAt X.K C H q r) (g : RAt X.K C H q u) : r = u := by
  obtain ⟨vs, h1, h2⟩ := h
  obtain ⟨us, g1, g2⟩ := g
  cases I.tuple_inj h1 g1
  exact DsAt_inj I r u vs h2 g2
end
def TRow (K : PySem.W.Frag) (C : Addr) (n : Nat) : Tells := fun x y b H => ∃ q q2 r u, x = .ref q ∧ y = .ref q2 ∧ RAt K C H q r ∧ RAt K C H q2 u ∧ deepR r < n ∧ deepR u < n ∧ b = decide (r = u)
def TDd (K : PySem.W.Frag) (C : Addr) (n : Nat) : Tells := fun x y b H => ∃ d e, DAt K C H x d ∧ DAt K C H y e ∧ d.deep ≤ n ∧ e.deep ≤ n ∧ b = decide (d = e)
def TPart (K : PySem.W.Frag) (C : Addr) (n : Nat) : Tells := fun x y b H => (TFlat x y b H ∨ DTh C x y b H) ∨ TRow K C n x y b H
theorem TRow_mon {K : PySem.W.Frag} {C : Addr} {n : Nat} : MonT (TRow K C n) := fun x y r H H' s d => by
  obtain ⟨q, q2, a, u, e1, e2, h1, h2, h3, h4, e3⟩ := d
  exact ⟨q, q2, a, u, e1, e2, h1.same s, h2.same s, h3, h4, e3⟩
theorem TDd_mon {K : PySem.W.Frag} {C : Addr} {n : Nat} : MonT (TDd K C n) := fun x y r H H' s d => by
  obtain ⟨a, u, h1, h2, h3, h4, e3⟩ := d
  exact ⟨a, u, DAt_kt (KT.of s) _ _ h1, DAt_kt (KT.of s) _ _ h2, h3, h4, e3⟩
theorem DThM {C : Addr} : MonT (DTh C) := fun x y r H H' s d => by
  obtain ⟨a, b, t, u, e1, e2, ha, hb, hz, e3⟩ := d
  exact ⟨a, b, t, u, e1, e2, ha.same s, hb.same s, hz, e3⟩
theorem TPart_mon {K : PySem.W.Frag} {C : Addr} {n : Nat} : MonT (TPart K C n) := fun x y r H H' s d => by
  rcases d with (d | d) | d
  · exact .inl (.inl d)
  · exact .inl (.inr (DThM _ _ _ _ _ s d))
  · exact .inr (TRow_mon _ _ _ _ _ s d)
theorem eqT_thing {X : Cx} {C : Addr} (S : Spc X.prog X.w X.K X.mg X.base C "__eq__" 2 ["self", "other"] (spEqT C)) : EqT X 2 (DTh C) := by
  obtain ⟨f, fd, ow, F, hb⟩ := S
  refine eqT_own ow F hb (pass0) fun x y r H d => ?_
  obtain ⟨a, b, t, u, rfl, rfl, ha, hb', hz, rfl⟩ := d
  obtain ⟨dx, f1, g1, h1⟩ := ha.obj
  obtain ⟨dy, f2, g2, h2⟩ := hb'.obj
  refine ⟨a, b, dx, dy, _, _, rfl, rfl, h1, h2, fun e => ?_, a, b, t, u, rfl, ha, hb', hz, fun H' s => ⟨_, rfl, rfl, s⟩⟩
  subst e
  exact decide_eq_true (ha.inj hb')
theorem flat_i {H : Hp} (a b : Nat) : TFlat (.int (a : Nat)) (.int (b : Nat)) (decide (a = b)) H := ⟨rfl, rfl, by
  show (((a : Nat) : Int) == ((b : Nat) : Int)) = decide (a = b)
  by_cases h : a = b
  · subst h; simp
  · rw [decide_eq_false h]
    exact beq_eq_false_iff_ne.mpr (by omega)⟩
theorem flat_s {H : Hp} (a b : Str) : TFlat (.str a) (.str b) (decide (a = b)) H := ⟨rfl, rfl, by
  show (a == b) = decide (a = b)
  by_cases h : a = b
  · subst h; simp
  · rw [decide_eq_false h]
    exact beq_eq_false_iff_ne.mpr h⟩
theorem prs_nil {D : Tells} {H : Hp} : PrsT D [] [] [] H := ⟨rfl, fun i x y b h1 _ _ _ => by simp at h1⟩
theorem prs_cons {D : Tells} {H : Hp} {x y : V} {b : Bool} {xs ys : List V} {bs : List Bool} (h : D x y b H) (t : b = true → PrsT D xs ys bs H) (hl : bs.length = min xs.length ys.length) : PrsT D (x :: xs) (y :: ys) (b :: bs) H := by
  refine ⟨by rw [List.length_cons, List.length_cons, List.length_cons, hl]; omega, fun i u v c h1 h2 h3 h4 => ?_⟩
  cases i with
  | zero =>
    cases Option.some.inj h1
    cases Option.some.inj h2
    cases Option.some.inj h3
    exact h
  | succ i =>
    rw [List.take_succ_cons, List.all_cons] at h4
    have hb : b = true := by
      cases b
      · cases h4
      · rfl
    subst hb
    exact (t rfl).2 i u v c h1 h2 h3 (by simpa using h4)
theorem tells_cons (x y : V) (xs ys : List V) (b : Bool) (bs : List Bool) : tells (x :: xs) (y :: ys) (b :: bs) = (b && tells xs ys bs) := by
  unfold tells
  simp only [List.length_cons, List.all_cons, id, Nat.add_right_cancel_iff]
  cases b <;> simp
theorem tells_nil : tells [] [] [] = true := rfl
theorem prs_kind {K : PySem.W.Frag} {C : Addr} {n : Nat} {H : Hp} {a b : Str} {xs ys : List V} (h : a ≠ b) : PrsT (TPart K C n) (.str a :: xs) (.str b :: ys) (false :: List.replicate (min xs.length ys.length) false) H :=
  prs_cons (.inl (.inl (by rw [← decide_eq_false h]; exact flat_s a b))) (fun z => by cases z) (by rw [List.length_replicate])
theorem kind_ne {d e : Dd} (h : kindOf d ≠ kindOf e) : decide (d = e) = false := decide_eq_false fun z => h (by rw [z])
theorem deeds_prs {K : PySem.W.Frag} {C : Addr} {n : Nat} {H : Hp} {x y : V} {d e : Dd} (h : DAt K C H x d) (g : DAt K C H y e) (hd : d.deep ≤ n) (he : e.deep ≤ n) :
    ∃ p q xs ys bs, x = .ref p ∧ y = .ref q ∧ SqT K H p xs ∧ SqT K H q ys ∧ PrsT (TPart K C n) xs ys bs H ∧ tells xs ys bs = decide (d = e) := by
  by_cases hk : kindOf d = kindOf e
  · have hn := kind_eq hk
    have fi : ∀ a b : Nat, TPart K C n (.int (a : Nat)) (.int (b : Nat)) (decide (a = b)) H := fun a b => .inl (.inl (flat_i a b))
    have fs : TPart K C n (.str (kindOf d)) (.str (kindOf e)) true H := .inl (.inl (by rw [hk]; have := flat_s (H := H) (kindOf e) (kindOf e); rwa [decide_eq_true rfl] at this))
    cases d with
    | told a t =>
      cases e with
      | told b u =>
        obtain ⟨p, x1, rfl, h1, h2, h3, h4⟩ := h
        obtain ⟨q, y1, rfl, g1, g2, g3, g4⟩ := g
        refine ⟨p, q, _, _, [true, decide (a = b), decide (t = u)], rfl, rfl, h1, g1, prs_cons fs (fun _ => prs_cons (fi a b) (fun _ => prs_cons (.inl (.inr ⟨x1, y1, t, u, rfl, rfl, h3, g3, h4, rfl⟩)) (fun _ => prs_nil) rfl) rfl) rfl, ?_⟩
        rw [tells_cons, tells_cons, tells_cons, tells_nil]
        by_cases e1 : a = b <;> by_cases e2 : t = u <;> simp [e1, e2]
      | take s _ _ => cases s <;> cases hn
      | two s _ _ _ => cases s <;> cases hn
      | wh _ _ => cases hn
      | iff _ _ _ => cases hn
    | take k a b =>
      cases e with
      | take s a' b' =>
        obtain ⟨p, rfl, h1, h2, h3⟩ := h
        obtain ⟨q, rfl, g1, g2, g3⟩ := g
        have eks : k = s := by cases k <;> cases s <;> first | rfl | cases hn
        subst eks
        refine ⟨p, q, _, _, [true, decide (a = a'), decide (b = b')], rfl, rfl, h1, g1, prs_cons fs (fun _ => prs_cons (fi a a') (fun _ => prs_cons (fi b b') (fun _ => prs_nil) rfl) rfl) rfl, ?_⟩
        rw [tells_cons, tells_cons, tells_cons, tells_nil]
        by_cases e1 : a = a' <;> by_cases e2 : b = b' <;> simp [e1, e2]
      | told _ _ => cases k <;> cases hn
      | two s _ _ _ => cases k <;> cases s <;> cases hn
      | wh _ _ => cases k <;> cases hn
      | iff _ _ _ => cases k <;> cases hn
    | two k a b c =>
      cases e with
      | two s a' b' c' =>
        obtain ⟨p, rfl, h1, h2, h3, h4⟩ := h
        obtain ⟨q, rfl, g1, g2, g3, g4⟩ := g
        have eks : k = s := by cases k <;> cases s <;> first | rfl | cases hn
        subst eks
        refine ⟨p, q, _, _, [true, decide (a = a'), decide (b = b'), decide (c = c')], rfl, rfl, h1, g1, prs_cons fs (fun _ => prs_cons (fi a a') (fun _ => prs_cons (fi b b') (fun _ => prs_cons (fi c c') (fun _ => prs_nil) rfl) rfl) rfl) rfl, ?_⟩
        rw [tells_cons, tells_cons, tells_cons, tells_cons, tells_nil]
        by_cases e1 : a = a' <;> by_cases e2 : b = b' <;> by_cases e3 : c = c' <;> simp [e1, e2, e3]
      | told _ _ => cases k <;> cases hn
      | take s _ _ => cases k <;> cases s <;> cases hn
      | wh _ _ => cases k <;> cases hn
      | iff _ _ _ => cases k <;> cases hn
    | wh a r =>
      cases e with
      | wh a' r' =>
        obtain ⟨p, q1, vs, rfl, h1, h2, h3, h4⟩ := h
        obtain ⟨q, q2, us, rfl, g1, g2, g3, g4⟩ := g
        rw [Dd.deep] at hd he
        refine ⟨p, q, _, _, [true, decide (a = a'), decide (r = r')], rfl, rfl, h1, g1, prs_cons fs (fun _ => prs_cons (fi a a') (fun _ => prs_cons (.inr ⟨q1, q2, r, r', rfl, rfl, ⟨vs, h3, h4⟩, ⟨us, g3, g4⟩, by omega, by omega, rfl⟩) (fun _ => prs_nil) rfl) rfl) rfl, ?_⟩
        rw [tells_cons, tells_cons, tells_cons, tells_nil]
        by_cases e1 : a = a' <;> by_cases e2 : r = r' <;> simp [e1, e2]
      | told _ _ => cases hn
      | take s _ _ => cases s <;> cases hn
      | two s _ _ _ => cases s <;> cases hn
      | iff _ _ _ => cases hn
    | iff a r o =>
      cases e with
      | iff a' r' o' =>
        obtain ⟨p, q1, vs, q3, vs3, rfl, h1, h2, h3, h4, h5, h6⟩ := h
        obtain ⟨q, q2, us, q4, us4, rfl, g1, g2, g3, g4, g5, g6⟩ := g
        rw [Dd.deep] at hd he
        refine ⟨p, q, _, _, [true, decide (a = a'), decide (r = r'), decide (o = o')], rfl, rfl, h1, g1, prs_cons fs (fun _ => prs_cons (fi a a') (fun _ => prs_cons (.inr ⟨q1, q2, r, r', rfl, rfl, ⟨vs, h3, h4⟩, ⟨us, g3, g4⟩, by omega, by omega, rfl⟩) (fun _ => prs_cons (.inr ⟨q3, q4, o, o', rfl, rfl, ⟨vs3, h5, h6⟩, ⟨us4, g5, g6⟩, by omega, by omega, rfl⟩) (fun _ => prs_nil) rfl) rfl) rfl) rfl, ?_⟩
        rw [tells_cons, tells_cons, tells_cons, tells_cons, tells_nil]
        by_cases e1 : a = a' <;> by_cases e2 : r = r' <;> by_cases e3 : o = o' <;> simp [e1, e2, e3]
      | told _ _ => cases hn
      | take s _ _ => cases s <;> cases hn
      | two s _ _ _ => cases s <;> cases hn
      | wh _ _ => cases hn
  · obtain ⟨p, xs, rfl, h1, _⟩ := shape d h
    obtain ⟨q, ys, rfl, g1, _⟩ := shape e g
    refine ⟨p, q, _, _, _, rfl, rfl, h1, g1, prs_kind hk, ?_⟩
    rw [tells_cons, kind_ne hk]
    rfl
theorem rows_prs {K : PySem.W.Frag} {C : Addr} {n : Nat} {H : Hp} : ∀ (r u : List Dd) (xs ys : List V), DsAt K C H xs r → DsAt K C H ys u → deepR r ≤ n → deepR u ≤ n → ∃ bs, PrsT (TDd K C n) xs ys bs H ∧ tells xs ys bs = decide (r = u)
  | [], [], xs, ys, h, g, _, _ => by
    have e1 : xs = [] := h
    have e2 : ys = [] := g
    subst e1 e2
    exact ⟨[], prs_nil, by rw [tells_nil, decide_eq_true rfl]⟩
  | [], e :: u, xs, ys, h, g, _, _ => by
    have e1 : xs = [] := h
    obtain ⟨v, us, rfl, _⟩ := g
    subst e1
    exact ⟨[], ⟨by simp, fun i x y b h1 _ _ _ => by simp at h1⟩, by rw [decide_eq_false (by simp)]; rfl⟩
  | d :: r, [], xs, ys, h, g, _, _ => by
    have e2 : ys = [] := g
    obtain ⟨v, us, rfl, _⟩ := h
    subst e2
    exact ⟨[], ⟨by simp, fun i x y b _ h2 _ _ => by simp at h2⟩, by rw [decide_eq_false (by simp)]; rfl⟩
  | d :: r, e :: u, xs, ys, h, g, hr, hu => by
    obtain ⟨v, vs, rfl, h1, h2⟩ := h
    obtain ⟨v', us, rfl, g1, g2⟩ := g
    rw [deepR] at hr hu
    have m1 := Nat.le_max_left d.deep (deepR r)
    have m2 := Nat.le_max_right d.deep (deepR r)
    have m3 := Nat.le_max_left e.deep (deepR u)
    have m4 := Nat.le_max_right e.deep (deepR u)
    obtain ⟨bs, p, t⟩ := rows_prs (n := n) r u vs us h2 g2 (by omega) (by omega)
    refine ⟨decide (d = e) :: bs, prs_cons ⟨d, e, h1, g1, by omega, by omega, rfl⟩ (fun _ => p) p.1, ?_⟩
    rw [tells_cons, t]
    by_cases e1 : d = e <;> by_cases e2 : r = u <;> simp [e1, e2]
section
variable {X : Cx} {C : Addr}
theorem eqT_rows (S : Spc X.prog X.w X.K X.mg X.base C "__eq__" 2 ["self", "other"] (spEqT C)) : ∀ n, EqT X (2 * n + 2) (TRow X.K C n) ∧ RcT X .Eq id (2 * n + 2) (TRow X.K C n) ∧ RcT X .NotEq not (2 * n + 2) (TRow X.K C n) := by
  intro n
  induction n with
  | zero =>
    refine ⟨fun A pins s σ H x y u v r sb I rx ry d => ?_, fun A pins s σ H x y u v r sb I rx ry d => ?_, fun A pins s σ H x y u v r sb I rx ry d => ?_⟩ <;>
    · obtain ⟨q, q2, a, b, _, _, _, _, h, _⟩ := d
      exact absurd h (Nat.not_lt_zero _)
  | succ n ih =>
    have hp : EqT X (2 * n + 2) (TPart X.K C n) := ((eqT_flat.mono (Nat.zero_le _)).or ((eqT_thing S).mono (by omega))).or ih.1
    have hd1 : EqT X (2 * n + 3) (TDd X.K C n) := by
      refine EqT.imp (D := fun x y b H => TTup X.K (TPart X.K C n) x y b H ∧ TDd X.K C n x y b H) ?_ (fun x y b H d => ?_)
      · refine RcT.eqT (fun A pins s σ H x y u v r sb I rx ry d => rcT_tup_eq TPart_mon hp A pins s σ H x y u v r sb I rx ry d.1) (fun x y r H d => ?_) fun pins s σ H x r I d => ?_
        · obtain ⟨a, b, _, _, _, hx, hy, _⟩ := d.1
          exact ⟨a, b, hx, hy⟩
        · obtain ⟨_, d, e, h1, h2, _, _, rfl⟩ := d
          exact decide_eq_true (DAt_inj I d e x h1 h2)
      · obtain ⟨d', e, h, g, hd, he, rfl⟩ := id d
        obtain ⟨p, q, xs, ys, bs, ex, ey, h1, h2, h3, h4⟩ := deeds_prs h g hd he
        exact ⟨⟨p, q, xs, ys, bs, ex, ey, h1, h2, h3, h4.symm⟩, d⟩
    have tt : ∀ x y b H, TRow X.K C (n + 1) x y b H → TTup X.K (TDd X.K C n) x y b H := by
      intro x y b H d
      obtain ⟨q, q2, r, u, ex, ey, ⟨vs, h1, h2⟩, ⟨us, g1, g2⟩, h3, h4, rfl⟩ := d
      obtain ⟨bs, p, t⟩ := rows_prs r u vs us h2 g2 (Nat.lt_succ_iff.mp h3) (Nat.lt_succ_iff.mp h4)
      exact ⟨q, q2, vs, us, bs, ex, ey, h1, g1, p, t.symm⟩
    have r1 : RcT X .Eq id (2 * (n + 1) + 2) (TRow X.K C (n + 1)) := fun A pins s σ H x y u v r sb I rx ry d => rcT_tup_eq TDd_mon hd1 A pins s σ H x y u v r sb I rx ry (tt _ _ _ _ d)
    have r2 : RcT X .NotEq not (2 * (n + 1) + 2) (TRow X.K C (n + 1)) := fun A pins s σ H x y u v r sb I rx ry d => rcT_tup_ne TDd_mon hd1 A pins s σ H x y u v r sb I rx ry (tt _ _ _ _ d)
    refine ⟨RcT.eqT r1 (fun x y r H d => ?_) fun pins s σ H x r I d => ?_, r1, r2⟩
    · obtain ⟨q, q2, _, _, ex, ey, _⟩ := d
      exact ⟨q, q2, ex, ey⟩
    · obtain ⟨q, q2, a, b, ex, ey, h1, h2, _, _, rfl⟩ := d
      cases ex
      cases ey
      exact decide_eq_true (RAt_inj I h1 h2)
end
end Js
set_option Elab.async false
set_option linter.all false
set_option maxRecDepth 100000
set_option maxHeartbeats 2000000
namespace Js
open PySem L2
abbrev sPInit : Stmt := inClass (top 21) 0
abbrev sPLen : Stmt := inClass (top 21) 2
abbrev sPEq : Stmt := inClass (top 21) 3
theorem n_dp : ¬ (("deeds" : Str) = "plan") := by decide +kernel
def pf (q pl : Addr) : List (Str × V) := putF "plan" (.ref pl) (putF "deeds" (.ref q) [])
theorem pf_deeds (q pl : Addr) : (pf q pl).lookup ("deeds" : Str) = some (.ref q) := by
  unfold pf
  rw [lookup_putF, if_neg n_dp, lookup_putF, if_pos rfl]
structure Fr (H H' : Hp) : Prop where
  t : ∀ a xs, H a = some (.tup xs) → H' a = some (.tup xs)
  z : ∀ a o xs, H a = some (.frz o (.tup xs)) → H' a = some (.frz o (.tup xs))
  i : ∀ a C dx f s n, H a = some (.ins C dx (tf f s n)) → H' a = some (.ins C dx (tf f s n))
theorem Fr.kb {H H' : Hp} {p D dx : Addr} (hp : H p = some (.ins D dx [])) (k : KB p H H') : Fr H H' :=
  ⟨fun a xs h => k _ _ (fun z => by rw [z, hp] at h; cases h) h, fun a o xs h => k _ _ (fun z => by rw [z, hp] at h; cases h) h, fun a C dx f s n h => k _ _ (fun z => by
    rw [z, hp] at h
    have e := Option.some.inj h
    injection e with _ _ e3
    have := tf_size f s n
    rw [← e3] at this
    cases this) h⟩
theorem Th.fr {C : Addr} {H H' : Hp} (k : Fr H H') {a : Addr} {t : Tr} (h : Th C H a t) : Th C H' a t := by
  induction h with
  | nil h => exact .nil (k.i _ _ _ _ _ _ h)
  | pr h _ _ ih1 ih2 => exact .pr (k.i _ _ _ _ _ _ h) ih1 ih2
theorem sqt_fr {K : PySem.W.Frag} {H H' : Hp} (k : Fr H H') {a : Addr} {xs : List V} (h : SqT K H a xs) : SqT K H' a xs :=
  h.elim (fun h => .inl (h.elim (fun h => .inl (k.t _ _ h)) fun ⟨o, h⟩ => .inr ⟨o, k.z _ _ _ h⟩)) fun h => .inr h
mutual
theorem DAt_fr {K : PySem.W.Frag} {C : Addr} {H H' : Hp} (k : Fr H H') : ∀ (d : Dd) (v : V), DAt K C H v d → DAt K C H' v d
  | .told a t, v, h => by
    obtain ⟨p, x, e, h1, h2, h3, h4⟩ := h
    exact ⟨p, x, e, sqt_fr k h1, h2, h3.fr k, h4⟩
  | .take s a b, v, h => by
    obtain ⟨p, e, h1, h2⟩ := h
    exact ⟨p, e, sqt_fr k h1, h2⟩
  | .two s a b c, v, h => by
    obtain ⟨p, e, h1, h2⟩ := h
    exact ⟨p, e, sqt_fr k h1, h2⟩
  | .wh a r, v, h => by
    obtain ⟨p, q, vs, e, h1, h2, h3, h4⟩ := h
    exact ⟨p, q, vs, e, sqt_fr k h1, h2, sqt_fr k h3, DsAt_fr k r vs h4⟩
  | .iff a r o, v, h => by
    obtain ⟨p, q, vs, q2, vs2, e, h1, h2, h3, h4, h5, h6⟩ := h
    exact ⟨p, q, vs, q2, vs2, e, sqt_fr k h1, h2, sqt_fr k h3, DsAt_fr k r vs h4, sqt_fr k h5, DsAt_fr k o vs2 h6⟩
theorem DsAt_fr {K : PySem.W.Frag} {C : Addr} {H H' : Hp} (k : Fr H H') : ∀ (r : List Dd) (vs : List V), DsAt K C H vs r → DsAt K C H' vs r
  | [], vs, h => h
  | d :: r, vs, h => by
    obtain ⟨v, us, e, h1, h2⟩ := h
    exact ⟨v, us, e, DAt_fr k d v h1, DsAt_fr k r us h2⟩
end
theorem RAt.fr {K : PySem.W.Frag} {C : Addr} {H H' : Hp} (k : Fr H H') {q : Addr} {r : List Dd} (h : RAt K C H q r) : RAt K C H' q r := by
  obtain ⟨vs, h1, h2⟩ := h
  exact ⟨vs, sqt_fr k h1, DsAt_fr k r vs h2⟩
theorem pls_fr {K : PySem.W.Frag} {C : Addr} {H H' : Hp} (k : Fr H H') : ∀ {ys : List V} {ps : List (Dd × List Nat)}, Paired (PlE K C H) ys ps → Paired (PlE K C H') ys ps
  | _, _, .nil => .nil
  | _, _, .cons ⟨t, wv, dv, e, h1, h2, h3⟩ u => .cons ⟨t, wv, dv, e, k.t _ _ h1, k.t _ _ h2, DAt_fr k _ _ h3⟩ (pls_fr k u)
structure TxtP (K : PySem.W.Frag) (mg : Str → Option Value) (CP : Addr) : Prop where
  cl : Cls K CP
  nD : NoAttr K CP "deeds"
  nP : NoAttr K CP "plan"
  mgP : mg "Program" = some (.ref CP)
  ca : PySem.W.findIn K (.ref CP) "__class__" = some (some (.builtin "object.__class__"))
  cn : PySem.W.specialIn K (.builtin "object.__class__") "__get__" = some (some (.builtin "getset_descriptor.__get__"))
  ct : PySem.W.takesIn K (.builtin "object.__class__") = some true
  cm : PySem.W.mroIn K CP (.type "object") = some true
  ne : PySem.W.findIn K (.ref CP) "__ne__" = some (some (.builtin "object.__ne__"))
structure PgAt (K : PySem.W.Frag) (C CP : Addr) (H : Hp) (a : Addr) (r : List Dd) : Prop where
  ex : ∃ dx q pl ys, H a = some (.ins CP dx (pf q pl)) ∧ RAt K C H q r ∧ H pl = some (.tup ys) ∧ Paired (PlE K C H) ys (layR r (manyR r) 0)
  dp : deepR r ≤ 8
  mn : manyR r ≤ 4000
theorem PgAt.kt {K : PySem.W.Frag} {C CP : Addr} {H H' : Hp} (k : KT H H') {a : Addr} {r : List Dd} (h : PgAt K C CP H a r) : PgAt K C CP H' a r := by
  obtain ⟨dx, q, pl, ys, h1, h2, h3, h4⟩ := h.ex
  exact ⟨⟨dx, q, pl, ys, k _ _ h1 (fun _ e => nomatch e), h2.kt k, k _ _ h3 (fun _ e => nomatch e), pls_kt k h4⟩, h.dp, h.mn⟩
theorem PgAt.same {K : PySem.W.Frag} {C CP : Addr} {H H' : Hp} (s : Same H H') {a : Addr} {r : List Dd} (h : PgAt K C CP H a r) : PgAt K C CP H' a r := h.kt (KT.of s)
def spPInit (K : PySem.W.Frag) (C CP : Addr) : Sp := fun vs H Q _ => ∃ (p dx q : Addr) (r : List Dd), vs = [.ref p, .ref q] ∧ H p = some (.ins CP dx []) ∧ RAt K C H q r ∧ deepR r ≤ 8 ∧ manyR r ≤ 4000 ∧
  ∀ pl ys H', KB p H H' → H' p = some (.ins CP dx (pf q pl)) → H' pl = some (.tup ys) → RAt K C H' q r → Paired (PlE K C H') ys (layR r (manyR r) 0) → Q .non H'
section
variable {P : Program} {w : World} {K : PySem.W.Frag} {mg : Str → Option Value} {base : Heap} {C CP : Addr}
theorem scPI : FnScope ["self", "deeds", "ends", "plan"] ["self", "deeds"] (defScope sPInit) := ⟨rfl, rfl, rfl, by decide +kernel, rfl, by decide +kernel, by decide +kernel⟩
theorem ok_pinit {f : Addr} {fd : FuncData} (F : Fun K "__init__" "Program.__init__" sPInit f fd) (B : Blt mg) (T : Txt K mg C) (G : FrmC K w mg) (TP : TxtP K mg CP) (DL : Def P w K mg base "look_through" 13 ["row", "floors", "ends"] (spLook K C 9)) (DY : Def P w K mg base "lay_out" 11 ["row", "behind", "ends", "plan"] (spLay K C 9)) : FnOk P w K mg base CX0 14 f fd ["self", "deeds"] (spPInit K C CP) := by
  refine F.ok scPI (fun vs H Q E h => ?_) (fun cdv A outer s H vs Q E hr h => ?_)
  · obtain ⟨p, dx, q, r, rfl, _⟩ := h
    rfl
  · obtain ⟨p, dx, q, r, rfl, hp, hq, hd, hm, k⟩ := h
    have hr11 : Room 11 _ := hr.mono (by decide)
    refine ⟨_, PSs.nox (pss_cons (ps_if (pt_not (pt_val (pe_callB (r := rIsi K) call_isi (by rfl) T.isi PyProof.Rows.boot_isinstance (pa_cons (pv 1) (pa_cons (pe_bltn (v := .ty "tuple") rfl G.mt PyProof.Rows.boot_tuple rfl) pa_nil))))) (pss_one ps_never) pss_nil) (pss_cons (ps_set (i := 2) scPI.nd rfl (Or.inl rfl) (pe_lst pa_nil)) (pss_cons (ps_expr (pe_def DL hr rfl (pa_cons (pv 1) (pa_cons pe_int (pa_cons (pv 2) pa_nil))))) (pss_cons (ps_set (i := 3) scPI.nd rfl (Or.inl rfl) (pe_lst pa_nil)) (pss_cons (ps_expr (pe_def DY hr11 rfl (pa_cons (pv 1) (pa_cons (pe_callB call_len_seq (by rfl) B.len PySem.boot_len (pa_cons (pv 2) pa_nil)) (pa_cons (pv 2) (pa_cons (pv 3) pa_nil)))))) (pss_cons (ps_fld (pv 0) (pv 1) rfl) (pss_one (ps_fld (pv 0) (pe_callTy call_tuple_of (by rfl) G.mt PyProof.Rows.boot_tuple (pa_cons (pv 3) pa_nil)) rfl)))))))), ?_⟩
    have hsl := line4
    obtain ⟨vs, hqv, hvs⟩ := id hq
    refine ⟨_, rfl, _, _, _, _, true, rfl, .ty "tuple", sqt_ty hqv, G.tt, _, rfl, iteF ?_⟩
    refine ⟨Nat.zero_le _, fun e ne => ?_⟩
    have s1 : Same H (upd H e (.lst [])) := Same.new ne
    have he1 : (upd H e (.lst [])) e = some (.lst (numsV [])) := upd_same
    revert s1 he1
    generalize upd H e (.lst []) = H1
    intro s1 he1
    refine ⟨_, rfl, _, rfl, q, e, 0, r, [], rfl, hq.same s1, by omega, by omega, he1, by simpa using hm, fun H2 kb2 he2 => ?_⟩
    rw [List.nil_append] at he2
    have kt2 : KT H1 H2 := kb2.kt he1
    have hep : e ≠ p := fun z => by rw [z, hp] at ne; cases ne
    refine ⟨Nat.zero_le _, fun pn npn => ?_⟩
    have s3 : Same H2 (upd H2 pn (.lst [])) := Same.new npn
    have hpn3 : (upd H2 pn (.lst [])) pn = some (.lst []) := upd_same
    have hpe : e ≠ pn := fun z => by rw [← z, he2] at npn; cases npn
    have hpp : pn ≠ p := fun z => by
      have : H2 p = some (.ins CP dx []) := kb2 _ _ (Ne.symm hep) (s1 _ _ hp)
      rw [z, this] at npn
      cases npn
    revert s3 hpn3
    generalize upd H2 pn (.lst []) = H3
    intro s3 hpn3
    have he3 := s3 _ _ he2
    have hq3 : RAt K C H3 q r := ((hq.same s1).kt kt2).same s3
    refine ⟨_, rfl, _, rfl, e, _, rfl, .inl (SqL.of he3), ?_⟩
    rw [numsV_len, endsR_len]
    refine ⟨_, rfl, _, rfl, q, e, pn, manyR r, r, endsR r 0, [], rfl, hq3, by omega, he3, Pre.whole _, hpn3, hpe, by simpa using hm, fun H4 ys kb4 hp4 hys => ?_⟩
    rw [List.nil_append] at hp4
    have kt4 : KT H3 H4 := kb4.kt hpn3
    have hpz : H4 p = some (.ins CP dx []) := kb4 _ _ (Ne.symm hpp) (s3 _ _ (kb2 _ _ (Ne.symm hep) (s1 _ _ hp)))
    refine ⟨_, rfl, _, rfl, p, CP, dx, [], rfl, hpz, TP.cl, TP.nD, (by show 0 < 1000; decide), ?_⟩
    have hp5 : (upd H4 p (.ins CP dx (putF "deeds" (.ref q) []))) pn = some (.lst ys) := by rw [upd_ne hpp]; exact hp4
    refine ⟨_, rfl, pn, _, rfl, .inl ⟨SqL.of hp5, fun pl npl => ?_⟩⟩
    have hplp : pl ≠ p := fun z => by rw [z, upd_same] at npl; cases npl
    refine ⟨_, rfl, p, CP, dx, _, rfl, by rw [upd_ne (Ne.symm hplp)]; exact upd_same, TP.cl, TP.nP, Nat.lt_of_le_of_lt (length_putF _ _ _) (by show 0 + 1 < 1000; decide), ?_⟩
    have kbz : KB p H4 (upd (upd (upd H4 p (.ins CP dx (putF "deeds" (.ref q) []))) pl (.tup ys)) p (.ins CP dx (pf q pl))) := fun a o na ha => by
      have npl4 : H4 pl = none := by
        rw [upd_ne hplp] at npl
        exact npl
      rw [upd_ne na, upd_ne (ne_of_none ha npl4), upd_ne na]
      exact ha
    have kbH : KB p H H4 := fun a o na ha => by
      have nae : a ≠ e := ne_of_none ha ne
      have h2 := kb2 _ _ nae (s1 _ _ ha)
      have nan : a ≠ pn := ne_of_none h2 npn
      exact kb4 _ _ nan (s3 _ _ h2)
    have fr := Fr.kb hpz kbz
    refine k pl ys _ (kbH.trans kbz) ?_ ?_ ((hq3.kt kt4).fr fr) (pls_fr fr hys)
    · exact upd_same
    · rw [upd_ne hplp, upd_same]
end
structure MakerP (P : Program) (w : World) (K : PySem.W.Frag) (mg : Str → Option Value) (base : Heap) (C CP fI : Addr) (fdI : FuncData) : Prop where
  M : Mk K CP fI
  G : FnOk P w K mg base CX0 14 fI fdI ["self", "deeds"] (spPInit K C CP)
  mgP : mg "Program" = some (.ref CP)
  b : Binds K fdI ["self", "deeds"] []
def tP (K : PySem.W.Frag) (C CP : Addr) (t : TA) : TE := fun σ H Q => t σ H fun vs H1 => ∃ q r, vs = [.ref q] ∧ RAt K C H1 q r ∧ deepR r ≤ 8 ∧ manyR r ≤ 4000 ∧ ∀ z H', Same H1 H' → H1 z = none → PgAt K C CP H' z r → Q (.ref z) H'
theorem mk_pg {K : PySem.W.Frag} {C CP q : Addr} {H : Hp} {r : List Dd} {Q : VK} {E : XK} (hq : RAt K C H q r) (hd : deepR r ≤ 8) (hm : manyR r ≤ 4000) (k : ∀ z H', Same H H' → H z = none → PgAt K C CP H' z r → Q (.ref z) H') :
    ∀ x dx, H x = none → H dx = none → dx ≠ x → spPInit K C CP (.ref x :: ([.ref q] ++ [])) (upd (upd H dx (.own x)) x (.ins CP dx [])) (fun v H3 => v = .non ∧ Q (.ref x) H3) E := by
  intro x dx nx ndx ne
  have s0 : Same H (upd (upd H dx (.own x)) x (.ins CP dx [])) := fun b o e => by
    rw [upd_ne (ne_of_none e nx), upd_ne (ne_of_none e ndx)]
    exact e
  refine ⟨x, dx, q, r, rfl, upd_same, hq.same s0, hd, hm, fun pl ys H' kb h1 h2 h3 h4 => ⟨rfl, k x H' (fun b o e => kb _ _ (ne_of_none e nx) (s0 _ _ e)) nx ⟨⟨dx, q, pl, ys, h1, h3, h2, h4⟩, hd, hm⟩⟩⟩
section
open PyProof.Rows
variable {X : Cx} {C CP fI : Addr} {fdI : FuncData} {p pos : Pos} {e : Expr} {es : List Expr} {t : TA}
theorem pe_P (mk : MakerP X.prog X.w X.K X.mg X.base C CP fI fdI) (hr : Room 15 X.A) (hg : Gl X "Program") (ha : PA X (e :: es) t)
    (he : starEach (e :: es) X.env = (false, eval e X.env) :: starEach es X.env := by rfl) (hpl : (backTo pos (starEach es X.env)).any (·.1) = false := by rfl) : PE X (.Call (.Name "Program" p) (e :: es) [] pos) (tP X.K C CP t) := by
  refine ⟨fun pins s σ H Q I h => ?_⟩
  refine wpAny_Call_Name_kw (ld_glob I hg mk.mgP ?_ (by decide))
  refine PySem.W.callWith_K (h₀ := X.base) I.ok.mod.kin mk.M.kp (thn (ha.run pos pins s σ H _ I h) fun us s1 ⟨vs, H1, I1, r, q⟩ => ⟨I1.kIn, ?_⟩) he hpl
  obtain ⟨q, r', rfl, h1, h2, hz, k⟩ := q
  exact run_make mk.M mk.G hr mk.b .nil pass0 I1 r (mk_pg h1 h2 hz k)
end
end Js
set_option Elab.async false
set_option linter.all false
set_option maxRecDepth 100000
set_option maxHeartbeats 2000000
set_option Elab.async false
set_option linter.all false
set_option maxRecDepth 100000
set_option maxHeartbeats 2000000
namespace Js
open PySem L2
abbrev sPStr : Stmt := inClass (top 21) 4
def textR (r : List Dd) : Str := PySem.Txt.join (" " : Str) (wordsR r)
def sumR (r : List Dd) : Nat := ((wordsR r).map (·.length)).sum + (wordsR r).length
def spPStr (K : PySem.W.Frag) (C CP : Addr) : Sp := fun vs H Q _ => ∃ a r, vs = [.ref a] ∧ PgAt K C CP H a r ∧ sumR r ≤ 16777216 ∧ ∀ H', Same H H' → Q (.str (textR r)) H'
section
variable {P : Program} {w : World} {K : PySem.W.Frag} {mg : Str → Option Value} {base : Heap} {C CP : Addr}
theorem ok_words {f fD : Addr} {fd fdD : FuncData} {tL : Tok} (F : Fun K "row_words" "row_words" sRowW f fd) (mgr : mg "row_words" = some (.ref f)) (br : Binds K fd ["row"] []) (FD : Fun K "deed_words" "deed_words" sDeedW fD fdD) (mgd : mg "deed_words" = some (.ref fD)) (bd : Binds K fdD ["deed"] []) (B : Blt mg) (G : FrmC K w mg) (mL : mg "LETTERS" = some (.str "abcdefghij" tL)) (SS : Spc P w K mg base C "__str__" 2 ["self"] (spStr C)) (DN : Def P w K mg base "names_in" 1 ["deed"] (spNamesIn K C)) (DR : Def P w K mg base "rows_in" 1 ["deed"] (spRowsIn K C)) :
    ∀ n, FnOk P w K mg base CX0 (2 * n + 4) fD fdD ["deed"] (spDeedW K C n) ∧ FnOk P w K mg base CX0 (2 * n + 5) f fd ["row"] (spRowW K C n) := by
  intro n
  induction n with
  | zero =>
    have g : FnOk P w K mg base CX0 (2 * 0 + 4) fD fdD ["deed"] (spDeedW K C 0) := by
      refine FD.ok scDW (fun vs H Q E h => ?_) (fun cdv A outer s H vs Q E hr h => ?_)
      · obtain ⟨v, d, rfl, _⟩ := h
        rfl
      · obtain ⟨v, d, _, _, h, _⟩ := h
        exact absurd h (Nat.not_lt_zero _)
    exact ⟨g, ok_rowW F FD mgd bd _ _ g⟩
  | succ n ih =>
    have g := ok_deedW FD F mgr br B G mL SS DN DR (2 * n + 5) n (by omega) ih.2
    exact ⟨g, ok_rowW F FD mgd bd _ _ g⟩
theorem scPS : FnScope ["self"] ["self"] (defScope sPStr) := ⟨rfl, rfl, rfl, by decide +kernel, rfl, by decide +kernel, by decide +kernel⟩
theorem ok_pstr {f fR : Addr} {fd fdR : FuncData} (F : Fun K "__str__" "Program.__str__" sPStr f fd) (TP : TxtP K mg CP) (FR : Fun K "row_words" "row_words" sRowW fR fdR) (mgr : mg "row_words" = some (.ref fR)) (br : Binds K fdR ["row"] []) (GR : FnOk P w K mg base CX0 23 fR fdR ["row"] (spRowW K C 9)) : FnOk P w K mg base CX0 24 f fd ["self"] (spPStr K C CP) := by
  refine F.ok scPS (fun vs H Q E h => ?_) (fun cdv A outer s H vs Q E hr h => ?_)
  · obtain ⟨a, r, rfl, _⟩ := h
    rfl
  · obtain ⟨a, r, rfl, ha, hz, k⟩ := h
    refine ⟨_, pss_one (ps_ret (pe_join pe_str (pe_call GR hr rfl mgr FR.kp br .nil pass0 (pa_cons (pe_fld (pv 0) rfl) pa_nil)))), ?_⟩
    have hdp := ha.dp
    have hmn := ha.mn
    obtain ⟨dx, q, pl, ys, h1, h2, h3, h4⟩ := ha.ex
    refine ⟨⟨_, rfl⟩, _, rfl, _, _, _, _, _, rfl, h1, TP.cl, TP.nD, pf_deeds _ _, q, r, rfl, h2, by omega, hmn, fun p H' s1 np hp => ?_⟩
    refine ⟨_, p, wordsR r, rfl, rfl, .inl (SqL.of hp), ?_, k H' s1⟩
    rw [show ((" " : Str)).length = 1 from by decide +kernel, Nat.mul_one]
    exact hz
end
section
variable {X : Cx} {C CP : Addr}
theorem call_strP (S : Spc X.prog X.w X.K X.mg X.base CP "__str__" 24 ["self"] (spPStr X.K C CP)) (hr : Room 26 X.A) : CallR X (.type "str") (fun xs H Q => ∃ a r, xs = [.ref a] ∧ PgAt X.K C CP H a r ∧ sumR r ≤ 16777216 ∧ ∀ H', Same H H' → Q (.str (textR r)) H') := by
  obtain ⟨f, fd, ow, F, hb⟩ := S
  refine CallR.imp (call_strOwn ow F hb hr (pass0)) fun xs H Q h => ?_
  obtain ⟨a, r, rfl, ha, hz, q⟩ := h
  obtain ⟨dx, q1, pl, ys, h1, _⟩ := ha.ex
  exact ⟨a, dx, _, rfl, h1, a, r, rfl, ha, hz, fun H' s => ⟨_, rfl, q H' s⟩⟩
end
end Js
set_option Elab.async false
set_option linter.all false
set_option maxRecDepth 100000
set_option maxHeartbeats 2000000
namespace Js
open PySem L2
def jC (ws : List Str) : List Nat := (ws.map fun x => x.cps.toList ++ [32]).flatten
theorem jC_nil : jC [] = [] := rfl
theorem jC_cons (x : Str) (ws : List Str) : jC (x :: ws) = x.cps.toList ++ [32] ++ jC ws := by simp [jC]
theorem jC_app (a b : List Str) : jC (a ++ b) = jC a ++ jC b := by simp [jC]
def lC (a : Nat) : List Nat := (letS a).cps.toList
mutual
def Dd.shC : Dd → List Nat
  | .told a t => lC a ++ [32, 61, 32] ++ t.codes
  | .take s a b => lC a ++ [32, 61, 32] ++ (takeS s).cps.toList ++ [32] ++ lC b
  | .two s a b c => lC a ++ [32, 61, 32] ++ (twoS s).cps.toList ++ [32] ++ (lC b ++ [32] ++ lC c)
  | .wh a r => [119, 104, 105, 108, 101, 32] ++ lC a ++ ([32, 91, 32] ++ txC r ++ [93])
  | .iff a r o => [105, 102, 32] ++ lC a ++ (([32, 91, 32] ++ txC r ++ [93]) ++ ([32, 91, 32] ++ txC o ++ [93]))
def txC : List Dd → List Nat
  | [] => []
  | d :: r => d.shC ++ ([32] ++ txD r)
def txD : List Dd → List Nat
  | [] => []
  | d :: r => [59, 32] ++ (d.shC ++ ([32] ++ txD r))
end
theorem txD_cons (d : Dd) (r : List Dd) : txD (d :: r) = [59, 32] ++ txC (d :: r) := by rw [txD, txC]
theorem k_eq : ((("=" : Str))).cps.toList = [61] := by decide +kernel
theorem k_semi : (((";" : Str))).cps.toList = [59] := by decide +kernel
theorem k_op : ((("[" : Str))).cps.toList = [91] := by decide +kernel
theorem k_cl : ((("]" : Str))).cps.toList = [93] := by decide +kernel
theorem k_wh : ((("while" : Str))).cps.toList = [119, 104, 105, 108, 101] := by decide +kernel
theorem k_if : ((("if" : Str))).cps.toList = [105, 102] := by decide +kernel
theorem jC_wT (r : List Dd) (h : jC (wordsT r) = txD r) : jC ((wordsT r).drop 1) = txC r := by
  cases r with
  | nil => rw [wordsT, List.drop_nil, txC]; rfl
  | cons d r =>
    rw [txD_cons, wordsT, jC_cons, k_semi] at h
    rw [wordsT, List.drop_succ_cons, List.drop_zero]
    exact List.append_cancel_left (as := [59, 32]) (by simpa using h)
mutual
theorem jC_words : ∀ d : Dd, jC d.words = d.shC ++ [32]
  | .told a t => by simp [Dd.words, jC_cons, jC_nil, k_eq, Dd.shC, lC, Tr.text_list]
  | .take s a b => by simp [Dd.words, jC_cons, jC_nil, k_eq, Dd.shC, lC]
  | .two s a b c => by simp [Dd.words, jC_cons, jC_nil, k_eq, Dd.shC, lC]
  | .wh a r => by
    have h := jC_wT r (jC_wordsT r)
    simp only [Dd.words, jC_app, jC_cons, jC_nil, k_wh, k_op, k_cl, h, Dd.shC, lC]
    simp
  | .iff a r o => by
    have h := jC_wT r (jC_wordsT r)
    have h' := jC_wT o (jC_wordsT o)
    simp only [Dd.words, jC_app, jC_cons, jC_nil, k_if, k_op, k_cl, h, h', Dd.shC, lC]
    simp
theorem jC_wordsT : ∀ r : List Dd, jC (wordsT r) = txD r
  | [] => by rw [wordsT, txD]; rfl
  | d :: r => by
    rw [wordsT, jC_cons, jC_app, jC_words d, jC_wordsT r, k_semi, txD]
    simp
end
theorem jC_wordsR (r : List Dd) : jC (wordsR r) = txC r := jC_wT r (jC_wordsT r)
theorem jC_len : ∀ ws : List Str, (jC ws).length = (ws.map (·.length)).sum + ws.length
  | [] => rfl
  | x :: ws => by
    have h := jC_len ws
    have e : x.cps.toList.length = x.length := by rw [Array.length_toList]; rfl
    rw [jC_cons, List.length_append, List.length_append, h, e, List.map_cons, List.sum_cons, List.length_cons]
    simp
    omega
theorem sumR_eq (r : List Dd) : sumR r = (txC r).length := by rw [sumR, ← jC_len, jC_wordsR]
theorem joinL_blank : ∀ ws : List (List Nat), ws ≠ [] → TL.joinL [32] ws ++ [32] = (ws.map fun x => x ++ [32]).flatten
  | [], h => absurd rfl h
  | [p], _ => by simp [TL.joinL]
  | p :: q :: r, _ => by
    have := joinL_blank (q :: r) (by simp)
    rw [TL.joinL, List.append_assoc, List.append_assoc, this]
    simp
theorem textR_sp (r : List Dd) (h : r ≠ []) : (textR r).cps.toList ++ [32] = txC r := by
  rw [← jC_wordsR, textR, TL.join_eq]
  have e : TL.tl (PySem.Str.join (" " : Str) (wordsR r)) = TL.joinL (TL.tl (" " : Str)) ((wordsR r).map TL.tl) := TL.tl_join _ _
  have e1 : TL.tl (" " : Str) = [32] := by decide +kernel
  rw [e1] at e
  have e2 := joinL_blank ((wordsR r).map TL.tl) (by
    intro z
    exact wordsR_ne r h (List.map_eq_nil_iff.mp z))
  show TL.tl _ ++ [32] = _
  rw [e, e2, List.map_map]
  rfl
theorem textR_nil : textR [] = tx [] := by
  rw [textR, wordsR_nil]
  decide +kernel
theorem textR_tx (r : List Dd) : textR r = tx (txC r).dropLast := by
  cases r with
  | nil => rw [textR_nil, txC]; rfl
  | cons d r =>
    have h := textR_sp (d :: r) (by simp)
    rw [← h, List.dropLast_concat, tx_of]
theorem law_text : ∀ r : List Dd, TL.joinL [32, 59, 32] (r.map Dd.shC) ++ (if r = [] then [] else [32]) = txC r
  | [] => by rw [txC]; rfl
  | [d] => by rw [txC, txD]; simp [TL.joinL]
  | d :: e :: r => by
    have h := law_text (e :: r)
    rw [if_neg (by simp)] at h ⊢
    rw [List.map_cons] at h
    rw [txC, txD_cons, ← h, List.map_cons, List.map_cons, TL.joinL]
    simp
theorem txC_cons_len (d : Dd) (r : List Dd) : (txC (d :: r)).length = d.shC.length + 1 + (txD r).length := by
  rw [txC]
  simp only [List.length_append, List.length_cons, List.length_nil]
  omega
theorem txD_len (r : List Dd) : (txC r).length ≤ (txD r).length := by
  cases r with
  | nil => rw [txC, txD]; exact Nat.le_refl _
  | cons d r => rw [txD_cons, List.length_append]; omega
theorem txC_mem : ∀ (r : List Dd) (d : Dd), d ∈ r → d.shC.length ≤ (txC r).length
  | e :: r, d, h => by
    rw [txC_cons_len]
    rcases List.mem_cons.mp h with rfl | h
    · omega
    · have := txC_mem r d h
      have := txD_len r
      omega
theorem txC_sum : ∀ (r : List Dd), ((r.map fun d => d.shC.length).sum) + r.length ≤ (txC r).length
  | [] => by rw [txC]; simp
  | d :: r => by
    have := txC_sum r
    have := txD_len r
    rw [txC_cons_len, List.map_cons, List.sum_cons, List.length_cons]
    omega
theorem lC_len (a : Nat) : (lC a).length = 1 := by
  unfold lC
  match a with
  | 0 => decide +kernel
  | 1 => decide +kernel
  | 2 => decide +kernel
  | 3 => decide +kernel
  | 4 => decide +kernel
  | 5 => decide +kernel
  | 6 => decide +kernel
  | 7 => decide +kernel
  | 8 => decide +kernel
  | n + 9 => exact (by decide +kernel : ((("j" : Str))).cps.toList.length = 1)
def Pc.nms : Pc → List Nat
  | .nm b => [b]
  | _ => []
def nmsL (xs : List Pc) : List Nat := xs.flatMap Pc.nms
theorem nms_names : ∀ d : Dd, nmsL (.nm d.nm1 :: d.pcs) = d.names
  | .told _ _ => rfl
  | .take _ _ _ => rfl
  | .two _ _ _ _ => rfl
  | .wh _ _ => rfl
  | .iff _ _ _ => rfl
theorem nmsL_snoc (a : List Pc) (x : Pc) : nmsL (a ++ [x]) = nmsL a ++ x.nms := by simp [nmsL]
end Js
set_option Elab.async false
set_option linter.all false
set_option maxRecDepth 100000
set_option maxHeartbeats 2000000
namespace Js
open PySem L2
open PySem.Spec PyProof.Rows
abbrev sRdP : Stmt := top 39
def RwP (K : PySem.W.Frag) (C : Addr) (H : Hp) (v : V) (r : List Dd) : Prop := ∃ q, v = .ref q ∧ RAt K C H q r
theorem rwps_same {K : PySem.W.Frag} {C : Addr} {H H' : Hp} (s : Same H H') : ∀ {us : List V} {rs : List (List Dd)}, Paired (RwP K C H) us rs → Paired (RwP K C H') us rs
  | _, _, .nil => .nil
  | _, _, .cons ⟨q, e, h⟩ t => .cons ⟨q, e, h.same s⟩ (rwps_same s t)
theorem rwps_kt {K : PySem.W.Frag} {C : Addr} {H H' : Hp} (s : KT H H') : ∀ {us : List V} {rs : List (List Dd)}, Paired (RwP K C H) us rs → Paired (RwP K C H') us rs
  | _, _, .nil => .nil
  | _, _, .cons ⟨q, e, h⟩ t => .cons ⟨q, e, h.kt s⟩ (rwps_kt s t)
theorem look_at {K : PySem.W.Frag} {C : Addr} {H : Hp} (d : Dd) (hr : d.rows ≠ []) (h : d.ok) {us : List V} (hu : Paired (RwP K C H) us d.rows) {p : Addr} (hp : SqT K H p (.str (kindOf d) :: .int ((d.nm1 : Nat) : Int) :: us)) : DAt K C H (.ref p) d := by
  cases d with
  | wh a r =>
    cases hu with
    | cons h1 t =>
      cases t
      obtain ⟨q, rfl, vs, h2, h3⟩ := h1
      exact ⟨p, q, vs, rfl, hp, h.1, h2, h3⟩
  | iff a r o =>
    cases hu with
    | cons h1 t =>
      cases t with
      | cons h4 t =>
        cases t
        obtain ⟨q, rfl, vs, h2, h3⟩ := h1
        obtain ⟨q2, rfl, vs2, h5, h6⟩ := h4
        exact ⟨p, q, vs, q2, vs2, rfl, hp, h.1, h2, h3, h5, h6⟩
  | _ => exact absurd rfl hr
theorem let_nb (a : Nat) : 32 ∉ (letS a).cps.toList := by
  match a with
  | 0 => decide +kernel
  | 1 => decide +kernel
  | 2 => decide +kernel
  | 3 => decide +kernel
  | 4 => decide +kernel
  | 5 => decide +kernel
  | 6 => decide +kernel
  | 7 => decide +kernel
  | 8 => decide +kernel
  | n + 9 => exact (by decide +kernel : 32 ∉ (("j" : Str)).cps.toList)
theorem text_nb (t : Tr) : 32 ∉ t.text.cps.toList := by
  rw [Tr.text_list]
  intro h
  rcases codes_sign t 32 h with e | e | e <;> cases e
mutual
theorem words_nb : ∀ (d : Dd), ∀ x ∈ d.words, 32 ∉ x.cps.toList
  | .told a t, x, h => by
    simp only [Dd.words, List.mem_cons, List.not_mem_nil, or_false] at h
    rcases h with rfl | rfl | rfl
    · exact let_nb a
    · decide +kernel
    · exact text_nb t
  | .take s a b, x, h => by
    simp only [Dd.words, List.mem_cons, List.not_mem_nil, or_false] at h
    rcases h with rfl | rfl | rfl | rfl
    · exact let_nb a
    · decide +kernel
    · cases s <;> decide +kernel
    · exact let_nb b
  | .two s a b c, x, h => by
    simp only [Dd.words, List.mem_cons, List.not_mem_nil, or_false] at h
    rcases h with rfl | rfl | rfl | rfl | rfl
    · exact let_nb a
    · decide +kernel
    · cases s <;> decide +kernel
    · exact let_nb b
    · exact let_nb c
  | .wh a r, x, h => by
    have ih := wordsT_nb r
    simp only [Dd.words, List.mem_cons, List.mem_append, List.not_mem_nil, or_false] at h
    rcases h with (rfl | rfl) | rfl | h | rfl
    · decide +kernel
    · exact let_nb a
    · decide +kernel
    · exact ih x (List.mem_of_mem_drop h)
    · decide +kernel
  | .iff a r o, x, h => by
    have ih := wordsT_nb r
    have ih2 := wordsT_nb o
    simp only [Dd.words, List.mem_cons, List.mem_append, List.not_mem_nil, or_false] at h
    rcases h with ((rfl | rfl) | rfl | h | rfl) | rfl | h | rfl
    · decide +kernel
    · exact let_nb a
    · decide +kernel
    · exact ih x (List.mem_of_mem_drop h)
    · decide +kernel
    · decide +kernel
    · exact ih2 x (List.mem_of_mem_drop h)
    · decide +kernel
theorem wordsT_nb : ∀ (r : List Dd), ∀ x ∈ wordsT r, 32 ∉ x.cps.toList
  | [], x, h => by rw [wordsT] at h; cases h
  | d :: r, x, h => by
    rw [wordsT, List.mem_cons, List.mem_append] at h
    rcases h with rfl | h | h
    · decide +kernel
    · exact words_nb d x h
    · exact wordsT_nb r x h
end
theorem split_textR (r : List Dd) (h : r ≠ []) : PySem.Txt.split (textR r) (" " : Str) = wordsR r :=
  TL.split_join (s := 32) (S := []) (by decide +kernel) (by decide +kernel) (wordsR_ne r h) fun p hp => wordsT_nb r p (List.mem_of_mem_drop hp)
section
variable {P : Program} {w : World} {K : PySem.W.Frag} {mg : Str → Option Value} {base : Heap} {C CP CD fI fP fDI : Addr} {fdI fdP fdDI : FuncData}
theorem scRp2 : FnScope ["text", "reader", "deeds"] ["text"] (defScope sRdP) := ⟨rfl, rfl, rfl, by decide +kernel, rfl, by decide +kernel, by decide +kernel⟩
end
end Js
set_option Elab.async false
set_option linter.all false
set_option maxRecDepth 100000
set_option maxHeartbeats 2000000
namespace Js
open PySem L2
open PySem.Spec PyProof.Rows
theorem DsAt_sn {K : PySem.W.Frag} {C : Addr} {H : Hp} {v : V} {d : Dd} (hd : DAt K C H v d) : ∀ (r : List Dd) (vs : List V), DsAt K C H vs r → DsAt K C H (vs ++ [v]) (r ++ [d])
  | [], vs, h => by
    have e : vs = [] := h
    subst e
    exact ⟨v, [], rfl, hd, rfl⟩
  | x :: r, vs, h => by
    obtain ⟨u, us, rfl, h1, h2⟩ := h
    exact ⟨u, us ++ [v], rfl, h1, DsAt_sn hd r us h2⟩
theorem inV_non (xs : List Str) : inV .non (strV xs) = false := by
  unfold inV strV
  rw [List.any_map, List.any_eq_false]
  intro y _
  simp [eqV]
theorem len_le_many : ∀ r : List Dd, r.length ≤ manyR r
  | [] => Nat.zero_le _
  | d :: r => by
    have h1 := len_le_many r
    have h2 := many_pos d
    rw [many_cons, List.length_cons]
    omega
end Js
set_option Elab.async false
set_option linter.all false
set_option maxRecDepth 100000
set_option maxHeartbeats 2000000
namespace Js
open PySem L2
open PySem.Spec PyProof.Rows
theorem seq_obj1 {C : Addr} {fs : List V → List (Str × V)} {dvs : List V} {ta : TE} {g : TG} {rest : TS} {D : Ends} {σ : L2.St} {H : Hp} (P : V → Hp → Prop) (h : ∀ R : VK, (∀ v H1, P v H1 → R v H1) → ta σ H R)
    (k : ∀ v H1, P v H1 → ([v] ++ dvs).length = 1 ∧ ∀ z dx H', Same H1 H' → H1 z = none → H' z = some (.ins C dx (fs ([v] ++ dvs))) → g (.ref z) σ H' (rest D)) : tSeq (tAsg (tObj C fs 1 dvs (tCons ta tNil)) g) rest D σ H := h _ k
end Js
set_option Elab.async false
set_option linter.all false
set_option maxRecDepth 100000
set_option maxHeartbeats 2000000
namespace Js
open PySem L2
def brk : List Nat → Nat → List Nat → Nat → Option Nat
  | [], i, W, _ => if W = [0] then none else some i
  | _ :: _, i, [], _ => some i
  | c :: cs, i, w :: W, o =>
    if c = 41 then (if W ≠ [] ∧ w = 0 then brk cs (i + 1) W o else some i)
    else if c = 46 then (if 0 < w then brk cs (i + 1) ((w - 1) :: W) o else some i)
    else if c = 40 then (if 0 < w ∧ o < 4000 then brk cs (i + 1) (2 :: (w - 1) :: W) (o + 1) else some i)
    else some i
def cap : List (List Tr) → Nat
  | [] => 1
  | _ :: _ => 2
def low : List (List Tr) → List Nat
  | [] => []
  | xs :: lv => (cap lv - xs.length - 1) :: low lv
def wts : List (List Tr) → List Nat
  | [] => []
  | xs :: lv => (cap lv - xs.length) :: low lv
def Shl : List (List Tr) → Prop
  | [] => True
  | xs :: lv => xs.length < cap lv ∧ Shl lv
def Sh : List (List Tr) → Prop
  | [] => False
  | xs :: lv => xs.length ≤ cap lv ∧ Shl lv
def br : List (List Tr) → List Nat
  | [] => []
  | _ :: _ => [40]
def pre : List (List Tr) → List Nat
  | [] => []
  | xs :: lv => pre lv ++ br lv ++ (xs.map Tr.codes).flatten
theorem cap_le (lv : List (List Tr)) : cap lv ≤ 2 := by cases lv <;> simp [cap]
theorem cap_pos (lv : List (List Tr)) : 1 ≤ cap lv := by cases lv <;> simp [cap]
theorem Sh.ne {lv : List (List Tr)} (h : Sh lv) : lv ≠ [] := by
  cases lv with
  | nil => exact h.elim
  | cons a b => simp
theorem low_ne {lv : List (List Tr)} (h : lv ≠ []) : low lv ≠ [] := by
  cases lv with
  | nil => exact absurd rfl h
  | cons a b => simp [low]
theorem whole_iff {xs : List Tr} {lv : List (List Tr)} : whole (xs :: lv) = true ↔ lv = [] ∧ xs.length = 1 := by
  cases lv with
  | nil =>
    match xs with
    | [] => simp [whole]
    | [x] => simp [whole]
    | x :: y :: r => simp [whole]
  | cons ys lv =>
    match xs with
    | [] => simp [whole]
    | [x] => simp [whole]
    | x :: y :: r => simp [whole]
theorem l_nil : (("" : Str)).cps.toList = [] := by decide +kernel
theorem l_41 : ((")" : Str)).cps.toList = [41] := by decide +kernel
theorem l_46 : (("." : Str)).cps.toList = [46] := by decide +kernel
theorem l_46b : ((".(" : Str)).cps.toList = [46, 40] := by decide +kernel
theorem due_step {lv : List (List Tr)} {b : Nat} (h : Sh lv) (hb : b ≤ 4000) (c i : Nat) (cs : List Nat) :
    (c ∈ (due lv b).cps.toList ∧ ((c = 41 ∧ ∃ l r ys lv', lv = [l, r] :: ys :: lv') ∨ (c = 46 ∧ ∃ xs lv', lv = xs :: lv' ∧ xs.length < cap lv') ∨ (c = 40 ∧ b < 4000 ∧ ∃ xs lv', lv = xs :: lv' ∧ xs.length < cap lv'))) ∨
    (c ∉ (due lv b).cps.toList ∧ brk (c :: cs) i (wts lv) b = some i) := by
  cases lv with
  | nil => exact h.elim
  | cons xs lv =>
  obtain ⟨h1, h2⟩ := h
  have hc2 := cap_le lv
  have hc1 := cap_pos lv
  unfold due
  by_cases hw : whole (xs :: lv) = true
  · rw [if_pos hw, l_nil]
    obtain ⟨rfl, hx⟩ := whole_iff.mp hw
    refine .inr ⟨by simp, ?_⟩
    simp only [wts, cap, hx, low, Nat.sub_self, brk]
    simp
  · rw [if_neg hw]
    by_cases h3 : topLen (xs :: lv) = 2
    · rw [if_pos h3, l_41]
      have hx : xs.length = 2 := h3
      have hcap : cap lv = 2 := by omega
      cases lv with
      | nil => simp [cap] at hcap
      | cons ys lv' =>
      by_cases hc : c = 41
      · refine .inl ⟨by simp [hc], .inl ⟨hc, ?_⟩⟩
        match xs, hx with
        | [l, r], _ => exact ⟨l, r, ys, lv', rfl⟩
      · refine .inr ⟨by simp [hc], ?_⟩
        simp only [wts, hx, hcap, Nat.sub_self, brk, if_neg hc]
        simp
    · rw [if_neg h3]
      have h3' : xs.length ≠ 2 := h3
      have hlt : xs.length < cap lv := by
        by_cases hn : lv = []
        · subst hn
          simp only [cap] at h1 ⊢
          have : xs.length ≠ 1 := fun z => hw (whole_iff.mpr ⟨rfl, z⟩)
          omega
        · have : cap lv = 2 := by
            cases lv with
            | nil => exact absurd rfl hn
            | cons a b => rfl
          omega
      have hpos : 0 < cap lv - xs.length := by omega
      have hne : ¬ (cap lv - xs.length = 0) := by omega
      by_cases h4 : b = 4000
      · rw [if_pos h4, l_46]
        by_cases hc : c = 46
        · exact .inl ⟨by simp [hc], .inr (.inl ⟨hc, xs, lv, rfl, hlt⟩)⟩
        · refine .inr ⟨by simp [hc], ?_⟩
          simp only [wts, brk, if_neg hc, hne, and_false, if_false]
          have : ¬ (0 < cap lv - xs.length ∧ b < 4000) := by omega
          rw [if_neg this]
          simp
      · rw [if_neg h4, l_46b]
        by_cases hc : c = 46
        · exact .inl ⟨by simp [hc], .inr (.inl ⟨hc, xs, lv, rfl, hlt⟩)⟩
        · by_cases hc' : c = 40
          · exact .inl ⟨by simp [hc'], .inr (.inr ⟨hc', by omega, xs, lv, rfl, hlt⟩)⟩
          · refine .inr ⟨by simp [hc, hc'], ?_⟩
            simp only [wts, brk, if_neg hc, if_neg hc', hne, and_false, if_false]
            simp
theorem brk_shut (l r : Tr) (ys : List Tr) (lv : List (List Tr)) (b i : Nat) (cs : List Nat) (h : ys.length < cap lv) : brk (41 :: cs) i (wts ([l, r] :: ys :: lv)) b = brk cs (i + 1) (wts ((ys ++ [Tr.pr l r]) :: lv)) b := by
  have e : wts ([l, r] :: ys :: lv) = 0 :: (cap lv - ys.length - 1) :: low lv := by simp [wts, low, cap]
  have e2 : wts ((ys ++ [Tr.pr l r]) :: lv) = (cap lv - ys.length - 1) :: low lv := by
    simp only [wts, List.length_append, List.length_cons, List.length_nil]
    congr 1
  rw [e, e2]
  simp [brk]
theorem brk_dot (xs : List Tr) (lv : List (List Tr)) (b i : Nat) (cs : List Nat) (h : xs.length < cap lv) : brk (46 :: cs) i (wts (xs :: lv)) b = brk cs (i + 1) (wts ((xs ++ [Tr.nil]) :: lv)) b := by
  have e2 : wts ((xs ++ [Tr.nil]) :: lv) = (cap lv - xs.length - 1) :: low lv := by
    simp only [wts, List.length_append, List.length_cons, List.length_nil]
    congr 1
  rw [e2]
  have hp : 0 < cap lv - xs.length := by omega
  simp only [wts, brk]
  rw [if_neg (by decide), if_pos trivial, if_pos hp]
theorem brk_open (xs : List Tr) (lv : List (List Tr)) (b i : Nat) (cs : List Nat) (h : xs.length < cap lv) (hb : b < 4000) : brk (40 :: cs) i (wts (xs :: lv)) b = brk cs (i + 1) (wts ([] :: xs :: lv)) (b + 1) := by
  have hp : 0 < cap lv - xs.length := by omega
  have e2 : wts ([] :: xs :: lv) = 2 :: (cap lv - xs.length - 1) :: low lv := rfl
  rw [e2]
  simp only [wts, brk]
  rw [if_neg (by decide), if_neg (by decide), if_pos trivial, if_pos ⟨hp, hb⟩]
theorem pre_app (x : Tr) (xs : List Tr) (lv : List (List Tr)) : pre ((xs ++ [x]) :: lv) = pre (xs :: lv) ++ x.codes := by simp [pre]
theorem pre_open {lv : List (List Tr)} (h : lv ≠ []) : pre ([] :: lv) = pre lv ++ [40] := by
  cases lv with
  | nil => exact absurd rfl h
  | cons a b => simp [pre, br]
theorem pre_shut (l r : Tr) (ys : List Tr) (lv : List (List Tr)) : pre ([l, r] :: ys :: lv) ++ [41] = pre ((ys ++ [Tr.pr l r]) :: lv) := by
  rw [pre_app]
  simp [pre, br, Tr.codes]
theorem brk_end {lv : List (List Tr)} (h : Sh lv) (n b : Nat) : brk [] n (wts lv) b = if whole lv = true then none else some n := by
  cases lv with
  | nil => exact h.elim
  | cons xs lv =>
  obtain ⟨h1, h2⟩ := h
  simp only [brk]
  by_cases hw : whole (xs :: lv) = true
  · rw [if_pos hw]
    obtain ⟨rfl, hx⟩ := whole_iff.mp hw
    rw [if_pos]
    simp [wts, cap, hx, low]
  · rw [if_neg hw, if_neg]
    intro z
    apply hw
    rw [whole_iff]
    simp only [wts, List.cons.injEq] at z
    have hl : lv = [] := by
      by_cases hn : lv = []
      · exact hn
      · exact absurd z.2 (low_ne hn)
    subst hl
    simp only [cap] at z h1
    exact ⟨rfl, by omega⟩
end Js
set_option Elab.async false
set_option linter.all false
set_option maxRecDepth 100000
set_option maxHeartbeats 2000000
namespace Js
open PySem L2
open PySem.Spec PyProof.Rows
inductive Rs where
  | bad (m : Nat)
  | ok (a : Nat)
def Rs.bind : Rs → (Nat → Rs) → Rs
  | .bad m, _ => .bad m
  | .ok a, f => f a
def tkW (p : Str → Bool) (ws : List Str) (a : Nat) : Rs := match ws[a]? with
  | some x => if p x = true then .ok (a + 1) else .bad a
  | none => .bad a
def isLet (x : Str) : Bool := decide (x ∈ letters)
def isTh (x : Str) : Bool := (brk x.cps.toList 0 [1] 0).isNone
def isS (z x : Str) : Bool := decide (x = z)
def pNames (ws : List Str) : Nat → Nat → Rs
  | 0, a => .ok a
  | k + 1, a => (tkW isLet ws a).bind (pNames ws k)
def tkN (y : Str) : Nat := if y ∈ ([("first" : Str), "second"] : List Str) then 1 else 2
def pVal (ws : List Str) (a : Nat) : Rs := match ws[a]? with
  | none => .bad a
  | some y => if y ∈ takersS then pNames ws (tkN y) (a + 1) else if isTh y = true then .ok (a + 1) else .bad a
def pMore (dd : Nat → Rs) (ws : List Str) : Nat → Nat → Rs
  | 0, a => .ok a
  | k + 1, a => if ws[a]? = some ";" then (dd (a + 1)).bind (pMore dd ws k) else .ok a
def pRow (fw : List Str) (dd : Nat → Rs) (ws : List Str) (a : Nat) : Rs := match ws[a]? with
  | some x => if x ∈ fw then (dd a).bind (pMore dd ws ws.length) else .ok a
  | none => .ok a
def pLook (row : Nat → Rs) (ws : List Str) : Nat → Nat → Rs
  | 0, a => .ok a
  | k + 1, a => (tkW (isS "[") ws a).bind fun a1 => (row a1).bind fun a2 => (tkW (isS "]") ws a2).bind fun a3 => pLook row ws k a3
def lkN (x : Str) : Nat := if x = "if" then 2 else 1
def pDeed0 (lk : Bool) (row : Nat → Rs) (ws : List Str) (a : Nat) : Rs := match ws[a]? with
  | none => .bad a
  | some x => if x ∈ letters then (tkW (isS "=") ws (a + 1)).bind (pVal ws) else if lk = true ∧ x ∈ looksS then (tkW isLet ws (a + 1)).bind (pLook row ws (lkN x)) else .bad a
def pDeed (ws : List Str) : Nat → Nat → Rs
  | 0 => pDeed0 false (fun a => .bad a) ws
  | n + 1 => pDeed0 true (pRow (fwS (8 - n)) (pDeed ws n) ws) ws
def pRowN (ws : List Str) (n : Nat) : Nat → Rs := pRow (fwS (8 - n)) (pDeed ws n) ws
def pProg (ws : List Str) : Option Nat := match pRowN ws 8 0 with
  | .bad m => some m
  | .ok a => if a < ws.length then some a else none
theorem tkW_ok {p : Str → Bool} {ws : List Str} {a a' : Nat} (h : tkW p ws a = .ok a') : ∃ x, ws[a]? = some x ∧ p x = true ∧ a' = a + 1 := by
  unfold tkW at h
  cases e : ws[a]? with
  | none => rw [e] at h; cases h
  | some x =>
    rw [e] at h
    dsimp only at h
    split at h
    · next h1 =>
      cases h
      exact ⟨x, rfl, h1, rfl⟩
    · cases h
theorem tkW_yes {p : Str → Bool} {ws : List Str} {a : Nat} {x : Str} (h : ws[a]? = some x) (hp : p x = true) : tkW p ws a = .ok (a + 1) := by
  unfold tkW
  rw [h]
  exact if_pos hp
theorem tkW_no {p : Str → Bool} {ws : List Str} {a : Nat} (h : ∀ x, ws[a]? = some x → p x = false) : tkW p ws a = .bad a := by
  unfold tkW
  cases e : ws[a]? with
  | none => rfl
  | some x => exact if_neg (by rw [h x e]; decide)
theorem bind_ok {r : Rs} {f : Nat → Rs} {a : Nat} (h : r.bind f = .ok a) : ∃ a1, r = .ok a1 ∧ f a1 = .ok a := by
  cases r with
  | bad m => cases h
  | ok a1 => exact ⟨a1, rfl, h⟩
theorem isS_iff {z x : Str} : isS z x = true ↔ x = z := by unfold isS; rw [decide_eq_true_eq]
theorem isLet_iff {x : Str} : isLet x = true ↔ x ∈ letters := by unfold isLet; rw [decide_eq_true_eq]
theorem let_of {x : Str} (h : x ∈ letters) : ∃ c, c < 10 ∧ x = letS c := by
  obtain ⟨c, hc, rfl⟩ := List.mem_map.mp h
  exact ⟨c, List.mem_range.mp hc, rfl⟩
end Js
set_option Elab.async false
set_option linter.all false
set_option maxRecDepth 100000
set_option maxHeartbeats 2000000
namespace Js
open PySem L2
abbrev sIsTh : Stmt := top 58
def vN (n : Nat) : V := .int (n : Nat)
def spIt : Sp := fun vs H Q _ => ∃ z : Str, vs = [.str z] ∧ z.length ≤ 100000 ∧ ∀ H', Same H H' → Q (.bl (isTh z)) H'
section
variable {P : Program} {w : World} {K : PySem.W.Frag} {mg : Str → Option Value} {base : Heap} {C fI : Addr} {fdI : FuncData}
theorem scIt : FnScope ["_law_word", "_law_wants", "_law_opened", "_law_sign"] ["_law_word"] (defScope sIsTh) := ⟨rfl, rfl, rfl, by decide +kernel, rfl, by decide +kernel, by decide +kernel⟩
theorem sgn_eq (c d : Nat) : decide (V.str ⟨#[c]⟩ = V.str ⟨#[d]⟩) = decide (c = d) := by
  apply decide_eq_decide.mpr
  constructor
  · intro h
    have h2 := V.str.inj h
    have h3 := Str.mk.inj h2
    simpa using h3
  · rintro rfl
    rfl
theorem c40 : (("(" : Str)) = ⟨#[40]⟩ := by decide +kernel
theorem c41 : ((")" : Str)) = ⟨#[41]⟩ := by decide +kernel
theorem c46 : (("." : Str)) = ⟨#[46]⟩ := by decide +kernel
theorem in_two10 (c : Nat) : inV (V.str ⟨#[c]⟩) [V.str ".", V.str "("] = (decide (c = 46) || decide (c = 40)) := by
  rw [c46, c40]
  by_cases h1 : c = 46
  · subst h1; decide +kernel
  · by_cases h2 : c = 40
    · subst h2; decide +kernel
    · have e1 : ¬ (46 = c) := fun z => h1 z.symm
      have e2 : ¬ (40 = c) := fun z => h2 z.symm
      simp [inV, eqV, h1, h2, e1, e2]
def dN (n : Nat) : PyData := .int (n : Nat)
theorem dp_ns (H : Hp) : ∀ ns : List Nat, DpAll K H (ns.map vN) (ns.map dN)
  | [] => .nil
  | n :: ns => .cons (.int _) (dp_ns H ns)
theorem lay_ns : ∀ ns : List Nat, PyData.canLayAll0 (ns.map dN) = true
  | [] => rfl
  | n :: ns => by
    show (true && PyData.canLayAll0 (ns.map dN)) = true
    rw [lay_ns ns]
    rfl
theorem dep_ns : ∀ ns : List Nat, PyData.depthAll (ns.map dN) = 0
  | [] => rfl
  | n :: ns => by
    show max 0 (PyData.depthAll (ns.map dN)) = 0
    rw [dep_ns ns]
    rfl
theorem shaped_ns (ns : List Nat) : SeqAt.shaped (.list (ns.map dN)) = true := by
  show (PyData.canLayAll0 (ns.map dN) && decide (PyData.depthAll (ns.map dN) + 1 ≤ 64)) = true
  rw [lay_ns, dep_ns]
  rfl
theorem eqv_zero : ∀ ns : List Nat, PyData.eqv (.list (ns.map dN)) (.list [.int 0]) = decide (ns = [0])
  | [] => rfl
  | [n] => by
    show ((((n : Nat) : Int) == 0) && true) = decide ([n] = [0])
    rw [Bool.and_true]
    by_cases h : n = 0
    · subst h; rfl
    · have : ¬ (((n : Nat) : Int) = 0) := by omega
      simp [h, this]
  | n :: m :: r => by
    show ((((n : Nat) : Int) == 0) && false) = decide (n :: m :: r = [0])
    simp
theorem set_last {α : Type} (R : List α) (x v : α) : (R ++ [x]).set R.length v = R ++ [v] := by simp
theorem ix_last {α : Type} (R : List α) (x : α) : ixN (R ++ [x]).length (-1) = some R.length := by
  unfold ixN
  rw [List.length_append, List.length_singleton, if_neg (by decide), if_pos (by omega)]
  congr 1
  omega
theorem atI_lastN (W : List Nat) (w : Nat) : atI ((W.map vN).reverse ++ [vN w]) (-1) = some (vN w) := by
  unfold atI
  rw [ix_last, Option.bind_some, List.getElem?_append_right (Nat.le_refl _), Nat.sub_self]
  rfl
theorem ok_isTh {f : Addr} {fd : FuncData} (F : Fun K "_law_is_thing" "_law_is_thing" sIsTh f fd) (B : Blt mg) : FnOk P w K mg base CX0 1 f fd ["_law_word"] spIt := by
  refine F.ok scIt (fun vs H Q E h => ?_) (fun cdv A outer s H vs Q E hr h => ?_)
  · obtain ⟨z, rfl, _⟩ := h
    rfl
  · obtain ⟨z, rfl, hz, k⟩ := h
    have hun : (A.deeper (PyProof.Rows.envOfC "_law_is_thing" (defScope sIsTh) s.heap.objs.size f cdv)).units + 64 < cLine := by
      have := hr.un
      omega
    refine ⟨_, pss_cons (ps_par (i := 1) (j := 2) (by rfl) scIt.nd rfl rfl (by decide) rfl rfl (pa_cons (pe_lst (pa_cons pe_int pa_nil)) (pa_cons pe_int pa_nil)) (by rfl)) (pss_cons (ps_for PassesOwn.never rfl (pi_str (pv 0)) (pg_name (i := 3) scIt.nd rfl (Or.inl rfl)) (pss_one (ps_if (PW.pt (pw_and (pt_cmpR op_eq (pv 3) pe_str (nomark _)) (pw_and (pt_cmpR op_gt (pe_callB call_len_seq (by rfl) B.len PySem.boot_len (pa_cons (pv 1) pa_nil)) pe_int (nomark _)) (pw_and1 (pt_cmpR op_eq (pe_ix (r := rIxL K) ix_list (pv 1) (pe_un un_neg pe_int) (fun _ _ => rfl)) pe_int (nomark _)))))) (pss_one (ps_expr (pe_bm0 PySem.F.plainAttrs_list PySem.F.slot_list_pop PySem.F.type_list_pop mt_pop (pv 1)))) (pss_one (ps_if (PW.pt (pw_and (pt_cmpR op_in_seq (pv 3) (pe_tup (pa_cons pe_str (pa_cons pe_str pa_nil))) rfl) (pw_and (pt_cmpR op_gt (pe_ix (r := rIxL K) ix_list (pv 1) (pe_un un_neg pe_int) (fun _ _ => rfl)) pe_int (nomark _)) (pw_and1 (PW.pt (pw_or (pt_cmpR op_eq (pv 3) pe_str (nomark _)) (pw_or1 (pt_cmpR op_lt (pv 2) pe_int (nomark _))))))))) (pss_cons (ps_asg (pe_op op_sub (pe_ix (r := rIxL K) ix_list (pv 1) (pe_un un_neg pe_int) (fun _ _ => rfl)) pe_int) (pg_sub (pv 1) (pe_un un_neg pe_int) set_list)) (pss_one (ps_if (pt_cmpR op_eq (pv 3) pe_str (nomark _)) (pss_cons (ps_set (i := 2) scIt.nd rfl (Or.inl rfl) (pe_op op_add (pv 2) pe_int)) (pss_one (ps_expr (pe_bm PySem.F.plainAttrs_list PySem.F.slot_list_append PySem.F.type_list_append mt_append (pv 1) (pa_cons pe_int pa_nil))))) pss_nil))) (pss_one (ps_ret pe_bl))))))) (pss_one (ps_ret (pe_cmpR (op_eqD hun) (pv 1) (pe_lst (pa_cons pe_int pa_nil)) (nomark _))))), ?_⟩
    have hsl := line4
    obtain ⟨cs, hcs⟩ : ∃ cs, z.cps.toList = cs := ⟨_, rfl⟩
    have hn : z.cps.size = cs.length := by rw [← hcs, Array.length_toList]
    have hzl : z.length = cs.length := hn
    unfold isTh at k
    rw [hcs] at k
    refine ⟨by show 1 ≤ sizeLine; decide, fun WA nWA => ?_⟩
    refine ⟨_, _, rfl, ?_⟩
    refine ⟨_, rfl, z, rfl, for_it walk_str (fun i σ H' => ∃ (x3 : Option V) (w : Nat) (W : List Nat) (o : Nat), σ = [some (.str z), some (.ref WA), some (.int (o : Nat)), x3] ∧ Same H H' ∧ H' WA = some (.lst ((W.map vN).reverse ++ [vN w])) ∧ W.length ≤ o ∧ o ≤ 4000 ∧ brk (cs.drop i) i (w :: W) o = brk cs 0 [1] 0)
      ⟨none, 1, [], 0, rfl, Same.new nWA, upd_same, by simp, by decide, rfl⟩ (fun _ _ _ _ _ => trivial) ?_ ?_⟩
    · rintro i y σ Hx H1 hi ⟨x3, w, W, o, rfl, s1, hW, hl, ho, hbrk⟩ ⟨rfl, c, hcc0, rfl⟩
      have hc : cs[i]? = some c := by
        rw [← hcs, Array.getElem?_toList]
        exact hcc0
      have hi : i < cs.length := (List.getElem?_eq_some_iff.mp hc).1
      have hdr : cs.drop i = c :: cs.drop (i + 1) := by
        rw [List.drop_eq_getElem_cons hi]
        rw [List.getElem?_eq_getElem hi] at hc
        rw [Option.some.inj hc]
      rw [hdr] at hbrk
      refine ⟨_, rfl, rfl, _, rfl, ?_⟩
      rw [c41, sgn_eq]
      by_cases h41 : c = 41
      · subst h41
        refine iteT ?_
        refine ⟨_, rfl, WA, _, rfl, .inl (SqL.of hW), _, _, rfl, rfl, _, rfl, ?_⟩
        simp only [brk, if_true] at hbrk
        by_cases hW1 : W = []
        · subst hW1
          refine iteF ?_
          refine iteF ?_
          refine ⟨_, rfl, by show 2 ≤ sizeLine; decide, fun p np => ⟨p, _, rfl, .inr (SqT.of upd_same), rfl, by decide +kernel, _, rfl, ?_⟩⟩
          rw [if_neg Bool.false_ne_true, in_two10]
          refine iteF ?_
          refine iteF ?_
          have e := k (upd H1 p (.tup [.str ".", .str "("])) (s1.trans (Same.new np))
          rw [← hbrk] at e
          exact e
        · have hlw : (1 : Int) < ((((W.map vN).reverse ++ [vN w]).length : Nat) : Int) := by
            have : 0 < W.length := List.length_pos_iff.mpr hW1
            simp only [List.length_append, List.length_reverse, List.length_map, List.length_singleton]
            omega
          rw [decide_eq_true hlw]
          refine iteT ?_
          refine ⟨_, rfl, _, rfl, WA, _, _, _, rfl, rfl, SqL.of hW, atI_lastN W w, rfl, _, rfl, ?_⟩
          have ew : decide (vN w = V.int 0) = decide (w = 0) := by
            apply decide_eq_decide.mpr
            simp only [vN, V.int.injEq]
            omega
          rw [ew]
          by_cases hw0 : w = 0
          · rw [decide_eq_true hw0]
            refine iteT ?_
            rw [if_pos ⟨hW1, hw0⟩] at hbrk
            obtain ⟨w', W', rfl⟩ : ∃ w' W', W = w' :: W' := List.exists_cons_of_ne_nil hW1
            refine ⟨_, rfl, .inl ⟨rfl, _, SqL.of hW⟩, WA, _, vN w, rfl, rfl, hW, ?_, ?_⟩
            · rw [List.length_append, List.length_singleton, Nat.add_sub_cancel, List.getElem?_append_right (Nat.le_refl _), Nat.sub_self]
              rfl
            · rw [List.dropLast_concat]
              refine ⟨_, w', W', o, rfl, s1.set nWA, ?_, by simp at hl; omega, ho, hbrk⟩
              rw [upd_same, List.map_cons, List.reverse_cons]
          · rw [decide_eq_false hw0]
            refine iteF ?_
            rw [if_neg (fun z => hw0 z.2)] at hbrk
            refine ⟨_, rfl, by show 2 ≤ sizeLine; decide, fun p np => ⟨p, _, rfl, .inr (SqT.of upd_same), rfl, by decide +kernel, _, rfl, ?_⟩⟩
            rw [if_neg Bool.false_ne_true, in_two10]
            refine iteF ?_
            refine iteF ?_
            have e := k (upd H1 p (.tup [.str ".", .str "("])) (s1.trans (Same.new np))
            rw [← hbrk] at e
            exact e
      · rw [decide_eq_false h41]
        refine iteF ?_
        refine iteF ?_
        simp only [brk, if_neg h41] at hbrk
        refine ⟨_, rfl, by show 2 ≤ sizeLine; decide, fun p np => ⟨p, _, rfl, .inr (SqT.of upd_same), rfl, by decide +kernel, _, rfl, ?_⟩⟩
        rw [if_neg Bool.false_ne_true, in_two10]
        have nWp : WA ≠ p := ne_of_none hW np
        have hWp : (upd H1 p (.tup [.str ".", .str "("])) WA = some (.lst ((W.map vN).reverse ++ [vN w])) := (upd_ne nWp).trans hW
        have sp : Same H (upd H1 p (.tup [.str ".", .str "("])) := s1.trans (Same.new np)
        revert hWp sp
        generalize upd H1 p (.tup [.str ".", .str "("]) = H2
        intro hWp sp
        have hfail : brk cs 0 [1] 0 = some i → Q (.bl false) H2 := fun z => by
          have e := k H2 sp
          rw [z] at e
          exact e
        have hlen : ((W.map vN).reverse).length = W.length := by rw [List.length_reverse, List.length_map]
        by_cases hcc : c = 46 ∨ c = 40
        · have ec : (decide (c = 46) || decide (c = 40)) = true := by
            rcases hcc with h | h <;> simp [h]
          rw [ec]
          refine iteT ?_
          refine ⟨_, rfl, _, rfl, WA, _, _, _, rfl, rfl, SqL.of hWp, atI_lastN W w, _, _, rfl, rfl, _, rfl, ?_⟩
          by_cases hw0 : 0 < w
          · have ew : decide ((0 : Int) < ((w : Nat) : Int)) = true := decide_eq_true (by omega)
            rw [ew]
            refine iteT ?_
            have ev : V.int (((w : Nat) : Int) - 1) = vN (w - 1) := by
              show _ = V.int _
              congr 1
              omega
            have e5 : ((W.map vN).reverse ++ [vN w]).set (W.map vN).reverse.length (V.int (((w : Nat) : Int) - 1)) = (W.map vN).reverse ++ [vN (w - 1)] := by rw [set_last, ev]
            have h5 : (upd H2 WA (.lst (((W.map vN).reverse ++ [vN w]).set (W.map vN).reverse.length (V.int (((w : Nat) : Int) - 1))))) WA = some (.lst ((W.map vN).reverse ++ [vN (w - 1)])) := by rw [upd_same, e5]
            refine ⟨_, rfl, rfl, _, rfl, ?_⟩
            rw [c46, sgn_eq]
            by_cases h46 : c = 46
            · subst h46
              refine iteT ?_
              refine iteT ?_
              rw [if_pos rfl, if_pos hw0] at hbrk
              refine ⟨_, rfl, _, rfl, WA, _, _, _, rfl, rfl, SqL.of hWp, atI_lastN W w, _, _, rfl, rfl, ?_⟩
              refine ⟨_, rfl, _, rfl, WA, _, _, _, rfl, rfl, hWp, ix_last _ _, ?_⟩
              skip
              refine ⟨_, rfl, rfl, _, rfl, ?_⟩
              rw [c40, sgn_eq]
              refine iteF ?_
              exact ⟨_, w - 1, W, o, rfl, sp.set nWA, h5, hl, ho, hbrk⟩
            · rw [decide_eq_false h46]
              refine iteF ?_
              have h40 : c = 40 := hcc.resolve_left h46
              subst h40
              rw [if_neg h46, if_pos rfl] at hbrk
              refine ⟨_, rfl, _, _, rfl, rfl, _, rfl, ?_⟩
              by_cases h4 : o < 4000
              · have eo : decide (((o : Nat) : Int) < 4000) = true := decide_eq_true (by omega)
                rw [eo]
                refine iteT ?_
                rw [if_pos ⟨hw0, h4⟩] at hbrk
                refine ⟨_, rfl, _, rfl, WA, _, _, _, rfl, rfl, SqL.of hWp, atI_lastN W w, _, _, rfl, rfl, ?_⟩
                refine ⟨_, rfl, _, rfl, WA, _, _, _, rfl, rfl, hWp, ix_last _ _, ?_⟩
                skip
                refine ⟨_, rfl, rfl, _, rfl, ?_⟩
                rw [c40, sgn_eq]
                refine iteT ?_
                refine ⟨_, rfl, _, _, rfl, rfl, ?_⟩
                refine ⟨_, rfl, .inl ⟨rfl, _, SqL.of h5⟩, WA, _, _, rfl, rfl, h5, by rw [List.length_append, hlen, List.length_singleton]; omega, ?_⟩
                refine ⟨some (.str ⟨#[40]⟩), 2, (w - 1) :: W, o + 1, by simp, (sp.set nWA).set nWA, ?_, by simp; omega, by omega, hbrk⟩
                rw [upd_same, List.map_cons, List.reverse_cons]
                rfl
              · have eo : decide (((o : Nat) : Int) < 4000) = false := decide_eq_false (by omega)
                rw [eo]
                refine iteF ?_
                rw [if_neg (fun z => h4 z.2)] at hbrk
                exact (hfail hbrk.symm)
          · have ew : decide ((0 : Int) < ((w : Nat) : Int)) = false := decide_eq_false (by omega)
            rw [ew]
            refine iteF ?_
            refine iteF ?_
            have e : brk cs 0 [1] 0 = some i := by
              rw [← hbrk]
              rcases hcc with h | h
              · rw [if_pos h, if_neg hw0]
              · rw [if_neg (by omega), if_pos h, if_neg (fun z => hw0 z.1)]
            exact (hfail e)
        · have ec : (decide (c = 46) || decide (c = 40)) = false := by
            simp only [not_or] at hcc
            simp [hcc.1, hcc.2]
          rw [ec]
          refine iteF ?_
          refine iteF ?_
          simp only [not_or] at hcc
          rw [if_neg hcc.1, if_neg hcc.2] at hbrk
          exact (hfail hbrk.symm)
    · rintro σ H1 ⟨x3, w, W, o, rfl, s1, hW, hl, ho, hbrk⟩
      rw [hn, List.drop_length] at hbrk
      have hW2 : H1 WA = some (.lst ((W.reverse ++ [w]).map vN)) := by
        rw [hW]
        simp
      refine ⟨_, rfl, by show 1 ≤ sizeLine; decide, fun q nq => ?_⟩
      have sq : Same H1 (upd H1 q (.lst [.int 0])) := Same.new nq
      refine ⟨_, _, .lst (SqL.of (sq _ _ hW2)) (dp_ns _ _), .lst (SqL.of upd_same) (.cons (.int 0) .nil), shaped_ns _, by decide +kernel, ?_⟩
      rw [eqv_zero]
      have hfin := k _ (s1.trans sq)
      rw [← hbrk] at hfin
      simp only [brk] at hfin
      by_cases h0 : w :: W = [0]
      · obtain ⟨rfl, rfl⟩ : w = 0 ∧ W = [] := by simpa using h0
        rw [if_pos rfl] at hfin
        exact hfin
      · have h1 : ¬ (W.reverse ++ [w] = [0]) := fun z => h0 (by
          have e := congrArg List.reverse z
          simpa using e)
        rw [if_neg h0] at hfin
        rw [decide_eq_false h1]
        exact hfin
end
end Js
set_option Elab.async false
set_option linter.all false
set_option maxRecDepth 100000
set_option maxHeartbeats 2000000
namespace Js
open PySem L2
theorem nat_log (n : Nat) (h : n ≤ 1000000) : ((n : Nat) : Int).natAbs.log2 < 1920 := by
  rw [Int.natAbs_natCast]
  by_cases h0 : n = 0
  · subst h0; decide
  · exact Nat.lt_of_lt_of_le ((Nat.log2_lt h0).mpr (show n < 2 ^ 20 by omega)) (by decide)
section
variable {X : Cx} {a D : Addr} {oe : Obj} {pn : List (Addr × Obj)} {d : Option Addr} {cls : Value}
def rIsX (K : PySem.W.Frag) (D a : Addr) (cls : Value) (d : Option Addr) : List V → Hp → VK → Prop := fun xs H Q => ∃ (c : V) (cv : Value) (b : Bool) (dd : Addr) (fs : List (Str × V)), xs = [.ref a, c] ∧ ClsV c cv ∧ cls = .ref D ∧ d = some dd ∧ H dd = some (.xd fs) ∧ PySem.W.kitOne K (.ref D) cv = some b ∧ Q (.bl b) H
theorem inst_x {s : Shared} {H : Hp} {dd : Addr} {fs : List (Str × V)} {pins : List (Addr × Obj)} {σ : St} (I : Inv (X.suite a ((a, oe) :: pn)) pins σ H s) (hz : Zc (.ref D) d oe) (hf : ∃ vs, oe.data = .fields vs) (e1 : d = some dd) (e2 : H dd = some (.xd fs)) : ∃ od, PySem.W.InstAt s.heap a oe D (some od) := by
  subst e1
  obtain ⟨hget, _⟩ := I.pin (a, oe) (List.mem_append_left _ List.mem_cons_self)
  obtain ⟨vs, hd⟩ := hf
  have hx : ObjOk X.prog X.w H s.heap dd (.xd fs) := I.hok dd _ e2
  obtain ⟨mA, hns, hr⟩ := hx
  obtain ⟨od, ho, hl⟩ := lookIn_ns hns
  exact ⟨od, hget, hz.1, by unfold PySem.W.notCls; rw [hd] <;> rfl, by rw [hz.2]; exact ho⟩
structure XcC (K : PySem.W.Frag) (D : Addr) : Prop where
  hc : (PySem.W.clsIn K D).isSome = true
  hg : PySem.W.findIn K (.ref D) "__getattribute__" = some (some (.builtin "BaseException.__getattribute__"))
  hk : PySem.W.findIn K (.ref D) "__getattr__" = some none
  hs : PySem.W.subIn K (.ref D) (.type "BaseException") = some true
  ha : PySem.W.findIn K (.ref D) "__class__" = some (some (.builtin "object.__class__"))
  hn : PySem.W.specialIn K (.builtin "object.__class__") "__get__" = some (some (.builtin "getset_descriptor.__get__"))
  ht : PySem.W.takesIn K (.builtin "object.__class__") = some true
  hm : PySem.W.mroIn K D (.type "object") = some true
theorem call_isX (C : XcC X.K D) (hz : Zc cls d oe) (hf : ∃ vs, oe.data = .fields vs) : CallR (X.suite a ((a, oe) :: pn)) (.builtin "isinstance") (rIsX X.K D a cls d) := by
  intro pins s σ H xs us Q I r h
  obtain ⟨c, cv, b, dd, fs, rfl, hcv, rfl, e1, e2, e, q⟩ := h
  obtain ⟨od, J⟩ := inst_x I hz hf e1 e2
  cases r with
  | cons rx rr =>
    cases rr with
    | cons rt rr =>
      cases rr
      cases rx
      have ec := hcv.eq rt
      subst ec
      exact PySem.W.kia_one (PySem.W.kitx_exc C.hc C.hg C.hk C.hs C.ha C.hn C.ht C.hm) I.kIn J e (fun z => nomatch z) fun tk => ⟨.bl b, H, I.kept (t' := tk) fun _ _ z => z, rfl, q⟩
def rIsXt (K : PySem.W.Frag) (D a : Addr) (cls : Value) (d : Option Addr) : List V → Hp → VK → Prop := fun xs H Q => ∃ (tp : Addr) (cs : List V) (cvs : List Value) (b : Bool) (dd : Addr) (fs : List (Str × V)), xs = [.ref a, .ref tp] ∧ H tp = some (.tup cs) ∧ Paired ClsV cs cvs ∧ cls = .ref D ∧ d = some dd ∧ H dd = some (.xd fs) ∧ PySem.W.kitAny K (.ref D) cvs = some b ∧ Q (.bl b) H
theorem call_isXt (C : XcC X.K D) (hz : Zc cls d oe) (hf : ∃ vs, oe.data = .fields vs) : CallR (X.suite a ((a, oe) :: pn)) (.builtin "isinstance") (rIsXt X.K D a cls d) := by
  intro pins s σ H xs us Q I r h
  obtain ⟨tp, cs, cvs, b, dd, fs, rfl, ht, hcv, rfl, e1, e2, e, q⟩ := h
  obtain ⟨od, J⟩ := inst_x I hz hf e1 e2
  cases r with
  | cons rx rr =>
    cases rr with
    | cons rt rr =>
      cases rr
      cases rx
      cases rt
      obtain ⟨its, rv, ⟨o, ho, hcl, n, hdt⟩, _⟩ := I.tuple (SqT.of ht)
      have ev := ClsV.all hcv rv
      subst ev
      obtain ⟨oc, od', oda, osl⟩ := o
      dsimp only at hcl hdt
      subst hcl hdt
      exact PySem.W.kia_tup (PySem.W.kitx_exc C.hc C.hg C.hk C.hs C.ha C.hn C.ht C.hm) I.kIn J ho e (fun z => nomatch z) fun tk => ⟨.bl b, H, I.kept (t' := tk) fun _ _ z => z, rfl, q⟩
end
end Js
set_option Elab.async false
set_option linter.all false
set_option maxRecDepth 100000
set_option maxHeartbeats 4000000
namespace JsGx
open PySem PySem.W PyProof.Rows PySem.HandSPX Builtin Builtin.ObjectAttr
section
variable {prog : Program} {w : World} {A : Around} {E : Value → Shared → Prop}
variable {h0 : Heap} {gs : Array GenState} {dr : Drawn} {tt : Nat} {os : OsState} {K : W.Frag}
theorem own_first {nm : Str} {tk : Tok} {v : Value} {x C : Addr} {fv : Array Value} {cd : ClassData} {b : Bool} {Q : Fin → Shared → Prop}
    (kin : K.In h0) (at_ : h0.get? x = some { cls := .ref C, data := .fields fv }) (hcd : W.clsIn K C = some cd) (hh : cd.hasDict = true)
    (q : ∀ h1 tk1 dx, (∀ c o, c ≠ x → h0.get? c = some o → h1.get? c = some o) → h0.objs.size ≤ dx → dx ≠ x →
      h1.get? x = some { cls := .ref C, dict := some dx, data := .fields fv } → h1.Ns1 dx (fun y => if y = nm then some v else none) → Q (.done (.ret .none)) ⟨h1, gs, dr, tk1, os⟩) :
    wpAny (model prog w) A (storeInOwnDict (.ref x) (.ref C) (.str nm tk) nm v b) Q E ⟨h0, gs, dr, tt, os⟩ := by
  have lc : W.Looks (model prog w) h0 (classData C) cd := W.looks_clsIn kin hcd
  have nx : x ≠ h0.objs.size := Nat.ne_of_lt (Heap.lt_size at_)
  obtain ⟨n1, bs, mro, ns, qn, hd, sn, sb, ab, col, del⟩ := cd
  cases (show hd = true from hh)
  unfold storeInOwnDict ownDictForStores
  repeat first
    | with_reducible refine store_in_new ?_ ?_
    | with_reducible refine wpAny_loadPart_at at_ ?_
    | with_reducible refine lc.at ?_
    | wp_step
  · exact ⟨_, #[], _, (Heap.get?_update_ne _ _ _ _ nx.symm).trans (Heap.get?_push_at rfl rfl), rfl, fun e he => absurd he (by simp), fun _ => rfl⟩
  · intro h1 tk1 hn1 hs1
    have there := Heap.get?_push_of_some { cls := .type "dict", data := .dict #[] } at_
    have kept : ∀ c o, c ≠ x → h0.get? c = some o → h1.get? c = some o := fun c o nc hc =>
      (hs1.2 c (Nat.ne_of_lt (Heap.lt_size hc))).trans ((Heap.get?_update_ne _ _ _ _ nc).trans (Heap.get?_push_of_some _ hc))
    exact q h1 tk1 h0.objs.size kept (Nat.le_refl _) nx.symm ((hs1.2 x nx).trans (Heap.get?_update_self _ there rfl)) hn1
end
end JsGx
namespace Js
open PySem L2 PySem.Spec PyProof.Rows
structure GexC (K : PySem.W.Frag) (C : Addr) (B nw ini : String) (tl : List Value) : Prop where
  F : ExcBaseFacts B nw ini tl
  SF : StoreFacts B tl "object.__setattr__" "object"
  cls : ∃ nm q N bs bm sn sub ab col dd k0 k1 k2 k3 k5, K.lookup C = some (excClassObj nm q C N bs bm true sn sub ab col dd k0 k1 k2 k3 k5 nw) ∧ ∀ Y : String, bm.contains (.type Y) = tl.contains (.type Y)
  ov : PySem.W.excOver K C tl = true
  st : PySem.W.findIn K (.ref C) "__setattr__" = some (some (.builtin "object.__setattr__"))
  be : PySem.W.subIn K (.ref C) (.type "BaseException") = some true
  ty : PySem.W.typeIn K (.ref C) = some (.type "type")
  kp : PySem.W.keepIn K (.ref C) = true
section
variable {X : Cx} {pins : List (Addr × Obj)} {σ : L2.St} {H : Hp} {s : Shared} {a C : Addr} {f : Str} {y : V} {u : Value} {B nw ini : String} {tl : List Value}
theorem g_first {A : Around} {Q : Unit → Shared → Prop} {E : Value → Shared → Prop} (T : GexC X.K C B nw ini tl) (I : Inv X pins σ H s) (e : H a = some (exo a C none)) (hno : PySem.W.findIn X.K (.ref C) f = some none) (ry : RelV y u)
    (k : ∀ dx s', H dx = none → dx ≠ a → Inv X pins σ (upd (upd H dx (exd dx [(f, y)])) a (exo a C (some dx))) s' → Q () s') : wpAny (model X.prog X.w) A (setAttr (.ref a) f u) Q E s := by
  obtain ⟨nm, q, N, bs, bm, sn, sub, ab, col, dd, k0, k1, k2, k3, k5, hC, _⟩ := T.cls
  obtain ⟨t1, ho⟩ := exo_at I.hok e
  obtain ⟨hp, g, d, t, os⟩ := s
  have IA : PySem.W.InstAt hp a _ C none := ⟨ho, rfl, rfl, trivial⟩
  refine PySem.W.set_plain I.kIn IA T.st ?_
  refine PySem.W.osa_openX (r := none) T.SF I.kIn IA T.ov (by unfold PySem.W.takerIn; rw [hno]; rfl) fun b => ?_
  refine JsGx.own_first I.kIn ho (by unfold PySem.W.clsIn; rw [hC] <;> rfl) rfl fun h1 tk1 dx kept dn dne hx hn => ?_
  have hnd : H dx = none := I.hok.fresh dn
  have off : ∀ {c : Addr}, H c = none → c ≠ a := fun {c} n z => nomatch (z ▸ n).symm.trans e
  have old : ∀ {c : Addr} {o : Obj}, hp.get? c = some o → c ≠ dx := fun {c o} z => Nat.ne_of_lt (Nat.lt_of_lt_of_le (Heap.lt_size z) dn)
  have U : Un X.fs [] H (upd (upd H dx (exd dx [(f, y)])) a (exo a C (some dx))) hp h1 := by
    refine { keep := ?_, slot := ?_, free := ?_, there := ?_, tups := ?_, frzs := ?_, tbls := ?_ }
    · intro c o z n _ _
      exact kept c o (off n) z
    · intro c o z n _ _
      exact ⟨o.slots, kept c o (off n) z⟩
    · intro c o z n _
      rw [upd_ne (off n), upd_ne (old z)]
      exact n
    · intro c o z _
      by_cases hc : c = a
      · exact ⟨_, hc ▸ hx⟩
      · exact ⟨o, kept c o hc z⟩
    · intro c xs z
      rw [upd_ne (at_ne e z exo_tup), upd_ne (ne_of_none z hnd)]
      exact z
    · intro c o v z
      rw [upd_ne (at_ne e z exo_frz), upd_ne (ne_of_none z hnd)]
      exact z
    · intro c ps z
      refine ⟨#[], ?_⟩
      rw [upd_ne (at_ne e z exo_tbl), upd_ne (ne_of_none z hnd), z]
      simp
  refine k dx _ hnd dne (I.un (t' := tk1) U fun c o z => ?_)
  by_cases hc : c = a
  · subst hc
    cases upd_same.symm.trans z
    exact exo_ok hx
  · rw [upd_ne hc] at z
    by_cases hd : c = dx
    · subst hd
      cases upd_same.symm.trans z
      exact exd_ok hn (relO_put (fs := []) ry fun _ => True.intro)
    · rw [upd_ne hd] at z
      refine (I.hok c o z).stay (fun m v hm zz => kept m v ?_ zz) (fun m hm => ?_) (fun m xs hm => ?_)
      · rcases hm with hm | hm
        · exact hm ▸ hc
        · exact at_ne e hm exo_own
      · rw [upd_ne (at_ne e hm exo_own), upd_ne (ne_of_none hm hnd)]
        exact hm
      · rw [upd_ne (at_ne e hm exo_tup), upd_ne (ne_of_none hm hnd)]
        exact hm
theorem g_init {A : Around} {E : Value → Shared → Prop} {us : List Value} {Q : Value → Shared → Prop} (T : GexC X.K C B nw ini tl) (I : Inv X pins σ H s) (e : H a = some (exo a C none)) (hl : us.length ≤ sizeLine) (k : ∀ s', Inv X pins σ H s' → Q .none s') :
    wpAny (model X.prog X.w) A (call (.builtin ini) (.ref a :: us)) Q E s := by
  obtain ⟨nm, q, N, bs, bm, sn, sub, ab, col, dd, k0, k1, k2, k3, k5, hC, hT⟩ := T.cls
  obtain ⟨t1, ho⟩ := exo_at I.hok e
  obtain ⟨hp, g, d, t, os⟩ := s
  refine wpAny_call (PySem.HandSPX.init_base T.F hT (I.kIn _ _ hC) ho hl fun h1 t2 kept hx => k _ ?_)
  have eu : upd H a (exo a C none) = H := funext fun c => by
    by_cases hc : c = a
    · rw [hc, upd_same, e]
    · exact upd_ne hc
  exact eu ▸ I.write (t' := t) (x := a) (e := a) (o := exo a C none) (by rw [e]; exact True.intro) (.inl rfl) kept ⟨_, hx⟩ (exo_ok hx)
end
def tGi (K : PySem.W.Frag) (B nw ini : String) (tl : List Value) (ta : TA) : TE := fun σ H Q => ta σ H fun vs H1 => ∃ (a C : Addr) (r : List V), vs = .ref a :: r ∧ r.length ≤ 1000 ∧ GexC K C B nw ini tl ∧ H1 a = some (exo a C none) ∧ Q .non H1
def tGs (K : PySem.W.Frag) (B nw ini : String) (tl : List Value) (f : Str) (to te : TE) : TS := fun D σ H => te σ H fun y H1 => to σ H1 fun x H2 => ∃ a C : Addr, x = .ref a ∧ GexC K C B nw ini tl ∧ PySem.W.findIn K (.ref C) f = some none ∧ H2 a = some (exo a C none) ∧
  ∀ dx, H2 dx = none → dx ≠ a → D.nx σ (upd (upd H2 dx (exd dx [(f, y)])) a (exo a C (some dx)))
section
variable {X : Cx} {o e : Expr} {es : List Expr} {to te : TE} {ta : TA} {f : Str} {p p' p1 p2 pos : Pos} {B nw ini : String} {tl : List Value}
theorem ps_gst (ho : PE X o to) (he : PE X e te) (hs : swapsWith e (some (.Attribute o f p')) pos.line X.env = pure false := by rfl) : PS X (.Assign [.Attribute o f p'] e pos) (tGs X.K B nw ini tl f to te) := by
  constructor
  intro pins s σ H D I h
  refine plainObj_wpAny_Assign_Attribute (thn (he.run pins s σ H _ I h) ?_) hs
  rintro v s1 ⟨y, H1, I1, r1, q1⟩
  refine thn (ho.run pins s1 σ H1 _ I1 q1) ?_
  rintro u s2 ⟨x, H2, I2, r2, a, C, rfl, T, hno, ea, q⟩
  cases (show u = Value.ref a from r2)
  exact g_first T I2 ea hno r1 fun dx s' n ne J => ⟨σ, _, J, q dx n ne⟩
end
end Js
set_option Elab.async false
set_option linter.all false
set_option maxRecDepth 100000
set_option maxHeartbeats 2000000
set_option Elab.async false
set_option linter.all false
set_option maxRecDepth 100000
set_option maxHeartbeats 4000000
namespace Js
open PySem L2 PySem.Spec PyProof.Rows
section
variable {X : Cx} {o e : Expr} {es : List Expr} {to te : TE} {ta : TA} {f : Str} {p p' p1 p2 pos : Pos} {B nw ini : String} {tl : List Value}
theorem typ_VEt : typeOf (.type "ValueError") = pure (.type "type") := by kernel_rfl
theorem pe_veinit3 {pl : Sem Bool} (hg : Gl X "ValueError") (hm : X.mg "ValueError" = none) (vV : PySem.W.findCls X.K (.type "ValueError") (.type "type") "__init__" = some (.val (.builtin "ValueError.__init__"))) (ha : PA X (e :: es) ta)
    (hc : eval (.Call (.Attribute (.Name "ValueError" p1) "__init__" p2) (e :: es) [] pos) X.env = (do
      let ov ← eval (.Name "ValueError" p1) X.env; standAt p2.atName
      let (f, first) ← holding [ov] (getMethod ov "__init__" pl); callWith pos f first (backTo pos (starEach (e :: es) X.env)) (backToKw pos (keywordEach [] X.env))) := by rfl)
    (he : starEach (e :: es) X.env = (false, eval e X.env) :: starEach es X.env := by rfl) (hpl : (backTo pos (starEach es X.env)).any (·.1) = false := by rfl) :
    PE X (.Call (.Attribute (.Name "ValueError" p1) "__init__" p2) (e :: es) [] pos) (tGi X.K "ValueError" nw "ValueError.__init__" tl ta) := by
  constructor
  intro pins s σ H Q I h
  refine PySem.W.methodCall_KW (ld_blt I hg hm PyProof.Rows.Boot.«ValueError» ?_ (by decide) (by decide)) hc
  obtain ⟨m, fr⟩ := I.fr
  refine PySem.W.method_type fr I.ok.mod.kin typ_VEt (by decide +kernel) vV (by decide +kernel) ?_
  show wpAny _ _ (callWith pos (Value.builtin "ValueError.__init__") [] (backTo pos (starEach (e :: es) X.env)) []) _ _ _
  refine PyProof.Rows.callWith_method1 (thn (ha.run pos pins _ σ H _ (I.tok _) h) ?_) he hpl
  rintro us s1 ⟨vs, H1, I1, r1, a, C, r, rfl, hl, T, ea, q⟩
  cases r1 with
  | @cons _ u0 _ ur ra rr =>
    cases (show u0 = Value.ref a from ra)
    refine g_init T I1 ea ?_ fun s' J => ⟨.non, H1, J, rfl, q⟩
    have e1 := Paired.length rr
    have e2 := sizeLine_eq
    omega
end
end Js
namespace Js
open PySem L2
abbrev sNtG : Stmt := inClass (top 2) 0
abbrev tlT : List Value := [.type "ValueError", .type "Exception", .type "BaseException", .type "object"]
abbrev GexT (K : PySem.W.Frag) (N : Addr) : Prop := GexC K N "ValueError" "ValueError.__new__" "ValueError.__init__" tlT
structure NtgC (K : PySem.W.Frag) (mg : Str → Option Value) (N : Addr) : Prop where
  mgN : mg "NoText" = some (.ref N)
  O : GexT K N
  bd : PySem.W.findIn K (.ref N) "place" = some none
  mVE2 : mg "ValueError" = none
  vV : PySem.W.findCls K (.type "ValueError") (.type "type") "__init__" = some (.val (.builtin "ValueError.__init__"))
def spNtg (K : PySem.W.Frag) : Sp := fun vs H Q _ => ∃ (a N : Addr) (n : Nat), vs = [.ref a, .int (n : Nat)] ∧ n ≤ 1000000 ∧ GexT K N ∧ PySem.W.findIn K (.ref N) "place" = some none ∧ H a = some (exo a N none) ∧
  ∀ dx, H dx = none → dx ≠ a → Q .non (upd (upd H dx (exd dx [("place", .int (n : Nat))])) a (exo a N (some dx)))
section
variable {P : Program} {w : World} {K : PySem.W.Frag} {mg : Str → Option Value} {base : Heap} {N C : Addr}
theorem scNtg : FnScope ["self", "place"] ["self", "place"] (defScope sNtG) := ⟨rfl, rfl, rfl, by decide +kernel, rfl, by decide +kernel, by decide +kernel⟩
theorem ok_ntg {f : Addr} {fd : FuncData} (F : Fun K "__init__" "NoText.__init__" sNtG f fd) (T : NtgC K mg N) : FnOk P w K mg base CX0 1 f fd ["self", "place"] (spNtg K) := by
  refine F.ok scNtg (fun vs H Q E h => ?_) (fun cdv A outer s H vs Q E hr h => ?_)
  · obtain ⟨a, N, n, rfl, _⟩ := h
    rfl
  · obtain ⟨a, N, n, rfl, hn, hO, hno, ha, k⟩ := h
    refine ⟨_, pss_cons (ps_expr (pe_veinit3 (nw := "ValueError.__new__") (tl := tlT) rfl T.mVE2 T.vV (pa_cons (pv 0) (pa_cons (pe_joined (.cons pe_str (.cons (pe_fmt (pv 1)) .nil))) pa_nil)))) (pss_one (ps_gst (B := "ValueError") (nw := "ValueError.__new__") (ini := "ValueError.__init__") (tl := tlT) (pv 0) (pv 1))), ?_⟩
    have hlg := nat_log n hn
    have hl := PyProof.Rows.int_text_len_1921 hlg
    have hs := sizeLine_eq
    refine ⟨_, rfl, _, rfl, by decide +kernel, _, rfl, .inr ⟨_, rfl, hlg, _, rfl, ?_, ?_⟩⟩
    · rw [PySem.Str.length_append]
      have e : (Str.empty ++ ("the text breaks at " : Str)).length = 19 := by decide +kernel
      omega
    · refine ⟨a, N, _, rfl, by simp, hO, ha, ?_⟩
      exact ⟨_, rfl, _, rfl, a, N, rfl, hO, hno, ha, fun dx h1 h2 => k dx h1 h2⟩
theorem raise_ntg {H1 : Hp} {n : Nat} {Q : XK} (hO : GexT K N) (hno : PySem.W.findIn K (.ref N) "place" = some none) (hn : n ≤ 1000000)
    (q : ∀ d H', Same H1 H' → H' d = some (.xd [("place", .int (n : Nat))]) → Q (.ref N) (some d) H') :
    ∀ a, H1 a = none → spNtg K [.ref a, .int (n : Nat)] (upd H1 a (exo a N none)) (fun v H2 => v = .non ∧ ∃ (d : Addr) (fs : List (Str × V)), H2 a = some (exo a N (some d)) ∧ H2 d = some (exd d fs) ∧ H1 d = none ∧ Q (.ref N) (some d) (upd (del H2 a) d (.xd fs))) (fun _ _ _ => False) := by
  intro a ha
  refine ⟨a, N, n, rfl, hn, hO, hno, upd_same, fun dx hd ne => ⟨rfl, dx, _, upd_same, (upd_ne ne).trans upd_same, ?_, q dx _ ?_ upd_same⟩⟩
  · rw [upd_ne ne] at hd
    exact hd
  · rw [upd_ne ne] at hd
    intro b o h
    have e1 := ne_of_none h hd
    have e2 := ne_of_none h ha
    rw [upd_ne e1, del_ne e2, upd_ne e2, upd_ne e1, upd_ne e2]
    exact h
structure NtgM (P : Program) (w : World) (K : PySem.W.Frag) (mg : Str → Option Value) (base : Heap) (N fN : Addr) (fdN : FuncData) : Prop where
  T : NtgC K mg N
  iN : PySem.W.findIn K (.ref N) "__init__" = some (some (.ref fN))
  tN : PySem.W.typeIn K (.ref fN) = some (.type "function")
  ok : FnOk P w K mg base CX0 1 fN fdN ["self", "place"] (spNtg K)
  bN : Binds K fdN ["self", "place"] []
end
end Js
set_option Elab.async false
set_option linter.all false
set_option maxRecDepth 100000
set_option maxHeartbeats 2000000
set_option Elab.async false
set_option linter.all false
set_option maxRecDepth 100000
set_option maxHeartbeats 4000000
namespace Js
open PySem L2 PySem.Spec PyProof.Rows
theorem okC {CX : CXT} {P : Program} {w : World} {K : PySem.W.Frag} {mg : Str → Option Value} {base : Heap} {x ql : Str} {st : Stmt} {f : Addr} {fd : FuncData} {N ps : List Str} {k : Nat} {sp : Sp} (F : Fun K x ql st f fd) (S : FnScope N ps (defScope st)) (hl : ∀ vs H Q E, sp vs H Q E → vs.length = ps.length)
    (hb : ∀ (cdv : Value) (A : Around) (outer : List Env) (s : Shared) (H : Hp) (vs : List V) (Q : VK) (E : XK), Room k (A.deeper (envOfC ql (defScope st) s.heap.objs.size f cdv)) → sp vs H Q E →
      ∃ t, PSs (cxOf CX P w K mg base N ql (defScope st) f cdv A outer s H E) (defBody st) t ∧ t { nx := fun _ H' => Q .non H', rt := Q } (start N vs) H) :
    FnOk P w K mg base CX (k + 1) f fd ps sp := by
  obtain ⟨o1, o2, o3, o4, o5, o6, o7, o8, o9, e, look, code⟩ := F.ex
  subst e
  exact fn_of look code S hl (fun A outer s H vs Q E room h => hb _ A outer s H vs Q E room h)
section
variable {X : Cx} {e : Expr} {es : List Expr} {ta : TA} {p pos : Pos} {B nw ini : String} {tl : List Value}
theorem pmk_gexN {CX : CXT} {x : Str} {C fI : Addr} {k : Nat} {fd : FuncData} {ps : List Str} {sp : Sp} {ds : List Value} {dvs : List V} (T : GexC X.K C B nw ini tl) (iC : PySem.W.findIn X.K (.ref C) "__init__" = some (some (.ref fI))) (tI : PySem.W.typeIn X.K (.ref fI) = some (.type "function"))
    (G : FnOk X.prog X.w X.K X.mg X.base CX k fI fd ps sp) (hr : Room (k + 1) X.A) (hb : Binds X.K fd ps ds) (hd : Vals dvs ds) (hx : Passes CX X (fun _ _ _ => False)) (hg : Gl X x) (hm : X.mg x = some (.ref C)) (ha : PA X (e :: es) ta)
    (hdb : (x == ("__debug__" : Str)) = false := by decide) (he : starEach (e :: es) X.env = (false, eval e X.env) :: starEach es X.env := by rfl) (hpl : (backTo pos (starEach es X.env)).any (·.1) = false := by rfl) :
    L2N.PMk X (.Call (.Name x p) (e :: es) [] pos) (tMkO C sp dvs ta) := by
  obtain ⟨nm, q, N, bs, bm, sn, sub, ab, col, dd, k0, k1, k2, k3, k5, hC, hT⟩ := T.cls
  intro pins s σ H Q I h
  refine wpAny_Call_Name_kw (ld_glob I hg hm ?_ hdb)
  refine PySem.W.callWith_K (h₀ := X.base) I.ok.mod.kin T.kp (thn (ha.run pos pins s σ H _ I h) ?_) he hpl
  rintro us ⟨hp, g, dr, tk, os⟩ ⟨vs, H1, I1, r1, hz, q1⟩
  refine ⟨I1.kIn, ?_⟩
  show wpAny _ _ (call (.ref C) us) _ _ _
  have up := Nat.le_succ hp.objs.size
  have hq := q1 (hp.objs.size + 1) (I1.hok.fresh up)
  have kk : ∀ c z, hp.get? c = some z → ((hp.push (PySem.W.kdv_tup us)).push (PySem.HandSPX.excO C hp.objs.size)).get? c = some z := fun c z h => Heap.get?_push_of_some _ (Heap.get?_push_of_some _ h)
  have at1 : ((hp.push (PySem.W.kdv_tup us)).push (PySem.HandSPX.excO C hp.objs.size)).get? (hp.objs.size + 1) = some (PySem.HandSPX.excO C hp.objs.size) := by heap_get
  have I2 : Inv X pins σ (upd H1 (hp.objs.size + 1) (exo (hp.objs.size + 1) C none)) ⟨(hp.push (PySem.W.kdv_tup us)).push (PySem.HandSPX.excO C hp.objs.size), g, dr, tk, os⟩ :=
    I1.laid (t' := tk) kk up (exo_ok at1)
  have r2 : Vals (V.ref (hp.objs.size + 1) :: (vs ++ dvs)) (Value.ref (hp.objs.size + 1) :: (us ++ ds)) := .cons rfl (r1.append hd)
  have hl : (Value.ref (hp.objs.size + 1) :: us ++ ds).length = ps.length := (r2.length.symm.trans (G.len _ _ _ _ hq))
  have hus : us.length ≤ sizeLine := by
    have e1 := Paired.length r1
    have e2 := sizeLine_eq
    omega
  refine wpAny_call (PySem.HandSPX.call_own T.F hT (I1.kIn _ _ hC) (PySem.W.looks_findIn I1.kIn iC) (fun self => PySem.W.bind_fn I1.kIn self tI) hus ?_)
  refine codeAny_mono (G.run _ X.stack _ _ ⟨Value.ref (hp.objs.size + 1) :: us, []⟩ (Value.ref (hp.objs.size + 1) :: (us ++ ds)) _ _ (fun _ _ _ => False) (hr.make C us []) (I2.env0.make C us []) (hb _ (Value.ref (hp.objs.size + 1) :: us) I2.kIn hl) r2 hq) ?_
  rintro (er | fl) s' hq'
  · exact hx pins σ _ _ er s' I2 hq'
  · cases fl with
    | ret u =>
      obtain ⟨v, H2, os2, bare2, un2, hok2, rv, rfl, d, fs, ea, ed, hd1, q2⟩ := hq'
      obtain ⟨h2, g2, d2, t2, os'⟩ := s'
      obtain ⟨t0, G2, J, kG, ge, hoe, na⟩ := mk_end0 (d2 := d2) (t2 := t2) I1 up kk un2 hok2 os2 bare2 ea ed hd1
      exact ⟨rv, ⟨_, _, _, ⟨G2, g2, d2, t2, os'⟩, _, .ref C, some d, rfl, J, kG, ge, hoe, ⟨rfl, rfl, fun vs e => by cases e; rfl⟩, rfl, rfl, na, rfl, bare2, raises_own T.be T.ty, q2⟩⟩
    | next => exact hq'.elim
    | brk => exact hq'.elim
    | cont => exact hq'.elim
end
end Js
set_option Elab.async false
set_option linter.all false
set_option maxRecDepth 100000
set_option maxHeartbeats 2000000
namespace Js
open PySem L2
def spRead4N (C N : Addr) : Sp := fun vs H Q E => ∃ z : Str, vs = [.str z] ∧ z.length ≤ 100000 ∧
  (brk z.cps.toList 0 [1] 0 = none → ∀ (t : Tr) a H', t.text = z → t.size ≤ 4000 → Same H H' → Th C H' a t → Q (.ref a) H') ∧
  (∀ pl, brk z.cps.toList 0 [1] 0 = some pl → pl ≤ 100000 → ∀ d H', Same H H' → H' d = some (.xd [("place", .int (pl : Nat))]) → E (.ref N) (some d) H')
section
variable {P : Program} {w : World} {K : PySem.W.Frag} {mg : Str → Option Value} {base : Heap} {C fI N fN : Addr} {fdI fdN : FuncData}
theorem ok_read4N {f fW fD : Addr} {fd fdW fdD : FuncData} (F : Fun K "read_thing" "read_thing" sRead f fd) (T : Txt K mg C) (men : mg "enumerate" = none) (mk : Maker P w K mg base C fI fdI) (M : NtgM P w K mg base N fN fdN) (AW : At K mg "is_whole" sWhole ["levels"] fW fdW) (AD : At K mg "signs_due" sDue ["levels", "begun"] fD fdD) :
    FnOk P w K mg base (L2N.CX P w) 4 f fd ["text"] (spRead4N C N) := by
  have GW : FnOk P w K mg base CX0 1 fW fdW ["levels"] (spWhole C) := ok_whole AW.F T
  have GD : FnOk P w K mg base CX0 2 fD fdD ["levels", "begun"] (spDue C) := ok_due AD.F T AW
  refine okC F scRd (fun vs H Q E h => ?_) (fun cdv A outer s H vs Q E hr h => ?_)
  · obtain ⟨z, rfl, _⟩ := h
    rfl
  · obtain ⟨z, rfl, hz, kq, ke⟩ := h
    have hr1 : Room 1 _ := hr.mono (by decide)
    have hr2 : Room 2 _ := hr.mono (by decide)
    refine ⟨_, pss_cons (ps_set (i := 1) scRd.nd rfl (Or.inl rfl) (pe_lst (pa_cons (pe_lst pa_nil) pa_nil))) (pss_cons (ps_set (i := 2) scRd.nd rfl (Or.inl rfl) pe_int)
      (pss_cons (ps_for (passes_of rfl) rfl (pi_enumS rfl men (pa_cons (pv 0) pa_nil)) (pg_tup rfl (pgs_cons (pg_name (i := 3) scRd.nd rfl (Or.inl rfl)) (pgs_cons (pg_name (i := 4) scRd.nd rfl (Or.inl rfl)) pgs_nil)))
        (pss_cons (ps_if (pt_cmpR op_notIn_sign (pv 4) (pe_call GD hr2 rfl AD.mgf AD.F.kp AD.b .nil pass0 (pa_cons (pv 1) (pa_cons (pv 2) pa_nil))) rfl) (pss_one (L2N.ps_raise rfl (L2N.takes_of rfl rfl rfl rfl) (pmk_gexN M.T.O M.iN M.tN M.ok hr2 M.bN .nil pass0 rfl M.T.mgN (pa_cons (pv 3) pa_nil)))) pss_nil)
        (pss_one (ps_if (pt_cmpR op_eq (pv 4) pe_str (nomark _))
          (pss_cons (ps_aug (i := 2) scRd.nd rfl (Or.inl rfl) pe_int ip_add) (pss_one (ps_expr (pe_bm PySem.F.plainAttrs_list PySem.F.slot_list_append PySem.F.type_list_append mt_append (pv 1) (pa_cons (pe_lst pa_nil) pa_nil)))))
          (pss_one (ps_if (pt_cmpR op_eq (pv 4) pe_str (nomark _))
            (pss_cons (ps_asg (pe_bm0 PySem.F.plainAttrs_list PySem.F.slot_list_pop PySem.F.type_list_pop mt_pop (pv 1)) (pg_unl rfl (pgs_cons (pg_name (i := 5) scRd.nd rfl (Or.inl rfl)) (pgs_cons (pg_name (i := 6) scRd.nd rfl (Or.inl rfl)) pgs_nil))))
              (pss_one (ps_expr (pe_bm PySem.F.plainAttrs_list PySem.F.slot_list_append PySem.F.type_list_append mt_append (pe_ix ix_list (pv 1) (pe_un un_neg pe_int) (fun _ _ => rfl)) (pa_cons (pe_T2 mk hr rfl (pa_cons (pv 5) (pa_cons (pv 6) pa_nil))) pa_nil)))))
            (pss_one (ps_expr (pe_bm PySem.F.plainAttrs_list PySem.F.slot_list_append PySem.F.type_list_append mt_append (pe_ix ix_list (pv 1) (pe_un un_neg pe_int) (fun _ _ => rfl)) (pa_cons (pe_T0 mk hr rfl) pa_nil))))))))))
      (pss_cons (ps_if (pt_not (pt_val (pe_call GW hr1 rfl AW.mgf AW.F.kp AW.b .nil pass0 (pa_cons (pv 1) pa_nil)))) (pss_one (L2N.ps_raise rfl (L2N.takes_of rfl rfl rfl rfl) (pmk_gexN M.T.O M.iN M.tN M.ok hr2 M.bN .nil pass0 rfl M.T.mgN (pa_cons (pe_callB call_len_str (by rfl) T.len PySem.boot_len (pa_cons (pv 0) pa_nil)) pa_nil)))) pss_nil)
      (pss_one (ps_ret (pe_ix ix_list (pe_ix ix_list (pv 1) pe_int (fun _ _ => rfl)) pe_int (fun _ _ => rfl))))))), ?_⟩
    refine ⟨Nat.zero_le _, fun p0 np0 => ?_⟩
    refine ⟨(by show 1 ≤ sizeLine; decide), fun LA nLA => ?_⟩
    have npL : p0 ≠ LA := ne_of_none (o := .lst []) upd_same nLA
    have hLA : H LA = none := by
      have := nLA
      rw [upd_ne (Ne.symm npL)] at this
      exact this
    have hsl := line4
    have s0 : Same H (upd (upd H p0 (.lst [])) LA (.lst [.ref p0])) := (Same.new np0).set hLA
    have L0 : Levels C (upd (upd H p0 (.lst [])) LA (.lst [.ref p0])) LA [p0] [[]] := ⟨upd_same, .cons ⟨[], (upd_ne npL).trans upd_same, .nil⟩ .nil, by simp [Ne.symm npL]⟩
    obtain ⟨cs, hcs⟩ : ∃ cs, z.cps.toList = cs := ⟨_, rfl⟩
    have hn : z.cps.size = cs.length := by rw [← hcs, Array.length_toList]
    have hzl : z.length = cs.length := hn
    rw [hcs] at kq ke
    refine ⟨_, rfl, z, rfl, for_it (walk_enumS (z := z)) (fun i σ H' => ∃ (x3 x4 x5 x6 : Option V) (ps : List Addr) (lv : List (List Tr)) (b : Nat),
        σ = [some (.str z), some (.ref LA), some (.int (b : Nat)), x3, x4, x5, x6] ∧ Same H H' ∧ Levels C H' LA ps lv ∧ (∀ p ∈ ps, H p = none) ∧ Sh lv ∧ b + 1 = lsz lv + lv.length ∧ b ≤ 4000 ∧ cs.take i = pre lv ∧ brk (cs.drop i) i (wts lv) b = brk cs 0 [1] 0)
      ⟨none, none, none, none, [p0], [[]], 0, rfl, s0, L0, by simp [np0], ⟨by simp [cap], trivial⟩, by simp [lsz], by decide, by simp [pre, br], by simp [wts, cap, low]⟩ (fun _ _ _ _ _ => trivial) ?_ ?_⟩
    · rintro i x σ H1 H2 hi ⟨x3, x4, x5, x6, ps, lv, b, rfl, s1, hL, hfr, hsh, hb, hb4, hpre, hbrk⟩ ⟨T0, c, rfl, nT0, rfl, hc⟩
      have hi' : i < cs.length := by rw [← hn]; exact hi
      have hgc : cs[i]? = some c := by rw [← hc, ← hcs, Array.getElem?_toList]
      have hdr : cs.drop i = c :: cs.drop (i + 1) := by
        rw [List.drop_eq_getElem_cons hi']
        rw [List.getElem?_eq_getElem hi'] at hgc
        rw [Option.some.inj hgc]
      have htk : cs.take (i + 1) = pre lv ++ [c] := by rw [List.take_add_one, hgc, hpre]; rfl
      rw [hdr] at hbrk
      have hpl : ps.length = lv.length := Paired.length hL.at_
      have s2 : Same H (upd H1 T0 (.tup [.int (i : Nat), .str ⟨#[c]⟩])) := s1.trans (Same.new nT0)
      have hL2 : Levels C (upd H1 T0 (.tup [.int (i : Nat), .str ⟨#[c]⟩])) LA ps lv := hL.same (Same.new nT0)
      have hT2 : (upd H1 T0 (.tup [.int (i : Nat), .str ⟨#[c]⟩])) T0 = some (.tup [.int (i : Nat), .str ⟨#[c]⟩]) := upd_same
      revert s2 hL2 hT2
      generalize (upd H1 T0 (.tup [.int (i : Nat), .str ⟨#[c]⟩])) = H3
      intro s2 hL2 hT2
      refine ⟨T0, _, rfl, SqT.of hT2, rfl, _, _, rfl, _, _, rfl, rfl, ?_⟩
      -- if sign not in signs_due(levels, begun)
      refine ⟨_, rfl, _, rfl, _, rfl, LA, ps, lv, b, rfl, hL2, hsh.ne, c, _, rfl, rfl, _, rfl, ?_⟩
      rcases due_step hsh hb4 c i (cs.drop (i + 1)) with ⟨hin, hcase⟩ | ⟨hout, hbk⟩
      · rw [due_in hin]
        refine iteF ?_
        rcases hcase with ⟨rfl, l, r, ys, lv', rfl⟩ | ⟨rfl, xs, lv', rfl, hlt⟩ | ⟨rfl, hb40, xs, lv', rfl, hlt⟩
        · -- ')'
          refine ⟨_, rfl, rfl, _, rfl, ?_⟩
          have e1 : decide (V.str ⟨#[41]⟩ = V.str "(") = false := by decide +kernel
          rw [e1]
          refine iteF ?_
          refine ⟨_, rfl, rfl, _, rfl, ?_⟩
          have e2 : decide (V.str ⟨#[41]⟩ = V.str ")") = true := by decide +kernel
          rw [e2]
          refine iteT ?_
          obtain ⟨_, hys, hsl2⟩ := hsh
          rw [brk_shut l r ys lv' b i _ hys] at hbrk
          rw [lsz_cons, lsz_cons] at hb
          simp only [List.map_cons, List.map_nil, List.sum_cons, List.sum_nil, List.length_cons] at hb
          have hat := hL2.at_
          cases hat with
          | @cons p _ ps _ h0 tt =>
          obtain ⟨vs, hp, hvs⟩ := h0
          cases hvs with
          | @cons v1 _ vs1 _ hv1 hvs =>
          cases hvs with
          | @cons v2 _ vs2 _ hv2 hvs =>
          cases hvs
          refine ⟨_, rfl, .inl ⟨rfl, _, SqL.of hL2.la⟩, LA, _, .ref p, rfl, rfl, hL2.la, ?_, ?_⟩
          · rw [List.map_cons]
            exact last_rev _ _
          · rw [List.map_cons, drop_rev]
            have nd := hL2.nd
            rw [List.nodup_cons] at nd
            have npLA : p ≠ LA := fun z => nd.1 (by rw [← z]; simp)
            have hL4 := hL2.shut
            have s4 : Same H (upd H3 LA (.lst (ps.map V.ref).reverse)) := s2.set hLA
            have hp4 : (upd H3 LA (.lst (ps.map V.ref).reverse)) p = some (.lst [v1, v2]) := (upd_ne npLA).trans hp
            have hv1' := hv1.kt (KT.lst hL2.la (o := .lst (ps.map V.ref).reverse))
            have hv2' := hv2.kt (KT.lst hL2.la (o := .lst (ps.map V.ref).reverse))
            revert hL4 s4 hp4 hv1' hv2'
            generalize (upd H3 LA (.lst (ps.map V.ref).reverse)) = H4
            intro hL4 s4 hp4 hv1' hv2'
            refine ⟨p, _, rfl, SqL.of hp4, rfl, _, _, rfl, _, _, rfl, rfl, ?_⟩
            obtain ⟨a1, rfl, ha1⟩ := hv1'
            obtain ⟨a2, rfl, ha2⟩ := hv2'
            have hat4 := hL4.at_
            cases hat4 with
            | @cons q _ qs _ h0 tt =>
            obtain ⟨us, hq, hus⟩ := h0
            have hul := Paired.length hus
            have hcap := cap_le lv'
            refine ⟨_, rfl, _, rfl, LA, _, _, .ref q, rfl, rfl, SqL.of hL4.la, ?_, .inl ⟨rfl, _, SqL.of hq⟩, _, rfl, _, rfl, a1, a2, l, r, rfl, ha1, ha2, by omega, fun z' H5 s5 _ h5 => ?_⟩
            · rw [List.map_cons, List.reverse_cons]
              exact atI_last _ _
            · have hq5 := s5 _ _ hq
              refine ⟨q, us, _, rfl, rfl, hq5, by omega, ?_⟩
              have hL6 := (hL4.same s5).put hq5 ⟨z', rfl, h5⟩
              have hfq : H q = none := hfr q (by simp)
              refine ⟨_, _, _, _, q :: qs, (ys ++ [Tr.pr l r]) :: lv', b, rfl, (s4.trans s5).set hfq, hL6, fun p' hp' => hfr p' (List.mem_cons_of_mem _ hp'), ⟨by rw [List.length_append]; exact hys, hsl2⟩, ?_, hb4, ?_, hbrk⟩
              · rw [lsz_cons, List.map_append, List.sum_append]
                simp only [List.map_cons, List.map_nil, List.sum_cons, List.sum_nil, Tr.size, List.length_cons]
                omega
              · rw [htk, pre_shut]
        · -- '.'
          refine ⟨_, rfl, rfl, _, rfl, ?_⟩
          have e1 : decide (V.str ⟨#[46]⟩ = V.str "(") = false := by decide +kernel
          rw [e1]
          refine iteF ?_
          refine ⟨_, rfl, rfl, _, rfl, ?_⟩
          have e2 : decide (V.str ⟨#[46]⟩ = V.str ")") = false := by decide +kernel
          rw [e2]
          refine iteF ?_
          obtain ⟨_, hsl2⟩ := hsh
          rw [brk_dot xs lv' b i _ hlt] at hbrk
          have hcap := cap_le lv'
          have hat := hL2.at_
          cases hat with
          | @cons q _ qs _ h0 tt =>
          obtain ⟨us, hq, hus⟩ := h0
          have hul := Paired.length hus
          refine ⟨_, rfl, _, rfl, LA, _, _, .ref q, rfl, rfl, SqL.of hL2.la, ?_, .inl ⟨rfl, _, SqL.of hq⟩, fun z' H5 s5 _ h5 => ?_⟩
          · rw [List.map_cons, List.reverse_cons]
            exact atI_last _ _
          · have hq5 := s5 _ _ hq
            refine ⟨q, us, _, rfl, rfl, hq5, by omega, ?_⟩
            have hL6 := (hL2.same s5).put hq5 ⟨z', rfl, h5⟩
            have hfq : H q = none := hfr q (by simp)
            refine ⟨_, _, _, _, q :: qs, (xs ++ [Tr.nil]) :: lv', b, rfl, (s2.trans s5).set hfq, hL6, fun p' hp' => hfr p' (by simpa using hp'), ⟨by rw [List.length_append]; exact hlt, hsl2⟩, ?_, hb4, ?_, hbrk⟩
            · rw [lsz_cons] at hb ⊢
              rw [List.map_append, List.sum_append]
              simp only [List.map_cons, List.map_nil, List.sum_cons, List.sum_nil, Tr.size, List.length_cons] at hb ⊢
              omega
            · rw [htk, pre_app]
              rfl
        · -- '('
          refine ⟨_, rfl, rfl, _, rfl, ?_⟩
          have e1 : decide (V.str ⟨#[40]⟩ = V.str "(") = true := by decide +kernel
          rw [e1]
          refine iteT ?_
          refine ⟨_, rfl, _, _, rfl, rfl, ?_⟩
          refine ⟨_, rfl, .inl ⟨rfl, _, SqL.of hL2.la⟩, Nat.zero_le _, fun q nq => ?_⟩
          have nqL : LA ≠ q := ne_of_none hL2.la nq
          rw [brk_open xs lv' b i _ hlt hb40] at hbrk
          refine ⟨LA, _, _, rfl, rfl, (upd_ne nqL).trans hL2.la, ?_, ?_⟩
          · rw [List.length_reverse, List.length_map]
            omega
          · refine ⟨some (.int (i : Nat)), some (.str ⟨#[40]⟩), x5, x6, q :: ps, [] :: xs :: lv', b + 1, ?_, (s2.trans (Same.new nq)).set hLA, hL2.open_ nq, fun p' hp' => ?_, ⟨by simp [cap], hlt, hsh.2⟩, ?_, by omega, ?_, hbrk⟩
            · simp
            · rcases List.mem_cons.mp hp' with rfl | hp'
              · exact s2.free nq
              · exact hfr p' hp'
            · rw [lsz_cons]
              simp only [List.map_nil, List.sum_nil, List.length_cons] at hb ⊢
              omega
            · rw [htk, pre_open (by simp)]
      · have eo : (!decide (c ∈ (due lv b).cps.toList)) = true := by simp [hout]
        rw [eo]
        refine iteT ?_
        refine ⟨_, rfl, by simp, raise_ntg M.T.O M.T.bd (by omega) fun d H' sH hd => ?_⟩
        exact ke i (hbrk.symm.trans hbk) (by omega) d H' (s2.trans sH) hd
    · rintro σ H1 ⟨x3, x4, x5, x6, ps, lv, b, rfl, s1, hL, hfr, hsh, hb, hb4, hpre, hbrk⟩
      rw [hn, List.drop_length, brk_end hsh] at hbrk
      rw [hn, List.take_length] at hpre
      refine ⟨_, rfl, LA, ps, _, rfl, hL, hsh.ne, _, rfl, ?_⟩
      by_cases hw : whole lv = true
      · rw [hw]
        refine iteF ?_
        rw [if_pos hw] at hbrk
        cases lv with
        | nil => exact absurd rfl hsh.ne
        | cons xs lv =>
        obtain ⟨rfl, hx⟩ := whole_iff.mp hw
        obtain ⟨t, rfl⟩ : ∃ t, xs = [t] := List.length_eq_one_iff.mp hx
        have la := hL.la
        have hat := hL.at_
        cases hat with
        | @cons q _ qs _ h0 tt =>
        cases tt
        obtain ⟨us, hq, hus⟩ := h0
        cases hus with
        | @cons v _ vs _ hv hvs =>
        cases hvs
        obtain ⟨a, rfl, ha⟩ := hv
        have ht : t.text = z := by
          apply PyProof.Rows.ext_toList
          rw [Tr.text_list, hcs, hpre]
          simp [pre, br]
        have hts : t.size ≤ 4000 := by
          simp [lsz] at hb
          omega
        exact ⟨_, rfl, LA, _, _, .ref q, rfl, rfl, SqL.of la, rfl, q, _, _, .ref a, rfl, rfl, SqL.of hq, rfl, kq hbrk.symm t a H1 ht hts s1 ha⟩
      · have hw' : whole lv = false := by simpa using hw
        rw [hw']
        refine iteT ?_
        rw [if_neg hw] at hbrk
        refine ⟨_, rfl, z, rfl, by omega, ?_⟩
        have ez : V.int ((z.length : Nat) : Int) = V.int ((cs.length : Nat) : Int) := by rw [hzl]
        rw [ez]
        refine ⟨by simp, raise_ntg M.T.O M.T.bd (by omega) fun d H' sH hd => ?_⟩
        exact ke cs.length hbrk.symm (by omega) d H' (s1.trans sH) hd
end
end Js
set_option Elab.async false
set_option linter.all false
set_option maxRecDepth 100000
set_option maxHeartbeats 2000000
namespace Js
open PySem L2
abbrev sNt : Stmt := inClass (top 2) 0
structure NtC (K : PySem.W.Frag) (mg : Str → Option Value) (N : Addr) : Prop where
  mgN : mg "NoText" = some (.ref N)
  O : OexC K N
  pl : PySem.W.findIn K (.ref N) "place" = some none
  mVE : mg "ValueError" = none
  vV : PySem.W.findCls K (.type "ValueError") (.type "type") "__init__" = some (.val (.builtin "ValueError.__init__"))
def spNt (K : PySem.W.Frag) : Sp := fun vs H Q _ => ∃ (a N : Addr) (n : Nat), vs = [.ref a, .int (n : Nat)] ∧ n ≤ 1000000 ∧ OexC K N ∧ PySem.W.findIn K (.ref N) "place" = some none ∧ H a = some (exo a N none) ∧
  ∀ dx, H dx = none → dx ≠ a → Q .non (upd (upd H dx (exd dx [("place", .int (n : Nat))])) a (exo a N (some dx)))
section
variable {P : Program} {w : World} {K : PySem.W.Frag} {mg : Str → Option Value} {base : Heap} {N : Addr}
theorem scNt : FnScope ["self", "place"] ["self", "place"] (defScope sNt) := ⟨rfl, rfl, rfl, by decide +kernel, rfl, by decide +kernel, by decide +kernel⟩
theorem ok_nt {f : Addr} {fd : FuncData} (F : Fun K "__init__" "NoText.__init__" sNt f fd) (T : NtC K mg N) : FnOk P w K mg base CX0 1 f fd ["self", "place"] (spNt K) := by
  refine F.ok scNt (fun vs H Q E h => ?_) (fun cdv A outer s H vs Q E hr h => ?_)
  · obtain ⟨a, N, n, rfl, _⟩ := h
    rfl
  · obtain ⟨a, N, n, rfl, hn, hO, hno, ha, k⟩ := h
    refine ⟨_, pss_cons (ps_expr (pe_veinit rfl T.mVE T.vV (pa_cons (pv 0) (pa_cons (pe_joined (.cons pe_str (.cons (pe_fmt (pv 1)) .nil))) pa_nil)))) (pss_one (ps_ost (pv 0) (pv 1))), ?_⟩
    have hlg := nat_log n hn
    have hl := PyProof.Rows.int_text_len_1921 hlg
    have hs := sizeLine_eq
    refine ⟨_, rfl, _, rfl, by decide +kernel, _, rfl, .inr ⟨_, rfl, hlg, _, rfl, ?_, ?_⟩⟩
    · rw [PySem.Str.length_append]
      have e : (Str.empty ++ ("the text breaks at " : Str)).length = 19 := by decide +kernel
      omega
    · refine ⟨a, N, _, rfl, by simp, hO, ha, ?_⟩
      refine ⟨_, rfl, _, rfl, a, N, rfl, hO, hno, .inl ⟨ha, fun dx h1 h2 => k dx h1 h2⟩⟩
theorem raise_nt {H1 : Hp} {n : Nat} {Q : XK} (hO : OexC K N) (hno : PySem.W.findIn K (.ref N) "place" = some none) (hn : n ≤ 1000000)
    (q : ∀ d H', Same H1 H' → H' d = some (.xd [("place", .int (n : Nat))]) → Q (.ref N) (some d) H') :
    ∀ a, H1 a = none → spNt K [.ref a, .int (n : Nat)] (upd H1 a (exo a N none)) (fun v H2 => v = .non ∧ ∃ (d : Addr) (fs : List (Str × V)), H2 a = some (exo a N (some d)) ∧ H2 d = some (exd d fs) ∧ H1 d = none ∧ Q (.ref N) (some d) (upd (del H2 a) d (.xd fs))) (fun _ _ _ => False) := by
  intro a ha
  refine ⟨a, N, n, rfl, hn, hO, hno, upd_same, fun dx hd ne => ⟨rfl, dx, _, upd_same, (upd_ne ne).trans upd_same, ?_, q dx _ ?_ upd_same⟩⟩
  · rw [upd_ne ne] at hd
    exact hd
  · rw [upd_ne ne] at hd
    intro b o h
    have e1 := ne_of_none h hd
    have e2 := ne_of_none h ha
    rw [upd_ne e1, del_ne e2, upd_ne e2, upd_ne e1, upd_ne e2]
    exact h
end
end Js
set_option Elab.async false
set_option linter.all false
set_option maxRecDepth 100000
set_option maxHeartbeats 2000000
namespace Js
open PySem L2
open PySem.Spec PyProof.Rows
structure DefH (P : Program) (w : World) (K : PySem.W.Frag) (mg : Str → Option Value) (base : Heap) (x : Str) (k : Nat) (ps : List Str) (sp : Sp) (f : Addr) (fd : FuncData) : Prop where
  ok : FnOk P w K mg base (L2.CX P w) k f fd ps sp
  mgf : mg x = some (.ref f)
  kp : PySem.W.keepIn K (.ref f) = true
  b : Binds K fd ps []
structure NtM (P : Program) (w : World) (K : PySem.W.Frag) (mg : Str → Option Value) (base : Heap) (N fN : Addr) (fdN : FuncData) : Prop where
  T : NtC K mg N
  iN : PySem.W.findIn K (.ref N) "__init__" = some (some (.ref fN))
  tN : PySem.W.typeIn K (.ref fN) = some (.type "function")
  ok : FnOk P w K mg base CX0 1 fN fdN ["self", "place"] (spNt K)
  bN : Binds K fdN ["self", "place"] []
def spTkH (K : PySem.W.Frag) (CD N : Addr) : Sp := fun vs H Q E => ∃ rd wl ws a b rt rs, vs = [.ref rd, .ref rt] ∧ RdAt CD H rd wl ws a b ∧ a ≤ 20000 ∧ (SqL K H rt (strV rs) ∨ SqT K H rt (strV rs)) ∧ (∀ x, ws[a]? = some x → x ∈ rs → ∀ H', KB rd H H' → RdAt CD H' rd wl ws (a + 1) b → Q (.str x) H') ∧
  ((∀ x, ws[a]? = some x → x ∉ rs) → ∀ d H', Same H H' → H' d = some (.xd [("place", .int (a : Nat))]) → E (.ref N) (some d) H')
def spRdNH (CD N : Addr) : Sp := fun vs H Q E => ∃ rd wl ws a b, vs = [.ref rd] ∧ RdAt CD H rd wl ws a b ∧ a ≤ 20000 ∧ (∀ c, c < 10 → ws[a]? = some (letS c) → ∀ H', KB rd H H' → RdAt CD H' rd wl ws (a + 1) b → Q (.int ((c : Nat) : Int)) H') ∧
  ((∀ x, ws[a]? = some x → x ∉ letters) → ∀ d H', Same H H' → H' d = some (.xd [("place", .int (a : Nat))]) → E (.ref N) (some d) H')
def spRdTH (C CD N : Addr) : Sp := fun vs H Q E => ∃ rd wl ws a b, vs = [.ref rd] ∧ RdAt CD H rd wl ws a b ∧ a ≤ 20000 ∧ (∀ x, ws[a]? = some x → x.length ≤ 100000) ∧ (∀ t, ws[a]? = some t.text → isTh t.text = true → t.size ≤ 4000 → ∀ x H', KB rd H H' → RdAt CD H' rd wl ws (a + 1) b → Th C (del H' rd) x t → Q (.ref x) H') ∧
  ((∀ x, ws[a]? = some x → isTh x = false) → ∀ d H', Same H H' → H' d = some (.xd [("place", .int (a : Nat))]) → E (.ref N) (some d) H')
section
variable {P : Program} {w : World} {K : PySem.W.Frag} {mg : Str → Option Value} {base : Heap} {C CD N fN : Addr} {fdN : FuncData}
theorem ok_takeH {f : Addr} {fd : FuncData} (F : Fun K "take" "take" sTk2 f fd) (TD : TxtD K mg CD) (M : NtM P w K mg base N fN fdN) (DA : Def P w K mg base "ahead" 1 ["reader"] (spAhead CD)) : FnOk P w K mg base (L2.CX P w) 3 f fd ["reader", "right"] (spTkH K CD N) := by
  refine F.okX scTk2 (fun vs H Q E h => ?_) (fun cdv A outer s H vs Q E hr h => ?_)
  · obtain ⟨rd, wl, ws, a, b, rt, rs, rfl, _⟩ := h
    rfl
  · obtain ⟨rd, wl, ws, a, b, rt, rs, rfl, hrd, ha2, hrt, k, ke⟩ := h
    have hr1 : Room 1 _ := hr.mono (by decide)
    have hr2 : Room 2 _ := hr
    refine ⟨_, pss_cons (ps_set (i := 2) scTk2.nd rfl (Or.inl rfl) (pe_def DA hr1 rfl (pa_cons (pv 0) pa_nil))) (pss_cons (ps_if (pt_cmpR op_notIn_seq (pv 2) (pv 1) rfl) (pss_one (L2.ps_raise rfl (L2.takes_of rfl rfl rfl rfl) (pmk_oex M.T.O M.iN M.tN M.ok hr2 M.bN .nil pass0 rfl M.T.mgN (pa_cons (pe_fld (pv 0) rfl) pa_nil)))) pss_nil) (pss_cons (ps_fldaug (pv 0) pe_int in_add) (pss_one (ps_ret (pv 2))))), ?_⟩
    refine ⟨_, rfl, rd, wl, ws, a, b, rfl, hrd, ?_⟩
    by_cases hm : ∃ x, ws[a]? = some x ∧ x ∈ rs
    rotate_left
    · have hno : ∀ x, ws[a]? = some x → x ∉ rs := fun x hx hr => hm ⟨x, hx, hr⟩
      have hf : flatV (wdV ws a) = true ∧ inV (wdV ws a) (strV rs) = false := by
        cases e : ws[a]? with
        | none =>
          rw [wdV_none e]
          exact ⟨rfl, inV_non rs⟩
        | some x =>
          rw [wdV_some e]
          exact ⟨rfl, by rw [inV_strV]; exact decide_eq_false (hno x e)⟩
      refine ⟨_, rfl, _, rfl, rt, _, rfl, hrt, hf.1, strV_flat rs, _, rfl, ?_⟩
      rw [show (if true = true then !inV (wdV ws a) (strV rs) else inV (wdV ws a) (strV rs)) = true by rw [if_pos rfl, hf.2]; rfl]
      refine iteT ?_
      obtain ⟨⟨dx, h1⟩, h2, h3⟩ := hrd
      refine ⟨_, rfl, _, _, _, _, _, rfl, h1, TD.cl, TD.nA, rd_at _ _ _, by simp, raise_nt M.T.O M.T.pl (by omega) fun d H' sH hd => ke hno d H' sH hd⟩
    obtain ⟨x, hx, hm⟩ := hm
    rw [wdV_some hx]
    refine ⟨_, rfl, _, rfl, rt, _, rfl, hrt, rfl, strV_flat rs, _, rfl, ?_⟩
    rw [show (if true = true then !inV (.str x) (strV rs) else inV (.str x) (strV rs)) = false by rw [if_pos rfl, inV_strV, decide_eq_true hm]; rfl]
    refine iteF ?_
    have hne := hrd.ne
    obtain ⟨⟨dx, h1⟩, h2, h3⟩ := hrd
    refine ⟨_, rfl, rd, _, _, _, _, rfl, h1, TD.cl, TD.nA, rd_at _ _ _, _, _, rfl, rfl, dx, _, h1, (by show 3 < 1000; decide), ?_⟩
    have e : putF "at" (.int (((a : Nat) : Int) + 1)) (rdF wl a b) = rdF wl (a + 1) b := rd_pa wl a b
    refine ⟨_, rfl, k x hx hm _ KB.set ⟨⟨dx, ?_⟩, ?_, h3⟩⟩
    · rw [upd_same]
      exact congrArg (fun z => some (HO.ins CD dx z)) e
    · rw [upd_ne hne]
      exact h2
theorem ok_rdNH {f fT : Addr} {fd fdT : FuncData} (F : Fun K "read_name" "read_name" sRdN f fd) (R : RdC K mg) (DT : DefH P w K mg base "take" 3 ["reader", "right"] (spTkH K CD N) fT fdT) : FnOk P w K mg base (L2.CX P w) 4 f fd ["reader"] (spRdNH CD N) := by
  obtain ⟨tL, mL⟩ := R.lt
  refine F.okX scRdn (fun vs H Q E h => ?_) (fun cdv A outer s H vs Q E hr h => ?_)
  · obtain ⟨rd, wl, ws, a, b, rfl, _⟩ := h
    rfl
  · obtain ⟨rd, wl, ws, a, b, rfl, hrd, ha2, k, ke⟩ := h
    have hr3 : Room 3 _ := hr
    refine ⟨_, pss_one (ps_ret (pe_m1 PySem.F.slot_str_index PySem.F.type_str_index mt_sindex (pe_glob (v := .str "abcdefghij") rfl mL ⟨_, rfl⟩) (pe_callS DT.ok hr3 rfl DT.mgf DT.kp DT.b (fun σ => L2.passAt (L2.takes_of rfl rfl rfl rfl) σ) (pa_cons (pv 0) (pa_cons (pe_callTy (call_list_txt rfl) (by rfl) R.ml PyProof.Rows.boot_list (pa_cons (pe_glob (v := .str "abcdefghij") rfl mL ⟨_, rfl⟩) pa_nil)) pa_nil))))), ?_⟩
    refine ⟨⟨_, rfl⟩, _, rfl, _, rfl, by decide +kernel, fun l nl => ?_⟩
    rw [let_sgn]
    have s1 := Same.new nl (o := .lst (strV letters))
    have e1 : (upd H l (.lst (strV letters))) l = some (.lst (strV letters)) := upd_same
    revert s1 e1
    generalize upd H l (.lst (strV letters)) = H1
    intro s1 e1
    refine ⟨rd, wl, ws, a, b, l, letters, rfl, hrd.same s1, ha2, .inl (SqL.of e1), fun x hx hm H2 k2 h2 => ?_, fun hno d H2 s2 hd => ke hno d H2 (s1.trans s2) hd⟩
    obtain ⟨c, hc, rfl⟩ := let_of hm
    obtain ⟨rest, ho⟩ := let_ix c hc
    exact ⟨_, _, c, rest, rfl, rfl, ho, k c hc hx H2 ((KB.of s1).trans k2) h2⟩
theorem hot_nt {f : Addr} {fd : FuncData} (F : Fun K "__init__" "NoText.__init__" sNt f fd) (T : NtC K mg N) : L2H.FnH P w K mg base CX0 1 f fd ["self", "place"] (spNt K) := by
  obtain ⟨_, _, kV, doc, pm, an, cdv, ct, osl, e, lk, hcd⟩ := F.ex
  subst e
  refine L2H.fn_ofH lk hcd scNt (fun vs H Q E h => ?_) (fun A outer s H vs Q E pp hot hr h => ?_)
  · obtain ⟨a, N, n, rfl, _⟩ := h
    rfl
  · obtain ⟨a, N, n, rfl, hn, hO, hno, ha, k⟩ := h
    refine ⟨_, pss_cons (ps_expr (pe_veinit rfl T.mVE T.vV (pa_cons (pv 0) (pa_cons (pe_joined (.cons pe_str (.cons (pe_fmt (pv 1)) .nil))) pa_nil)))) (pss_one (ps_ost (pv 0) (pv 1))), ?_⟩
    have hlg := nat_log n hn
    have hl := PyProof.Rows.int_text_len_1921 hlg
    have hs := sizeLine_eq
    refine ⟨_, rfl, _, rfl, by decide +kernel, _, rfl, .inr ⟨_, rfl, hlg, _, rfl, ?_, ?_⟩⟩
    · rw [PySem.Str.length_append]
      have e : (Str.empty ++ ("the text breaks at " : Str)).length = 19 := by decide +kernel
      omega
    · refine ⟨a, N, _, rfl, by simp, hO, ha, ?_⟩
      refine ⟨_, rfl, _, rfl, a, N, rfl, hO, hno, .inl ⟨ha, fun dx h1 h2 => k dx h1 h2⟩⟩
theorem ok_rdTH {f fR : Addr} {fd fdR : FuncData} (F : Fun K "read_told" "read_told" sRdT f fd) (TD : TxtD K mg CD) (hCD : C ≠ CD) (M : NtM P w K mg base N fN fdN) (HN : L2H.FnH P w K mg base CX0 1 fN fdN ["self", "place"] (spNt K)) (exN : PySem.W.exmOne K (.ref N) (.ref N) = some true) (DA : Def P w K mg base "ahead" 1 ["reader"] (spAhead CD)) (GR : FnOk P w K mg base (L2N.CX P w) 4 fR fdR ["text"] (spRead4N C N)) (mgR : mg "read_thing" = some (.ref fR)) (kR : PySem.W.keepIn K (.ref fR) = true) (bR : Binds K fdR ["text"] []) : FnOk P w K mg base (L2.CX P w) 5 f fd ["reader"] (spRdTH C CD N) := by
  refine F.okX scTd (fun vs H Q E h => ?_) (fun cdv A outer s H vs Q E hr h => ?_)
  · obtain ⟨rd, wl, ws, a, b, rfl, _⟩ := h
    rfl
  · obtain ⟨rd, wl, ws, a, b, rfl, hrd, ha2, hwl, k, ke⟩ := h
    have hr2 : Room 2 _ := hr.mono (by decide)
    have hr1 : Room 1 _ := hr.mono (by decide)
    have hr4 : Room 4 _ := hr
    refine ⟨_, pss_cons (ps_set (i := 1) scTd.nd rfl (Or.inl rfl) (pe_def DA hr1 rfl (pa_cons (pv 0) pa_nil))) (pss_cons (ps_if (pt_cmp (pc_isN (pv 1))) (pss_one (L2.ps_raise rfl (L2.takes_of rfl rfl rfl rfl) (pmk_oex M.T.O M.iN M.tN M.ok hr2 M.bN .nil pass0 rfl M.T.mgN (pa_cons (pe_fld (pv 0) rfl) pa_nil)))) pss_nil) (pss_cons (L2H.ps_try_onlyX (tb := fun W => tAsg (tCallS (spRead4N C N) (WE W) (tCons (tVar 1) tNil)) (gName 2)) (ts := fun a cls d => (fun _ σ H => (tMkO N (spNt K) [] (tCons (tFld K (tVar 0) "at") tNil)) σ H fun cls d H' => E cls d H')) rfl rfl ⟨rfl, by decide, Or.inl M.T.mgN⟩ (fun hd => L2H.passesAt_of rfl hd) (L2.takes_of rfl rfl rfl rfl) (fun W pn xe tk1 tk2 po => (pss_one (ps_set (i := 2) scTd.nd rfl (Or.inl rfl) (by exact (pe_callS GR hr4 rfl mgR kR bR (fun σ => L2N.passAt tk1 σ) (by exact (pa_cons (pv 1) pa_nil))))))) (fun a oe cls d pn hz hf tkS hot => (pss_one (L2H.ps_raiseHN hot tkS (L2H.pmk5_oexH M.T.O M.iN M.tN HN (L2H.roomH_mark hr2 _) hot M.bN pass0 rfl M.T.mgN (by exact (pa_cons (pe_fld (pv 0) rfl) pa_nil))))))) (pss_cons (ps_fldaug (pv 0) pe_int in_add) (pss_one (ps_ret (pv 2)))))), ?_⟩
    refine ⟨_, rfl, rd, wl, ws, a, b, rfl, hrd, ?_⟩
    cases hx : ws[a]? with
    | none =>
      rw [wdV_none hx]
      obtain ⟨⟨dx, h1⟩, h2, h3⟩ := hrd
      refine ⟨_, rfl, true, congrArg V.bl (decide_eq_true rfl), iteT ?_⟩
      exact ⟨_, rfl, _, _, _, _, _, rfl, h1, TD.cl, TD.nA, rd_at _ _ _, by simp, raise_nt M.T.O M.T.pl (by omega) fun d H' sH hd => ke (fun x e => by rw [hx] at e; cases e) d H' sH hd⟩
    | some x =>
    rw [wdV_some hx]
    refine ⟨_, rfl, false, congrArg V.bl (decide_eq_false (fun z => nomatch z)), iteF ?_⟩
    refine ⟨_, rfl, x, rfl, hwl x hx, fun hb t y H1 htx htz s1 hy => ?_, fun pl hp hpl d H1 s1 hd => ?_⟩
    · have hrd1 := hrd.same s1
      have hne := hrd1.ne
      obtain ⟨⟨dx, h1⟩, h2, h3⟩ := hrd1
      refine ⟨_, rfl, rd, _, _, _, _, rfl, h1, TD.cl, TD.nA, rd_at _ _ _, _, _, rfl, rfl, dx, _, h1, (by show 3 < 1000; decide), ?_⟩
      exact ⟨_, rfl, k t (by rw [hx, htx]) (by unfold isTh; rw [htx, hb]; rfl) htz y _ ((KB.of s1).trans KB.set) (rd_on hne h2 h3) ((th_del hCD h1 t y hy).same (kb_del KB.set))⟩
    · refine ⟨true, exN, fun _ a0 _ => ?_, fun q => Bool.noConfusion q⟩
      obtain ⟨⟨dx, h1⟩, h2, h3⟩ := hrd.same s1
      exact ⟨_, rfl, _, _, _, _, _, rfl, h1, TD.cl, TD.nA, rd_at _ _ _, by simp, raise_nt M.T.O M.T.pl (by omega) fun e H' sH he => ke (fun z e2 => by rw [hx] at e2; cases e2; unfold isTh; rw [hp]; rfl) e H' (s1.trans sH) he⟩
end
end Js
set_option Elab.async false
set_option linter.all false
set_option maxRecDepth 100000
set_option maxHeartbeats 2000000
namespace L2Y
open PySem PySem.Spec PyProof.Rows L2
theorem inv_xe {X : Cx} {xe' : Value → Shared → Prop} {pins : List (Addr × Obj)} {σ : L2.St} {H : Hp} {s : Shared} (I : Inv X pins σ H s) : Inv { X with xe := xe' } pins σ H s := by
  obtain ⟨ok, os, bare, base, loc, cell, free, freeC, pin, hok, len⟩ := I
  obtain ⟨a1, a2, a3, a4, a5, a6, a7, a8, a9, a10, a11, a12, a13, a14, a15, a16, a17, a18⟩ := ok
  exact ⟨⟨a1, a2, a3, a4, a5, a6, a7, a8, a9, a10, a11, a12, a13, a14, a15, a16, a17, a18⟩, os, bare, base, loc, cell, free, freeC, pin, hok, len⟩
def XEB (X : Cx) (W : XK) (u : Value) (s' : Shared) : Prop :=
  ∃ (a : Addr) (B : Heap) (sI : Shared) (pins : List (Addr × Obj)) (σ : L2.St) (H : Hp) (cls : Value) (d : Option Addr),
    u = .ref a ∧ Inv X pins σ H sI ∧ (∀ b o, sI.heap.get? b = some o → b ∉ frs X.stack → B.get? b = some o) ∧ sI.heap.UpToSlots s'.heap ∧
      HandSPX.FlyingZ B X.stack a (Zc cls d) s'.heap ∧ H a = none ∧ s'.os = sI.os ∧ AllBare s'.gens ∧ W cls d H
abbrev blkX (X : Cx) (W : XK) (s : Shared) (H : Hp) (scope : Scope) (cenv : Env) (fp : List Addr) : Cx := { X.blk s H scope cenv fp with xe := XEB (X.blk s H scope cenv fp) W }
section
variable {X : Cx} {pins : List (Addr × Obj)} {σ : L2.St} {H : Hp} {s s' : Shared} {W : XK} {E : XK}
theorem XEB.of_call (I : Inv X pins σ H s) (hW : ∀ cls d H', E cls d H' → W cls d H') {u : Value} (c : CX X.prog X.w X.stack H s E u s') : XEB X W u s' := by
  obtain ⟨a, B, H', cls, d, rfl, fl, hok, ub, na, os, ag, hE⟩ := c
  obtain ⟨G, g1, g2⟩ := restrict s'.heap fun b => (B.get? b).isSome || decide (b ∈ frs X.stack)
  have st : B.StaysIn s'.heap := fl.1
  have gB : ∀ b o, B.get? b = some o → G.get? b = some o := fun b o e => by
    rw [g1 b (by simp [e])]
    exact st b o e
  have gF : ∀ b, b ∈ frs X.stack → G.get? b = s'.heap.get? b := fun b hb => g1 b (by simp [hb])
  have og : ∀ b o, G.get? b = some o → s'.heap.get? b = some o ∧ ((B.get? b).isSome = true ∨ b ∈ frs X.stack) := fun b o e => by
    cases q : ((B.get? b).isSome || decide (b ∈ frs X.stack)) with
    | false => rw [g2 b q] at e; cases e
    | true =>
      rw [g1 b q] at e
      exact ⟨e, by simpa [Bool.or_eq_true] using q⟩
  refine ⟨a, B, { s with heap := G, gens := s'.gens, drawn := s'.drawn, toks := s'.toks }, pins, σ, H', cls, d, rfl, ?_, fun b o e hb => ?_, Heap.UpToSlots.of_keeps fun b o e => (og b o e).1, fl, na, os, ag, hW _ _ _ hE⟩
  · refine I.call (ch := []) ⟨fun b o e n hb _ => gB b o (ub.keep b o e n hb), fun b o e n hb _ => ?_, fun b o e n _ => ub.free b o e n, fun b o e _ => ?_, ub.tups, ub.frzs, ub.tbls⟩ (hok.kept gB) ag (fun _ z => nomatch z)
    · obtain ⟨sl, q⟩ := ub.slot b o e hb
      exact ⟨sl, by rw [gF b hb]; exact q⟩
    · by_cases hb : b ∈ frs X.stack
      · obtain ⟨sl, q⟩ := ub.slot b o e hb
        exact ⟨_, by rw [gF b hb]; exact q⟩
      · obtain ⟨o', q⟩ := ub.there b o e hb
        exact ⟨o', gB b o' q⟩
  · obtain ⟨e', h⟩ := og b o e
    rcases h with h | h
    · obtain ⟨o', q⟩ := Option.isSome_iff_exists.mp h
      have z := st b o' q
      rw [e'] at z; cases z
      exact q
    · exact absurd h hb
theorem passes_blk {sb : Shared} {Hb : Hp} {scope : Scope} {cenv : Env} {fp : List Addr} (hW : ∀ cls d H', E cls d H' → W cls d H') : ∀ (pins : List (Addr × Obj)) (σ : L2.St) (H : Hp) (s : Shared) (e : Value) (s' : Shared), Inv (blkX X W sb Hb scope cenv fp) pins σ H s → CX X.prog X.w X.stack H s E e s' → (blkX X W sb Hb scope cenv fp).xe e s' :=
  fun _ σ _ _ e s' I c => XEB.of_call (X := X.blk sb Hb scope cenv fp) (inv_xe (X := blkX X W sb Hb scope cenv fp) (xe' := fun _ _ => False) I) hW c
end
section
variable {X : Cx}
theorem errX {WX' : WX} {W : XK} {pins : List (Addr × Obj)} {σ : L2.St} {H3 : Hp} {s3 : Shared} {scope : Scope} {cl : List (Str × Addr)} {fp : List Addr} {use : Option (Value → Sem Unit)} {Qf : Value → Shared → Prop} {D : Addr}
    (hs : X.stack = X.env :: X.outer) (hf : X.env.frame = some X.env.locals) (tk : Takes X WX') (hW : ∀ cls d σ H, W cls d H → WX' cls d σ H) (I3 : Inv X pins σ H3 s3)
    (f3 : ∀ b ∈ fp, FpOk X pins H3 b ∧ b < s3.heap.objs.size) {u : Value} {s' : Shared}
    (x : XEB (X.blk s3 H3 scope (compEnvC scope cl s3.heap.objs.size X.env) fp) W u s') :
    notedBy (model X.prog X.w) X.A (compEnvC scope cl s3.heap.objs.size X.env) (fun e s'' => compEnds (model X.prog X.w) X.A X.xe use Qf (.ref D) (compEnvC scope cl s3.heap.objs.size X.env) (.error e) s'') u s' := by
  obtain ⟨a, B, sI, pins', σ', H', cls, d, rfl, I', nb, up, fl, na, os, ag, w⟩ := x
  have fl : HandSPX.FlyingZ B X.stack a (Zc cls d) s'.heap := fl
  have nb : ∀ b o, sI.heap.get? b = some o → b ∉ frs X.stack → B.get? b = some o := nb
  have hfr : X.A.frames = some (X.env :: X.outer) := by rw [I3.ok.frames, hs]
  rw [hs] at fl
  obtain ⟨B', b1, b2⟩ := restrict B fun b => !(b == s3.heap.objs.size)
  have bb : ∀ b o, B'.get? b = some o → b ≠ s3.heap.objs.size ∧ B.get? b = some o := fun b o e => by
    by_cases q : b = s3.heap.objs.size
    · rw [b2 b (by simp [q])] at e
      cases e
    · rw [b1 b (by simp [q])] at e
      exact ⟨q, e⟩
  have bn : ∀ b, B.get? b = none → B'.get? b = none := fun b e => by
    cases q : B'.get? b with
    | none => rfl
    | some o => rw [(bb b o q).2] at e; cases e
  have ffs : ∀ (l : List Env) (h : Heap), h.FunFrames B l → h.FunFrames B' l := fun l h => by
    induction l with
    | nil => exact fun _ => trivial
    | cons e r ih =>
      rintro ⟨k1, ⟨L, o, k2, k3, k4, k5⟩, k6⟩
      exact ⟨k1, ⟨L, o, k2, bn _ k3, k4, k5⟩, ih k6⟩
  obtain ⟨m, hn, _⟩ := I'.loc
  have hn : sI.heap.Ns s3.heap.objs.size m := hn
  have fl' : HandSPX.FlyingZ B' (X.env :: X.outer) a (Zc cls d) s'.heap := by
    obtain ⟨k1, k2, k3, oe, vs, T, oT, ts, he, hz, hd, h1, hnT, hTe, hT, hdT, h3⟩ := fl
    exact ⟨fun b o e => k1 b o (bb b o e).2, bn _ k2, ffs _ _ k3, oe, vs, T, oT, ts, he, hz, hd, h1, bn _ hnT, hTe, hT, hdT, h3⟩
  show wpAny _ X.A (noteFrame (.ref a) (compEnvC scope cl s3.heap.objs.size X.env)) _ _ s'
  rw [noteFrame_env (.ref a) (show (compEnvC scope cl s3.heap.objs.size X.env).frame = X.env.frame from rfl)]
  refine HandSPX.looks_onZ Zc.steady hfr hf fl' fun h1 hh1 up1 => ?_
  have hn1 : h1.Ns s3.heap.objs.size m := Heap.Ns.upToSlots (Heap.Ns.upToSlots hn up) up1
  refine ⟨m, hn1, fun h2 m2 hn2 hs2 => ?_⟩
  have hn2 : h2.Ns s3.heap.objs.size m2 := hn2
  have hs2 : Heap.SameBut s3.heap.objs.size h1 h2 := hs2
  obtain ⟨q1, q2, q3, oe, vs, T, oT, ts, he, hz, hd, h1', hnT, hTe, hT, hdT, h3⟩ := hh1
  have notC : ∀ {b : Addr} {o : Obj} {vs : Array Value}, h1.get? b = some o → o.data = .fields vs → b ≠ s3.heap.objs.size := fun {b o vs} e dd z => by
    obtain ⟨oL, es, ep, hoL, hdL, _⟩ := hn1
    rw [z, hoL] at e
    cases e
    rw [hdL] at dd
    cases dd
  have q1' : B'.StaysIn h2 := fun b o e => (hs2.2 b (bb b o e).1).trans (q1 b o e)
  have q3' : h2.FunFrames B' (X.env :: X.outer) := Heap.FunFrames.sameBut hs2 hn2 q3
  have q4' : HandSPX.TracedZ h2 B' a (Zc cls d) (rawInt X.env.locals) := ⟨oe, vs, T, oT, ts, (hs2.2 a (notC he hd)).trans he, hz, hd, h1', hnT, hTe, (hs2.2 T (notC hT hdT)).trans hT, hdT, h3⟩
  unfold PySem.passOn
  refine wpAny_bind (wpAny_field ((hs2.2 a (notC he hd)).trans he) hd h1' ?_)
  rw [if_neg (show ¬ ((Value.ref T == Value.none) = true) from by simp)]
  have fin : wpAny (model X.prog X.w) X.A (setFlight (.ref a) (compEnvC scope cl s3.heap.objs.size X.env).frame) (fun _ s4 => wpAny (model X.prog X.w) X.A (throw (.ref a) : Sem Value) (fun _ _ => False) X.xe s4) X.xe { s' with heap := h2 } := by
    rw [show (compEnvC scope cl s3.heap.objs.size X.env).frame = some X.env.locals from hf]
    refine HandSPX.setFlight_anyZ q1' q3' q4' fun h4 r1 r3 r4 up4 => wpAny_throw (tk _ _ ?_)
    obtain ⟨G, g1, g2⟩ := restrict sI.heap fun b => !(b == s3.heap.objs.size)
    have gg : ∀ b o, G.get? b = some o → b ≠ s3.heap.objs.size ∧ sI.heap.get? b = some o := fun b o e => by
      by_cases q : b = s3.heap.objs.size
      · rw [g2 b (by simp [q])] at e
        cases e
      · rw [g1 b (by simp [q])] at e
        exact ⟨q, e⟩
    have I7 : Inv X pins σ H' sI := I3.call' (ch := fp) I'.os I'.base I'.hok I'.bare fun b hb => ⟨(f3 b hb).1.2.2.2.1, (f3 b hb).1.2.1, (f3 b hb).1.2.2.2.2.1, (f3 b hb).1.2.2.2.2.2⟩
    have nC : H' s3.heap.objs.size = none := I'.free
    obtain ⟨f0, f1, f2, f3', f4, f5⟩ := I3.fpOk (Nat.le_refl _) nC
    have J : Inv X pins σ H' { sI with heap := G, toks := sI.toks } := I7.turned (t' := sI.toks) (fun b o hb e => by rw [g1 b (by simp [hb])]; exact e) f0 f1 f3' f4 f5
    refine ⟨a, B', { sI with heap := G, toks := sI.toks }, pins, σ, H', cls, d, rfl, J, fun b o e hb => ?_, fun b o e hnf => ?_, .inr (.inr ?_), na, os, ag, hW _ _ _ _ w⟩
    · obtain ⟨z1, z2⟩ := gg b o e
      rw [b1 b (by simp [z1])]
      exact nb b o z2 hb
    · obtain ⟨z1, z2⟩ := gg b o e
      obtain ⟨sl1, e1⟩ := up b o z2 hnf
      obtain ⟨sl2, e2⟩ := up1 b _ e1 hnf
      obtain ⟨sl3, e3⟩ := up4 b _ ((hs2.2 b z1).trans e2) hnf
      exact ⟨sl3, e3⟩
    · rw [hs]
      exact ⟨r1, q2, r3, r4⟩
  first
    | exact wpAny_bind (wpAny_pure (wpAny_bind fin))
    | exact wpAny_bind fin
theorem lc_coreX {WX' : WX} {WK : XK} {pins : List (Addr × Obj)} {s : Shared} {σ : L2.St} {H : Hp} {Q : VK} {elt tg iter : Expr} {ifs : List Expr} {scope : Scope} {own : List (Str × Nat)} {pos pos' : Pos} {wi : TI} {g : TG} {tt : TT} {te : TE} {use : Option (Value → Sem Unit)} {Qf : Value → Shared → Prop}
    (hs0 : X.stack = X.env :: X.outer) (hf0 : X.env.frame = some X.env.locals) (tk : Takes X WX') (hW : ∀ cls d σ H, WK cls d H → WX' cls d σ H) (hc : X.calm = true) (hN : X.N.Nodup) (I : Inv X pins σ H s) (hi : PI X tg iter wi) (ok : BlkOk X.N X.env.scope scope own)
    (hg : ∀ (s : Shared) (H : Hp) (C : Addr) (cl : List (Str × Addr)) (fp : List Addr), PG (blkX X WK s H scope (compEnvC scope cl C X.env) fp) tg g) (ht : ∀ (s : Shared) (H : Hp) (C : Addr) (cl : List (Str × Addr)) (fp : List Addr), PTs (blkX X WK s H scope (compEnvC scope cl C X.env) fp) ifs tt)
    (he : ∀ (s : Shared) (H : Hp) (C : Addr) (cl : List (Str × Addr)) (fp : List Addr), PE (blkX X WK s H scope (compEnvC scope cl C X.env) fp) elt te) (hs : ∀ x, foldedSetIterable iter X.env x = pure x)
    (h : tLc wi g tt te (own.map (·.2)) σ H Q)
    (hRR : ∀ D cenv s' m H', Inv X pins σ H' s' → Q (.ref D) H' → s'.heap.Ns cenv.locals m → FpOk X pins H' cenv.locals → compEnds (model X.prog X.w) X.A X.xe use Qf (.ref D) cenv (.ok .next) s') :
    wpAny (model X.prog X.w) X.A (comprehension (.ListComp elt [⟨tg, iter, ifs, 0⟩] scope pos) scope X.env pos' (newList []) false (eval iter X.env) use) Qf X.xe s := by
  have hfree : ∀ y ∈ scope.names, y.2 = .free → ∃ c, X.env.cells.lookup y.1 = some c := fun y hy e => by
    rcases ok.free y hy e with k | k
    · exact I.ok.has _ (.inl k)
    · exact I.ok.has _ (.inr k)
  refine comprehension_at (use := use) rfl hs (closure_ok hfree) ok.kind (fun y hy e => by rw [ok.uniq y hy, e])
    (thn (hi.run pins s σ H _ I h) fun xv s1 hx => thn hx fun itv s2 h2 => ?_)
  obtain ⟨it, fp, tn, J, H2, e, I2, T, st2, f2, q⟩ := h2
  subst e
  refine wpAny_newObj_type (newEnv_comp ?_) (by show 0 ≤ sizeLine; decide)
  generalize hD : s2.heap.objs.size = D
  have hDn : H2 D = none := I2.hok.fresh (Nat.le_of_eq hD)
  obtain ⟨W, ⟨m0, w0⟩, turn⟩ := q D hDn
  -- the new list
  generalize hs3 : ({ s2 with heap := s2.heap.push { cls := .type "list", data := .seq ([] : List Value).toArray } } : Shared) = s3
  have I3 : Inv X pins σ (upd H2 D (.lst [])) s3 := by
    rw [← hs3]
    refine I2.laid (t' := s2.toks) (fun b o e => Heap.get?_push_of_some _ e) (Nat.le_of_eq hD) ⟨Nat.zero_le _, [], 0, .nil, ?_⟩
    rw [← hD]
    exact Heap.get?_push_size _ rfl
  have h3 : s3.heap = s2.heap.push { cls := .type "list", data := .seq ([] : List Value).toArray } := by rw [← hs3]
  have sz : ∀ b ∈ fp, b < s2.heap.objs.size := fun b hb => by
    obtain ⟨o, e, _⟩ := T.obj _ _ st2 b hb
    exact Heap.lt_size e
  have f3 : ∀ b ∈ fp, FpOk X pins (upd H2 D (.lst [])) b ∧ b < s3.heap.objs.size := fun b hb => by
    have hlt := sz b hb
    refine ⟨⟨?_, (f2 b hb).2⟩, by rw [h3, Heap.size_push]; exact Nat.lt_succ_of_lt hlt⟩
    rw [upd_ne (by rw [← hD]; exact Nat.ne_of_lt hlt)]
    exact (f2 b hb).1
  have st3 : tn 0 s3.heap := T.keep _ _ _ st2 fun b _ o e => by rw [h3]; exact Heap.get?_push_of_some _ e
  have I4 := block_start I3 ok hN f3
  have pg := hg s3 (upd H2 D (.lst [])) s3.heap.objs.size (cellsFrom (s3.heap.objs.size + 1) scope.names (cloFrom X.env.cells scope.names [])) fp
  have pt := ht s3 (upd H2 D (.lst [])) s3.heap.objs.size (cellsFrom (s3.heap.objs.size + 1) scope.names (cloFrom X.env.cells scope.names [])) fp
  have pe := he s3 (upd H2 D (.lst [])) s3.heap.objs.size (cellsFrom (s3.heap.objs.size + 1) scope.names (cloFrom X.env.cells scope.names [])) fp
  show codeAny _ _ (.compStart (.ListComp elt [⟨tg, iter, ifs, 0⟩] scope pos) 0 (.ref it) (.ref D) (compEnvC scope (cellsFrom (s3.heap.objs.size + 1) scope.names (cloFrom X.env.cells scope.names [])) s3.heap.objs.size X.env)) (compEnds (model X.prog X.w) X.A X.xe use Qf (.ref D) (compEnvC scope (cellsFrom (s3.heap.objs.size + 1) scope.names (cloFrom X.env.cells scope.names [])) s3.heap.objs.size X.env)) { s3 with heap := pushCells (s3.heap.push { cls := .type "dict", data := .dict #[] }) scope.names }
  have nfp : ∀ b ∈ fp, (upd H2 D (.lst [])) b = none := fun b hb => (f3 b hb).1.1
  have er : ∀ (u : Value) (s' : Shared), (blkX X WK s3 (upd H2 D (.lst [])) scope (compEnvC scope (cellsFrom (s3.heap.objs.size + 1) scope.names (cloFrom X.env.cells scope.names [])) s3.heap.objs.size X.env) fp).xe u s' → notedBy (model X.prog X.w) X.A (compEnvC scope (cellsFrom (s3.heap.objs.size + 1) scope.names (cloFrom X.env.cells scope.names [])) s3.heap.objs.size X.env) (fun e s'' => compEnds (model X.prog X.w) X.A X.xe use Qf (.ref D) (compEnvC scope (cellsFrom (s3.heap.objs.size + 1) scope.names (cloFrom X.env.cells scope.names [])) s3.heap.objs.size X.env) (.error e) s'') u s' :=
    fun u s' x => errX (X := X) (use := use) (Qf := Qf) (D := D) hs0 hf0 tk hW I3 f3 x
  generalize hce : compEnvC scope (cellsFrom (s3.heap.objs.size + 1) scope.names (cloFrom X.env.cells scope.names [])) s3.heap.objs.size X.env = ce at I4 pg pt pe er ⊢
  have cL : ce.locals = s3.heap.objs.size := by subst hce; rfl
  generalize hH3 : upd H2 D (.lst []) = H3 at I3 I4 pg pt pe w0 nfp f3 er
  generalize hs4 : ({ s3 with heap := pushCells (s3.heap.push { cls := .type "dict", data := .dict #[] }) scope.names } : Shared) = s4 at I4 ⊢
  have st4 : tn 0 s4.heap := T.keep _ _ _ st3 fun b _ o e => by rw [← hs4]; exact pushCells_keeps _ _ _ _ (Heap.get?_push_of_some _ e)
  have stat : ∀ {σ' : L2.St} {H' : Hp} {s' : Shared}, Inv (X.blk s3 H3 scope ce fp) [] σ' H' s' → (∀ b ∈ fp, H' b = none) → ∀ b ∈ fp, FpOk (X.blk s3 H3 scope ce fp) [] H' b := fun {σ' H' s'} I' hn b hb =>
    ⟨hn b hb, (I'.ok.exf b hb).1, I'.ok.exfs b hb, .inl hb, fun x c e => (I'.ok.exf b hb).2 x c e, fun p hp => absurd (show p ∈ ([] : List (Addr × Obj)) ++ [] from hp) (by simp)⟩
  have loop : codeAny (model X.prog X.w) X.A (.compLoop (.ListComp elt [⟨tg, iter, ifs, 0⟩] scope pos) 0 (.ref it) (.ref D) ce) (compEnds (model X.prog X.w) X.A X.xe use Qf (.ref D) ce) s4 := by
    refine compLoop_any (fun n s' => ∃ i H', Inv (X.blk s3 H3 scope ce fp) [] (wipe σ (own.map (·.2))) H' s' ∧ tn i s'.heap ∧ (∀ b ∈ fp, H' b = none) ∧ W i n H') ?_ m0 ⟨0, H3, I4, st4, nfp, w0⟩
    rintro n s5 ⟨i, H5, I5, st5, n5, w5⟩
    rcases turn i n H5 w5 with ⟨stop, qq⟩ | ⟨go, Nx, hNx, step⟩
    · have td := T.done (X.blk s3 H3 scope ce fp) rfl rfl rfl hc i [] s5 _ H5 (fun _ _ => False) I5 (stat I5 n5) st5 stop
      refine thnF td fun r s6 ⟨hr, I6⟩ => ?_
      subst hr
      -- back in the def's context
      have I7 : Inv X pins σ H5 s6 := I3.call' (ch := fp) I6.os I6.base I6.hok I6.bare fun b hb => ⟨(f3 b hb).1.2.2.2.1, (f3 b hb).1.2.1, (f3 b hb).1.2.2.2.2.1, (f3 b hb).1.2.2.2.2.2⟩
      have nC : H5 s3.heap.objs.size = none := by
        have z : H5 ce.locals = none := I6.free
        rw [cL] at z
        exact z
      obtain ⟨m, hn, _⟩ := I6.loc
      have hn : s6.heap.Ns ce.locals m := hn
      rw [cL] at hn
      exact hRR D ce s6 m H5 I7 qq (by rw [cL]; exact hn) (by rw [cL]; exact I3.fpOk (Nat.le_refl _) nC)
    · have ti := T.item (X.blk s3 H3 scope ce fp) rfl rfl rfl hc i [] s5 _ H5 (fun _ _ => False) I5 (stat I5 n5) st5 go
      refine thnF ti fun r s6 ⟨u, hr, h6⟩ => ?_
      subst hr
      refine thnF h6 fun _ s7 ⟨x, H7, I7, r7, y7, st7, n7⟩ => ?_
      have I7' := I7.pinned (stat I7 n7) (T.obj _ _ st7)
      refine wpAny_mono (pg.run _ s7 _ H7 x u _ (inv_xe I7') r7 (step x H7 y7)) (fun _ s8 ⟨σ8, H8, I8, hw8, q8⟩ => ?_) er
      refine wpAny_mono (pt.run _ s8 σ8 H8 _ I8 q8) (fun b s9 ⟨H9, I9, q9⟩ => ?_) er
      -- the turn's end
      have fin : ∀ {s' : Shared} {H' : Hp}, Inv (X.blk s3 H3 scope ce fp) ([] ++ pinsAt fp s7.heap) σ8 H' s' → Nx H' → ∃ m, m < n ∧ ∃ i H', Inv (X.blk s3 H3 scope ce fp) [] (wipe σ (own.map (·.2))) H' s' ∧ tn i s'.heap ∧ (∀ b ∈ fp, H' b = none) ∧ W i m H' := fun {s' H'} I' nx => by
        obtain ⟨m', hm, w'⟩ := hNx H' nx
        have pin' : ∀ b ∈ fp, ∀ o, s7.heap.get? b = some o → s'.heap.get? b = some o ∧ H' b = none := fun b hb o e =>
          let z := I'.pin (b, o) (List.mem_append_right _ (List.mem_append_right _ (mem_pinsAt hb e)))
          ⟨z.1, z.2.1⟩
        have hl : (wipe σ (own.map (·.2))).length = σ8.length := by rw [← hw8, wipe_length]
        refine ⟨m', hm, i + 1, H', (I'.unpinned (pins := [])).weak hl (fun j v e => ?_), T.keep _ _ _ st7 fun b hb o e => (pin' b hb o e).1, fun b hb => ?_, w'⟩
        · rw [← hw8] at e
          exact (wipe_some e).1
        · obtain ⟨o, e, _⟩ := T.obj _ _ st7 b hb
          exact (pin' b hb o e).2
      cases b with
      | false =>
        simp only [Bool.false_eq_true, if_false] at q9 ⊢
        exact fin (inv_xe I9) q9
      | true =>
        simp only [if_true] at q9 ⊢
        refine wpAny_mono (pe.run _ s9 σ8 H9 _ I9 q9) (fun z s10 ⟨yv, H10, I10, r10, acc, hD10, hz10, nx⟩ => ?_) er
        exact app_ok (X := X.blk s3 H3 scope ce fp) (inv_xe I10) hD10 hz10 r10 fun s11 I11 => fin I11 nx
  exact codeAny_compStart_list loop (T.self X.A 0 _ _ _ st4 loop)
end
end L2Y
set_option Elab.async false
set_option linter.all false
set_option maxRecDepth 100000
set_option maxHeartbeats 2000000
namespace L2Y
open PySem PySem.Spec PyProof.Rows L2
section
variable {X : Cx}
theorem ps_setLcX {WX' : WX} {WK : XK} {i : Nat} {y : Str} {py : Pos} {elt tg iter : Expr} {ifs : List Expr} {scope : Scope} {own : List (Str × Nat)} {pos spos : Pos} {wi : TI} {g : TG} {tt : TT} {te : TE} (hs0 : X.stack = X.env :: X.outer) (hf0 : X.env.frame = some X.env.locals) (tk : Takes X WX') (hW : ∀ cls d σ H, WK cls d H → WX' cls d σ H) (hc : X.calm = true) (hN : X.N.Nodup) (hy : X.N[i]? = some y) (hyl : X.env.scope.names.lookup y = some .local)
    (hsw : swapsWith (.ListComp elt [⟨tg, iter, ifs, 0⟩] scope pos) (some (.Name y py)) spos.line X.env = pure true) (hi : PI X tg iter wi) (ok : BlkOk X.N X.env.scope scope own)
    (hg : ∀ (s : Shared) (H : Hp) (C : Addr) (cl : List (Str × Addr)) (fp : List Addr), PG (blkX X WK s H scope (compEnvC scope cl C X.env) fp) tg g) (ht : ∀ (s : Shared) (H : Hp) (C : Addr) (cl : List (Str × Addr)) (fp : List Addr), PTs (blkX X WK s H scope (compEnvC scope cl C X.env) fp) ifs tt)
    (he : ∀ (s : Shared) (H : Hp) (C : Addr) (cl : List (Str × Addr)) (fp : List Addr), PE (blkX X WK s H scope (compEnvC scope cl C X.env) fp) elt te) (hs : ∀ x, foldedSetIterable iter X.env x = pure x := by intro _; rfl) :
    PS X (.Assign [.Name y py] (.ListComp elt [⟨tg, iter, ifs, 0⟩] scope pos) spos) (tAsg (tLc wi g tt te (own.map (·.2))) (gName i)) := by
  refine ⟨fun pins s σ H D I h => ?_⟩
  rw [exec_Assign_Name_used _ _ _ _ hsw]
  refine wpAny_bind (wpAny_standAt (wpAny_bind ?_))
  show wpAny _ X.A (do let _ ← comprehension (.ListComp elt [⟨tg, iter, ifs, 0⟩] scope pos) scope X.env (firstIterPos [⟨tg, iter, ifs, 0⟩] pos) (newList []) false (eval iter X.env) (some (assign (.Name y py) X.env))) _ _ s
  have h : tLc wi g tt te (own.map (·.2)) σ H (fun x H1 => gName i x σ H1 D.nx) := h
  refine wpAny_bind (thn (lc_coreX (Qf := fun _ s' => SP X pins D .next s') hs0 hf0 tk hW hc hN I hi ok hg ht he hs h fun L C s' m H' I' q hn f => ?_) fun _ s' hq => wpAny_pure (wpAny_pure hq))
  show wpAny _ _ (assign (.Name y py) X.env (.ref L)) _ _ _
  refine wpAny_assign_Name (store_ok2 (v := V.ref L) I' hN hy (.inl hyl) rfl (fun s2 I2 ⟨a, sb, ha⟩ => ?_) (.inr hyl))
  obtain ⟨f0, f1, f2, f3, f4, f5⟩ := f
  have haC : C.locals ≠ a := by
    rcases ha with z | z
    · rw [z]; exact f1
    · exact fun e => f4 y a z e.symm
  refine ⟨m, hn.sameBut sb haC, fun h3 sb3 => ?_⟩
  exact ⟨_, H', I2.turned (t' := s2.toks) (fun b o hb e => (sb3.2 b hb).trans e) f0 f1 f3 f4 f5, q⟩
end
end L2Y
set_option Elab.async false
set_option linter.all false
set_option maxRecDepth 100000
set_option maxHeartbeats 4000000
namespace Js
open PySem L2
open PySem.Spec PyProof.Rows
def WsOk (ws : List Str) : Prop := ws.length ≤ 11000 ∧ ∀ x ∈ ws, x.length ≤ 100000
def rowOf (ws : List Str) : Nat → Nat → Rs
  | 0 => fun a => .bad a
  | n + 1 => pRowN ws n
theorem pDeed_eq (ws : List Str) (n : Nat) : pDeed ws n = pDeed0 (n != 0) (rowOf ws n) ws := by cases n <;> rfl
theorem fw_iff {n : Nat} {x : Str} (h8 : n ≤ 8) : x ∈ fwS (8 - n) ↔ x ∈ letters ∨ ((n != 0) = true ∧ x ∈ looksS) := by
  unfold fwS
  cases n with
  | zero =>
    rw [if_pos (by decide)]
    exact ⟨.inl, fun h => h.elim id fun z => by cases z.1⟩
  | succ n =>
    rw [if_neg (by omega), List.mem_append]
    exact ⟨fun h => h.elim .inl fun z => .inr ⟨rfl, z⟩, fun h => h.elim .inl fun z => .inr z.2⟩
theorem let_look {x : Str} (h : x ∈ looksS) : x ∉ letters := fun z => by
  obtain ⟨c, hc, rfl⟩ := let_of z
  exact let_nlk c hc h
theorem dr_next {ws : List Str} {a : Nat} {x : Str} (h : ws[a]? = some x) : ws.drop a = x :: ws.drop (a + 1) := by
  obtain ⟨hl, rfl⟩ := List.getElem?_eq_some_iff.mp h
  exact List.drop_eq_getElem_cons hl
theorem lt_len {ws : List Str} {a : Nat} {x : Str} (h : ws[a]? = some x) : a < ws.length := (List.getElem?_eq_some_iff.mp h).1
theorem look_two {x : Str} (h : x ∈ looksS) : x = "while" ∨ x = "if" := by
  simpa [looksS] using h
theorem tk_four {x : Str} (h : x ∈ takersS) : x = "first" ∨ x = "second" ∨ x = "pair" ∨ x = "same" := by
  simpa [takersS] using h
theorem tkN_1 : tkN "first" = 1 ∧ tkN "second" = 1 ∧ tkN "pair" = 2 ∧ tkN "same" = 2 := by decide +kernel
theorem lkN_1 : lkN "while" = 1 ∧ lkN "if" = 2 := by decide +kernel
theorem passAt_blkY {X : Cx} {WK : XK} {sb : Shared} {Hb : Hp} {scope : Scope} {cenv : Env} {fp : List Addr} (σ : L2.St) : PassesAt (L2.CX X.prog X.w) (L2Y.blkX X WK sb Hb scope cenv fp) σ WK := fun pins H s e s' I c => L2Y.passes_blk (fun _ _ _ h => h) pins σ H s e s' I c
def spRdDH (K : PySem.W.Frag) (C CD N : Addr) (n : Nat) : Sp := fun vs H Q E => ∃ rd wl ws a b, vs = [.ref rd, .int ((8 - n : Nat) : Int)] ∧ RdAt CD H rd wl ws a b ∧ n ≤ 8 ∧ 3 * b ≤ a ∧ a ≤ ws.length ∧ WsOk ws ∧
  (∀ d a', pDeed ws n a = .ok a' → d.ok → d.deep ≤ n → ws.drop a = d.words ++ ws.drop a' → a' = a + d.words.length → 3 * d.many ≤ d.words.length → ∀ v H', KB rd H H' → RdAt CD H' rd wl ws a' (b + d.many) → DAt K C (del H' rd) v d → Q v H') ∧
  (∀ m, pDeed ws n a = .bad m → ∀ e H', KB rd H H' → H' e = some (.xd [("place", .int (m : Nat))]) → E (.ref N) (some e) H')
def spRdLH (K : PySem.W.Frag) (C CD N : Addr) (n : Nat) : Sp := fun vs H Q E => ∃ rd wl ws a b kk, vs = [.ref rd, .str kk, .int ((8 - n : Nat) : Int)] ∧ RdAt CD H rd wl ws a b ∧ n ≤ 8 ∧ 1 ≤ n ∧ kk ∈ looksS ∧ 3 * b ≤ a + 2 ∧ a ≤ ws.length ∧ WsOk ws ∧
  (∀ d a', (tkW isLet ws a).bind (pLook (rowOf ws n) ws (lkN kk)) = .ok a' → d.ok → d.rows ≠ [] → kindOf d = kk → d.deep ≤ n → ws.drop a = letS d.nm1 :: (wordsL d.rows ++ ws.drop a') → a' = a + 1 + (wordsL d.rows).length → 3 * manyL d.rows + 2 ≤ (wordsL d.rows).length → ∀ v H', KB rd H H' → RdAt CD H' rd wl ws a' (b + manyL d.rows) → DAt K C (del H' rd) v d → Q v H') ∧
  (∀ m, (tkW isLet ws a).bind (pLook (rowOf ws n) ws (lkN kk)) = .bad m → ∀ e H', KB rd H H' → H' e = some (.xd [("place", .int (m : Nat))]) → E (.ref N) (some e) H')
def spRdRH (K : PySem.W.Frag) (C CD N : Addr) (n : Nat) : Sp := fun vs H Q E => ∃ rd wl ws a b, vs = [.ref rd, .int ((8 - n : Nat) : Int)] ∧ RdAt CD H rd wl ws a b ∧ n ≤ 8 ∧ 3 * b ≤ a ∧ a ≤ ws.length ∧ WsOk ws ∧
  (∀ r a', pRowN ws n a = .ok a' → okR r → deepR r ≤ n → ws.drop a = wordsR r ++ ws.drop a' → a' = a + (wordsR r).length → 3 * manyR r ≤ (wordsR r).length → ∀ q H', KB rd H H' → RdAt CD H' rd wl ws a' (b + manyR r) → RAt K C (del H' rd) q r → Q (.ref q) H') ∧
  (∀ m, pRowN ws n a = .bad m → ∀ e H', KB rd H H' → H' e = some (.xd [("place", .int (m : Nat))]) → E (.ref N) (some e) H')
theorem words_told (c : Nat) (t : Tr) : (Dd.told c t).words = [letS c, "=", t.text] := rfl
theorem tk_form {y : Str} (h : y ∈ takersS) : ∃ fo, (y, fo) ∈ forms ∧ (cutS fo (some 1) none).cps.size = tkN y ∧ fo.length ≤ 3 ∧ tkN y ≤ 2 := by
  obtain ⟨e1, e2, e3, e4⟩ := tkN_1
  rcases tk_four h with rfl | rfl | rfl | rfl
  · exact ⟨"nn", by simp [forms], by rw [e1]; decide +kernel, by decide +kernel, by rw [e1]; decide⟩
  · exact ⟨"nn", by simp [forms], by rw [e2]; decide +kernel, by decide +kernel, by rw [e2]; decide⟩
  · exact ⟨"nnn", by simp [forms], by rw [e3]; decide +kernel, by decide +kernel, by rw [e3]; decide⟩
  · exact ⟨"nnn", by simp [forms], by rw [e4]; decide +kernel, by decide +kernel, by rw [e4]; decide⟩
theorem tk_deed {K : PySem.W.Frag} {C : Addr} {y : Str} (h : y ∈ takersS) {c : Nat} (hc : c < 10) {ns : List Nat} (hl : ns.length = tkN y) (hns : ∀ m ∈ ns, m < 10) : ∃ d : Dd, d.ok ∧ d.deep = 0 ∧ d.words = letS c :: ("=" : Str) :: y :: ns.map letS ∧ d.many = 1 ∧ ∀ H p, SqT K H p (.str y :: .int ((c : Nat) : Int) :: namesV ns) → DAt K C H (.ref p) d := by
  obtain ⟨e1, e2, e3, e4⟩ := tkN_1
  rcases tk_four h with rfl | rfl | rfl | rfl
  · rw [e1] at hl
    obtain ⟨n1, rfl⟩ := List.length_eq_one_iff.mp hl
    have h1 := hns n1 (by simp)
    exact ⟨.take false c n1, ⟨hc, h1⟩, by rw [Dd.deep], rfl, rfl, fun H p hp => ⟨p, rfl, hp, hc, h1⟩⟩
  · rw [e2] at hl
    obtain ⟨n1, rfl⟩ := List.length_eq_one_iff.mp hl
    have h1 := hns n1 (by simp)
    exact ⟨.take true c n1, ⟨hc, h1⟩, by rw [Dd.deep], rfl, rfl, fun H p hp => ⟨p, rfl, hp, hc, h1⟩⟩
  · rw [e3] at hl
    match ns, hl, hns with
    | [n1, n2], _, hns =>
      have h1 := hns n1 (by simp)
      have h2 := hns n2 (by simp)
      exact ⟨.two false c n1 n2, ⟨hc, h1, h2⟩, by rw [Dd.deep], rfl, rfl, fun H p hp => ⟨p, rfl, hp, hc, h1, h2⟩⟩
  · rw [e4] at hl
    match ns, hl, hns with
    | [n1, n2], _, hns =>
      have h1 := hns n1 (by simp)
      have h2 := hns n2 (by simp)
      exact ⟨.two true c n1 n2, ⟨hc, h1, h2⟩, by rw [Dd.deep], rfl, rfl, fun H p hp => ⟨p, rfl, hp, hc, h1, h2⟩⟩
section
variable {P : Program} {w : World} {K : PySem.W.Frag} {mg : Str → Option Value} {base : Heap} {C CD N fT fNm fTd : Addr} {fdT fdNm fdTd : FuncData}
theorem ok_rdDH {f fL : Addr} {fd fdL : FuncData} {n : Nat} (F : Fun K "read_deed" "read_deed" sRdD f fd) (R : RdC K mg) (G : FrmC K w mg) (TD : TxtD K mg CD) (hCD : C ≠ CD) (DA : Def P w K mg base "ahead" 1 ["reader"] (spAhead CD)) (DF : Def P w K mg base "first_words" 1 ["floors"] spFw) (DT : DefH P w K mg base "take" 3 ["reader", "right"] (spTkH K CD N) fT fdT) (DN : DefH P w K mg base "read_name" 4 ["reader"] (spRdNH CD N) fNm fdNm) (DTd : DefH P w K mg base "read_told" 5 ["reader"] (spRdTH C CD N) fTd fdTd)
    (GL : FnOk P w K mg base (L2.CX P w) (3 * n + 6) fL fdL ["reader", "kind", "floors"] (spRdLH K C CD N n)) (mgl : mg "read_look" = some (.ref fL)) (kl : PySem.W.keepIn K (.ref fL) = true) (bl : Binds K fdL ["reader", "kind", "floors"] []) : FnOk P w K mg base (L2.CX P w) (3 * n + 7) f fd ["reader", "floors"] (spRdDH K C CD N n) := by
  obtain ⟨tL, mL⟩ := R.lt
  obtain ⟨aLk, mLk, hLk⟩ := R.lk
  obtain ⟨aTk, mTk, hTk⟩ := R.tk
  obtain ⟨dF, es, nF, mF, kd, hk⟩ := G.ex
  refine F.okX scDd (fun vs H Q E h => ?_) (fun cdv A outer s H vs Q E hr h => ?_)
  · obtain ⟨rd, wl, ws, a, b, rfl, _⟩ := h
    rfl
  · obtain ⟨rd, wl, ws, a, b, rfl, hrd, h8, h3b, hal, hws, k, ke⟩ := h
    have hr1 : Room 1 _ := hr.mono (by omega)
    have hr3 : Room 3 _ := hr.mono (by omega)
    have hr4 : Room 4 _ := hr.mono (by omega)
    have hr5 : Room 5 _ := hr.mono (by omega)
    refine ⟨_, pss_cons (ps_set (i := 2) scDd.nd rfl (Or.inl rfl) (pe_callS DT.ok hr3 rfl DT.mgf DT.kp DT.b (fun σ => L2.passAt (L2.takes_of rfl rfl rfl rfl) σ) (pa_cons (pv 0) (pa_cons (pe_def DF hr1 rfl (pa_cons (pv 1) pa_nil)) pa_nil)))) (pss_cons (ps_fldaug (pv 0) pe_int in_add) (pss_cons (ps_if (pt_cmpR op_in_seq (pv 2) (pe_glob (v := .ref aLk) rfl mLk rfl) rfl) (pss_one (ps_ret (pe_callS GL hr rfl mgl kl bl (fun σ => L2.passAt (L2.takes_of rfl rfl rfl rfl) σ) (pa_cons (pv 0) (pa_cons (pv 2) (pa_cons (pv 1) pa_nil)))))) pss_nil) (pss_cons (ps_set (i := 3) scDd.nd rfl (Or.inl rfl) (pe_m1 PySem.F.slot_str_index PySem.F.type_str_index mt_sindex (pe_glob (v := .str "abcdefghij") rfl mL ⟨_, rfl⟩) (pv 2))) (pss_cons (ps_expr (pe_callS DT.ok hr3 rfl DT.mgf DT.kp DT.b (fun σ => L2.passAt (L2.takes_of rfl rfl rfl rfl) σ) (pa_cons (pv 0) (pa_cons (pe_tup (pa_cons pe_str pa_nil)) pa_nil)))) (pss_cons (ps_if (pt_cmpR op_notIn_seq (pe_def DA hr1 rfl (pa_cons (pv 0) pa_nil)) (pe_glob (v := .ref aTk) rfl mTk rfl) rfl) (pss_one (ps_ret (pe_tup (pa_cons pe_str (pa_cons (pv 3) (pa_cons (pe_callS DTd.ok hr5 rfl DTd.mgf DTd.kp DTd.b (fun σ => L2.passAt (L2.takes_of rfl rfl rfl rfl) σ) (pa_cons (pv 0) pa_nil)) pa_nil)))))) pss_nil) (pss_cons (ps_set (i := 4) scDd.nd rfl (Or.inl rfl) (pe_callS DT.ok hr3 rfl DT.mgf DT.kp DT.b (fun σ => L2.passAt (L2.takes_of rfl rfl rfl rfl) σ) (pa_cons (pv 0) (pa_cons (pe_glob (v := .ref aTk) rfl mTk rfl) pa_nil)))) (pss_cons (L2Y.ps_setLcX (WK := fun cls d H => E cls d H) (i := 5) (own := [("sign", 6)]) (g := gName 6) (tt := tYes) rfl rfl (L2.takes_of rfl rfl rfl rfl) (fun _ _ _ _ h => h) rfl scDd.nd rfl rfl (sw_true rfl rfl rfl (by decide +kernel)) (pi_str (pe_slice sl_str (pe_ix (r := rIxD K w) ix_kdict (pe_glob (v := .ref dF) rfl mF rfl) (pv 4) (fun _ _ => rfl)) (po_some pe_int) po_none)) (blkOk_by (N := ["reader", "floors", "word", "name", "kind", "others", "sign"]) (sc := defScope sRdD) (by decide +kernel)) (fun _ _ _ _ _ => (pg_name (i := 6) scDd.nd rfl (Or.inl rfl))) (fun _ _ _ _ _ => pts_nil) (fun _ _ _ _ _ => (by exact (pe_callS DN.ok hr4 rfl DN.mgf DN.kp DN.b (fun σ => passAt_blkY σ) (pa_cons (pv 0) pa_nil))))) (pss_one (ps_ret (pe_tup (pa_cons (pv 4) (pa_cons (pv 3) (StX.pa_star (pv 5) pa_nil))))))))))))), ?_⟩
    have hsl := sizeLine_eq
    have hlen := hws.1
    rw [pDeed_eq] at k ke
    refine ⟨_, rfl, _, rfl, 8 - n, rfl, fun l H1 s1 _ hl => ?_⟩
    refine ⟨rd, wl, ws, a, b, l, fwS (8 - n), rfl, hrd.same s1, by omega, .inl (SqL.of hl), fun x hx hxf H2 kb2 hrd2 => ?_, fun hno e H2 s2 he => ?_⟩
    rotate_left
    · refine ke a ?_ e H2 (KB.of (s1.trans s2)) he
      unfold pDeed0
      cases hx : ws[a]? with
      | none => rfl
      | some x =>
        have := hno x hx
        rw [fw_iff h8, not_or] at this
        dsimp only
        rw [if_neg this.1, if_neg this.2]
    have kb02 := (KB.of s1).trans kb2
    have hlt := lt_len hx
    have hdr0 := dr_next hx
    have hne2 := hrd2.ne
    obtain ⟨⟨dx2, h21⟩, h22, h23⟩ := id hrd2
    refine ⟨_, rfl, rd, _, _, _, _, rfl, h21, TD.cl, TD.nB, rd_begun _ _ _, _, _, rfl, rfl, dx2, _, h21, (by show 3 < 1000; decide), ?_⟩
    have hrd3 : RdAt CD (upd H2 rd (.ins CD dx2 (putF "begun" (.int (((b : Nat) : Int) + 1)) (rdF wl (a + 1) b)))) rd wl ws (a + 1) (b + 1) := rd_bg hne2 h22 h23
    have kb03 : KB rd H (upd H2 rd (.ins CD dx2 (putF "begun" (.int (((b : Nat) : Int) + 1)) (rdF wl (a + 1) b)))) := kb02.trans KB.set
    revert hrd3 kb03
    generalize upd H2 rd (.ins CD dx2 (putF "begun" (.int (((b : Nat) : Int) + 1)) (rdF wl (a + 1) b))) = H3
    intro hrd3 kb03
    refine ⟨_, rfl, aLk, _, rfl, .inr (hLk H3), rfl, strV_flat _, _, rfl, ?_⟩
    rw [if_neg Bool.false_ne_true, inV_strV]
    by_cases hlk : x ∈ looksS
    · -- a look
      rw [decide_eq_true hlk]
      refine iteT ?_
      have hn0 : (n != 0) = true := ((fw_iff h8).mp hxf).elim (fun z => absurd z (let_look hlk)) (·.1)
      have hn1 : 1 ≤ n := by
        cases n with
        | zero => cases hn0
        | succ n => omega
      have hpd : pDeed0 (n != 0) (rowOf ws n) ws a = (tkW isLet ws (a + 1)).bind (pLook (rowOf ws n) ws (lkN x)) := by
        unfold pDeed0
        rw [hx]
        dsimp only
        rw [if_neg (let_look hlk), if_pos ⟨hn0, hlk⟩]
      rw [hpd] at k ke
      refine ⟨_, rfl, _, rfl, _, rfl, rd, wl, ws, a + 1, b + 1, x, rfl, hrd3, h8, hn1, hlk, by omega, by omega, hws, fun d a' hp hok hrw hkd hdp hdw hae h3m v H4 kb4 hrd4 hv => ?_, fun m hm e H4 kb4 he => ke m hm e H4 (kb03.trans kb4) he⟩
      have hwd := words_rows d hrw
      have hh : d.names.headD 0 = d.nm1 := by cases d <;> rfl
      have hmr := many_rows d
      rw [hh, hkd] at hwd
      refine k d a' hp hok hdp ?_ ?_ ?_ v H4 (kb03.trans kb4) ?_ hv
      · rw [hdr0, hdw, hwd]
        rfl
      · rw [hwd]
        simp only [List.length_append, List.length_cons, List.length_nil]
        omega
      · rw [hwd]
        simp only [List.length_append, List.length_cons, List.length_nil]
        omega
      · rw [hmr]
        have e2 : b + (manyL d.rows + 1) = b + 1 + manyL d.rows := by omega
        rw [e2]
        exact hrd4
    rw [decide_eq_false hlk]
    refine iteF ?_
    have hle : x ∈ letters := ((fw_iff h8).mp hxf).elim id (fun z => absurd z.2 hlk)
    have hpd : pDeed0 (n != 0) (rowOf ws n) ws a = (tkW (isS "=") ws (a + 1)).bind (pVal ws) := by
      unfold pDeed0
      rw [hx]
      dsimp only
      rw [if_pos hle]
    rw [hpd] at k ke
    obtain ⟨c, hc, rfl⟩ := let_of hle
    obtain ⟨rst, hix⟩ := let_ix c hc
    refine ⟨⟨_, rfl⟩, _, rfl, _, _, c, rst, rfl, rfl, hix, ?_⟩
    refine ⟨_, rfl, by show 1 ≤ sizeLine; decide, fun T nT => ?_⟩
    have sT := Same.new nT (o := .tup [V.str "="])
    have eT : (upd H3 T (.tup [V.str "="])) T = some (.tup [V.str "="]) := upd_same
    revert sT eT
    generalize upd H3 T (.tup [V.str "="]) = H4
    intro sT eT
    refine ⟨rd, wl, ws, a + 1, b + 1, T, [("=" : Str)], rfl, hrd3.same sT, by omega, .inr (SqT.of eT), fun x2 hx2 hm2 H5 kb5 hrd5 => ?_, fun hno e H5 s5 he => ?_⟩
    rotate_left
    · refine ke (a + 1) ?_ e H5 (kb03.trans (KB.of (sT.trans s5))) he
      rw [tkW_no (fun x hx => by unfold isS; exact decide_eq_false (fun z => hno x hx (List.mem_singleton.mpr z)))]
      rfl
    have hx2e := List.mem_singleton.mp hm2
    subst hx2e
    have hlt2 := lt_len hx2
    have hdr1 := dr_next hx2
    have kb05 := (kb03.trans (KB.of sT)).trans kb5
    rw [tkW_yes hx2 (isS_iff.mpr rfl)] at k ke
    replace k : ∀ d a', pVal ws (a + 1 + 1) = .ok a' → _ := k
    replace ke : ∀ m, pVal ws (a + 1 + 1) = .bad m → _ := ke
    refine ⟨_, rfl, rd, wl, ws, a + 1 + 1, b + 1, rfl, hrd5, ?_⟩
    by_cases htk : ∃ y, ws[a + 1 + 1]? = some y ∧ y ∈ takersS
    rotate_left
    · -- told
      have hf : flatV (wdV ws (a + 1 + 1)) = true ∧ inV (wdV ws (a + 1 + 1)) (strV takersS) = false := by
        cases e : ws[a + 1 + 1]? with
        | none =>
          rw [wdV_none e]
          exact ⟨rfl, inV_non _⟩
        | some x =>
          rw [wdV_some e]
          exact ⟨rfl, by rw [inV_strV]; exact decide_eq_false (fun z => htk ⟨x, e, z⟩)⟩
      refine ⟨aTk, _, rfl, .inr (hTk H5), hf.1, strV_flat _, _, rfl, ?_⟩
      rw [if_pos rfl, hf.2]
      refine iteT ?_
      refine ⟨_, rfl, _, rfl, rd, wl, ws, a + 1 + 1, b + 1, rfl, hrd5, by omega, fun x hx => hws.2 x (List.mem_of_getElem? hx), fun t ht hth htz y H6 kb6 hrd6 hyT => ⟨by show 3 ≤ sizeLine; decide, fun T2 nT2 => ?_⟩, fun hno e H6 s6 he => ?_⟩
      · have hv : pVal ws (a + 1 + 1) = .ok (a + 1 + 1 + 1) := by
          unfold pVal
          rw [ht]
          dsimp only
          rw [if_neg (text_ntk t), if_pos hth]
        have s7 := Same.new nT2 (o := .tup [V.str "told", V.int ((c : Nat) : Int), V.ref y])
        have e7 : (upd H6 T2 (.tup [V.str "told", V.int ((c : Nat) : Int), V.ref y])) T2 = some (.tup [V.str "told", V.int ((c : Nat) : Int), V.ref y]) := upd_same
        revert s7 e7
        generalize upd H6 T2 (.tup [V.str "told", V.int ((c : Nat) : Int), V.ref y]) = H7
        intro s7 e7
        have hrd7 := hrd6.same s7
        refine k (Dd.told c t) _ hv ⟨hc, htz⟩ (by rw [Dd.deep]; omega) ?_ rfl (by rw [many_told, words_told]; exact Nat.le_refl 3) (.ref T2) H7 ((kb05.trans kb6).trans (KB.of s7)) hrd7 ⟨T2, y, rfl, SqT.of (del_at e7 (rd_ne hrd7 e7)), hc, hyT.same (kb_del (KB.of s7)), htz⟩
        rw [hdr0, hdr1, dr_next ht, words_told]
        rfl
      · refine ke (a + 1 + 1) ?_ e H6 (kb05.trans (KB.of s6)) he
        unfold pVal
        cases e : ws[a + 1 + 1]? with
        | none => rfl
        | some y =>
          dsimp only
          rw [if_neg (fun z => htk ⟨y, e, z⟩), if_neg (by rw [hno y e]; decide)]
    obtain ⟨y, hy, hyt⟩ := htk
    rw [wdV_some hy]
    refine ⟨aTk, _, rfl, .inr (hTk H5), rfl, strV_flat _, _, rfl, ?_⟩
    rw [if_pos rfl, inV_strV, decide_eq_true hyt]
    refine iteF ?_
    refine ⟨_, rfl, rd, wl, ws, a + 1 + 1, b + 1, aTk, takersS, rfl, hrd5, by omega, .inr (hTk H5), fun y2 hy2 _ H6 kb6 hrd6 => ?_, fun hno => absurd hyt (hno y hy)⟩
    rw [hy] at hy2
    cases Option.some.inj hy2
    have hlt3 := lt_len hy
    have hdr2 := dr_next hy
    have kb06 := kb05.trans kb6
    have hv : pVal ws (a + 1 + 1) = pNames ws (tkN y) (a + 1 + 1 + 1) := by
      unfold pVal
      rw [hy]
      dsimp only
      rw [if_pos hyt]
    rw [hv] at k ke
    obtain ⟨fo, hfin, hcut, hfm, hn2⟩ := tk_form hyt
    obtain ⟨tkf, hkf⟩ := hk _ hfin
    dsimp only at hkf
    refine ⟨_, rfl, dF, _, .str fo, rfl, rfl, ⟨es, nF, _, kd.at_, kd.lit, hkf, ⟨_, rfl⟩⟩, _, rfl, fo, rfl, by omega, _, rfl, fun D nD => lc_it walk_str (fun i H' => ∃ ns : List Nat, ns.length = i ∧ (∀ m ∈ ns, m < 10) ∧ KB rd H6 H' ∧ H' D = some (.lst (namesV ns)) ∧ RdAt CD H' rd wl ws (a + 1 + 1 + 1 + i) (b + 1) ∧ ws.drop (a + 1 + 1 + 1) = ns.map letS ++ ws.drop (a + 1 + 1 + 1 + i) ∧ pNames ws (tkN y) (a + 1 + 1 + 1) = pNames ws (tkN y - i) (a + 1 + 1 + 1 + i) ∧ a + 1 + 1 + 1 + i ≤ ws.length) ⟨[], rfl, fun m hm => absurd hm List.not_mem_nil, KB.of (Same.new nD), upd_same, hrd6.same (Same.new nD), rfl, rfl, hlt3⟩ (fun _ _ _ _ => trivial) ?_ ?_⟩
    · rintro i y3 Hc Hc' hi ⟨ns, hnl, hns, kbc, hDc, hrdc, hdrc, hpn, hac⟩ ⟨rfl, cc, hcc, rfl⟩
      rw [hcut] at hi
      have hpn2 : pNames ws (tkN y) (a + 1 + 1 + 1) = (tkW isLet ws (a + 1 + 1 + 1 + i)).bind (pNames ws (tkN y - (i + 1))) := by
        rw [hpn, show tkN y - i = (tkN y - (i + 1)) + 1 by omega]
        rfl
      refine ⟨rfl, lc_yes ?_⟩
      refine ⟨_, rfl, rd, wl, ws, a + 1 + 1 + 1 + i, b + 1, rfl, hrdc, by omega, fun c1 hc1 hw1 H8 kb8 hrd8 => ?_, fun hno e H8 s8 he => ?_⟩
      rotate_left
      · refine ke (a + 1 + 1 + 1 + i) ?_ e H8 (kb06.trans (kbc.trans (KB.of s8))) he
        rw [hpn2, tkW_no (fun x hx => by unfold isLet; exact decide_eq_false (hno x hx))]
        rfl
      have hDr : D ≠ rd := rd_nl hrdc hDc
      have hD8 := kb8 _ _ hDr hDc
      refine ⟨_, hD8, by rw [namesV, List.length_map]; omega, ns ++ [c1], by rw [List.length_append, hnl]; rfl, fun m hm => ?_, fun z o' hz hz2 => ?_, ?_, ?_, ?_, ?_, ?_⟩
      · rcases List.mem_append.mp hm with hm | hm
        · exact hns m hm
        · rw [List.mem_singleton.mp hm]; exact hc1
      · rw [upd_ne (ne_of_none hz2 nD)]
        exact kb8 _ _ hz (kbc _ _ hz hz2)
      · rw [upd_same, namesV, namesV, List.map_append]
        rfl
      · obtain ⟨⟨dx8, h81⟩, h82, h83⟩ := hrd8
        refine ⟨⟨dx8, ?_⟩, ?_, h83⟩
        · rw [upd_ne hDr.symm]
          exact h81
        · have hwD : wl ≠ D := fun z => by
            obtain ⟨_, q2, _⟩ := hrd6
            rw [z, nD] at q2
            cases q2
          rw [upd_ne hwD]
          exact h82
      · rw [hdrc, dr_next hw1, List.map_append, List.append_assoc]
        rfl
      · rw [hpn2, tkW_yes hw1 (isLet_iff.mpr (let_mem c1 hc1))]
        rfl
      · exact lt_len hw1
    · rintro H9 ⟨ns, hnl, hns, kb9, hD9, hrd9, hdr9, hpn9, ha9⟩
      rw [hcut] at hnl hrd9 hdr9 hpn9 ha9
      rw [Nat.sub_self] at hpn9
      obtain ⟨d, hdok, hddp, hdw, hdm, hdA⟩ := tk_deed (K := K) (C := C) hyt hc hnl hns
      refine ⟨_, rfl, _, rfl, _, rfl, D, _, rfl, .inr (SqL.of hD9), by rw [List.append_nil, List.length_cons, List.length_cons, namesV, List.length_map]; omega, fun T2 nT2 => ?_⟩
      rw [List.append_nil]
      have s10 := Same.new nT2 (o := .tup (V.str y :: V.int ((c : Nat) : Int) :: namesV ns))
      have e10 : (upd H9 T2 (.tup (V.str y :: V.int ((c : Nat) : Int) :: namesV ns))) T2 = some (.tup (V.str y :: V.int ((c : Nat) : Int) :: namesV ns)) := upd_same
      revert s10 e10
      generalize upd H9 T2 (.tup (V.str y :: V.int ((c : Nat) : Int) :: namesV ns)) = H10
      intro s10 e10
      have hrd10 := hrd9.same s10
      refine k d _ hpn9 hdok (by omega) ?_ ?_ ?_ (.ref T2) H10 ((kb06.trans kb9).trans (KB.of s10)) ?_ (hdA _ _ (SqT.of (del_at e10 (rd_ne hrd10 e10))))
      · rw [hdr0, hdr1, hdr2, hdr9, hdw]
        rfl
      · rw [hdw, List.length_cons, List.length_cons, List.length_cons, List.length_map, hnl]
        omega
      · rw [hdm, hdw, List.length_cons, List.length_cons, List.length_cons]
        omega
      · rw [hdm]
        exact hrd10
end
end Js
set_option Elab.async false
set_option linter.all false
set_option maxRecDepth 100000
set_option maxHeartbeats 4000000
namespace Js
open PySem L2
open PySem.Spec PyProof.Rows
theorem wordsL_app7 (rs : List (List Dd)) (r : List Dd) : wordsL (rs ++ [r]) = wordsL rs ++ (("[" : Str) :: (wordsR r ++ [("]" : Str)])) := by
  unfold wordsL
  rw [List.flatMap_append, List.flatMap_cons, List.flatMap_nil, List.append_nil]
theorem deepL_snoc : ∀ (rs : List (List Dd)) (r : List Dd), deepL (rs ++ [r]) = max (deepL rs) (deepR r)
  | [], r => by simp [deepL]
  | x :: rs, r => by rw [List.cons_append, deepL, deepL_snoc rs r, deepL, Nat.max_assoc]
theorem lk_deed {kk : Str} (h : kk ∈ looksS) {c : Nat} (hc : c < 10) {rs : List (List Dd)} (hl : rs.length = lkN kk) (hok : ∀ r ∈ rs, okR r) : ∃ d : Dd, d.ok ∧ d.rows = rs ∧ d.nm1 = c ∧ kindOf d = kk ∧ d.rows ≠ [] := by
  obtain ⟨e1, e2⟩ := lkN_1
  rcases look_two h with rfl | rfl
  · rw [e1] at hl
    obtain ⟨r, rfl⟩ := List.length_eq_one_iff.mp hl
    exact ⟨.wh c r, ⟨hc, hok r (by simp)⟩, rfl, rfl, rfl, by simp [Dd.rows]⟩
  · rw [e2] at hl
    match rs, hl, hok with
    | [r, o], _, hok => exact ⟨.iff c r o, ⟨hc, hok r (by simp), hok o (by simp)⟩, rfl, rfl, rfl, by simp [Dd.rows]⟩
theorem lk_form {kk : Str} (h : kk ∈ looksS) : ∃ fo, (kk, fo) ∈ forms ∧ (cutS fo (some 1) none).cps.size = lkN kk ∧ fo.length ≤ 3 ∧ lkN kk ≤ 2 := by
  obtain ⟨e1, e2⟩ := lkN_1
  rcases look_two h with rfl | rfl
  · exact ⟨"nr", by simp [forms], by rw [e1]; decide +kernel, by decide +kernel, by rw [e1]; decide⟩
  · exact ⟨"nrr", by simp [forms], by rw [e2]; decide +kernel, by decide +kernel, by rw [e2]; decide⟩
section
variable {P : Program} {w : World} {K : PySem.W.Frag} {mg : Str → Option Value} {base : Heap} {C CD N fT fNm : Addr} {fdT fdNm : FuncData}
theorem ok_rdLH {f fR : Addr} {fd fdR : FuncData} {n : Nat} (F : Fun K "read_look" "read_look" sRdL f fd) (R : RdC K mg) (G : FrmC K w mg) (DT : DefH P w K mg base "take" 3 ["reader", "right"] (spTkH K CD N) fT fdT) (DN : DefH P w K mg base "read_name" 4 ["reader"] (spRdNH CD N) fNm fdNm)
    (GR : FnOk P w K mg base (L2.CX P w) (3 * n + 8) fR fdR ["reader", "floors"] (spRdRH K C CD N n)) (mgr : mg "read_row" = some (.ref fR)) (kr : PySem.W.keepIn K (.ref fR) = true) (br : Binds K fdR ["reader", "floors"] []) : FnOk P w K mg base (L2.CX P w) (3 * (n + 1) + 6) f fd ["reader", "kind", "floors"] (spRdLH K C CD N (n + 1)) := by
  obtain ⟨dF, es, nF, mF, kd, hk⟩ := G.ex
  refine F.okX scLo2 (fun vs H Q E h => ?_) (fun cdv A outer s H vs Q E hr h => ?_)
  · obtain ⟨rd, wl, ws, a, b, kk, rfl, _⟩ := h
    rfl
  · obtain ⟨rd, wl, ws, a, b, kk, rfl, hrd, h8, h1, hlk, h3b, hal, hws, k, ke⟩ := h
    have hr3 : Room 3 _ := hr.mono (by omega)
    have hr4 : Room 4 _ := hr.mono (by omega)
    refine ⟨_, pss_cons (ps_set (i := 3) scLo2.nd rfl (Or.inl rfl) (pe_callS DN.ok hr4 rfl DN.mgf DN.kp DN.b (fun σ => L2.passAt (L2.takes_of rfl rfl rfl rfl) σ) (pa_cons (pv 0) pa_nil))) (pss_cons (ps_set (i := 4) scLo2.nd rfl (Or.inl rfl) (pe_lst pa_nil)) (pss_cons (ps_for (passes_of rfl) rfl (pi_str (pe_slice sl_str (pe_ix (r := rIxD K w) ix_kdict (pe_glob (v := .ref dF) rfl mF rfl) (pv 1) (fun _ _ => rfl)) (po_some pe_int) po_none)) (pg_name (i := 5) scLo2.nd rfl (Or.inl rfl)) (pss_cons (ps_expr (pe_callS DT.ok hr3 rfl DT.mgf DT.kp DT.b (fun σ => L2.passAt (L2.takes_of rfl rfl rfl rfl) σ) (pa_cons (pv 0) (pa_cons (pe_tup (pa_cons pe_str pa_nil)) pa_nil)))) (pss_cons (ps_expr (pe_bm PySem.F.plainAttrs_list PySem.F.slot_list_append PySem.F.type_list_append mt_append (pv 4) (pa_cons (pe_callS GR hr rfl mgr kr br (fun σ => L2.passAt (L2.takes_of rfl rfl rfl rfl) σ) (pa_cons (pv 0) (pa_cons (pe_op op_add (pv 2) pe_int) pa_nil))) pa_nil))) (pss_one (ps_expr (pe_callS DT.ok hr3 rfl DT.mgf DT.kp DT.b (fun σ => L2.passAt (L2.takes_of rfl rfl rfl rfl) σ) (pa_cons (pv 0) (pa_cons (pe_tup (pa_cons pe_str pa_nil)) pa_nil)))))))) (pss_one (ps_ret (pe_tup (pa_cons (pv 1) (pa_cons (pv 3) (StX.pa_star (pv 4) pa_nil)))))))), ?_⟩
    have hsl := sizeLine_eq
    have hlen := hws.1
    obtain ⟨fo, hfin, hcut, hfm, hn2⟩ := lk_form hlk
    obtain ⟨tkf, hkf⟩ := hk _ hfin
    dsimp only at hkf
    refine ⟨_, rfl, rd, wl, ws, a, b, rfl, hrd, by omega, fun c hc hw0 H1 kb1 hrd1 => ?_, fun hno e H1 s1 he => ?_⟩
    rotate_left
    · refine ke a ?_ e H1 (KB.of s1) he
      rw [tkW_no (fun x hx => by unfold isLet; exact decide_eq_false (hno x hx))]
      rfl
    have hlt := lt_len hw0
    have hdr0 := dr_next hw0
    rw [tkW_yes hw0 (isLet_iff.mpr (let_mem c hc))] at k ke
    replace k : ∀ d a', pLook (rowOf ws (n + 1)) ws (lkN kk) (a + 1) = .ok a' → _ := k
    replace ke : ∀ m, pLook (rowOf ws (n + 1)) ws (lkN kk) (a + 1) = .bad m → _ := ke
    refine ⟨Nat.zero_le _, fun L nL => ?_⟩
    have sL := Same.new nL (o := .lst [])
    have eL : (upd H1 L (.lst [])) L = some (.lst []) := upd_same
    have hLw : wl ≠ L := fun z => by
      obtain ⟨_, q2, _⟩ := hrd1
      rw [z, nL] at q2
      cases q2
    have hLr : L ≠ rd := fun z => by
      obtain ⟨⟨dx, q1⟩, _⟩ := hrd1
      rw [z, q1] at nL
      cases nL
    have nLH : ∀ o, H L = some o → False := fun o ho => by
      have := kb1 _ _ hLr ho
      rw [nL] at this
      cases this
    revert sL eL
    generalize upd H1 L (.lst []) = H2
    intro sL eL
    refine ⟨_, rfl, dF, _, .str fo, rfl, rfl, ⟨es, nF, _, kd.at_, kd.lit, hkf, ⟨_, rfl⟩⟩, _, rfl, fo, rfl, by omega, _, rfl, for_it walk_str (fun i σ H' => ∃ (x5 : Option V) (us : List V) (rs : List (List Dd)) (at0 : Nat), σ = [some (.ref rd), some (.str kk), some (.int ((8 - (n + 1) : Nat) : Int)), some (.int ((c : Nat) : Int)), some (.ref L), x5] ∧ rs.length = i ∧ KB rd H H' ∧ H' L = some (.lst us) ∧ Paired (RwP K C (del H' rd)) us rs ∧ RdAt CD H' rd wl ws at0 (b + manyL rs) ∧ at0 ≤ ws.length ∧ ws.drop (a + 1) = wordsL rs ++ ws.drop at0 ∧ at0 = a + 1 + (wordsL rs).length ∧ 3 * manyL rs + 2 * i ≤ (wordsL rs).length ∧ (∀ r ∈ rs, okR r) ∧ deepL rs ≤ n ∧ pLook (rowOf ws (n + 1)) ws (lkN kk) (a + 1) = pLook (rowOf ws (n + 1)) ws (lkN kk - i) at0) ⟨none, [], [], a + 1, rfl, rfl, kb1.trans (KB.of sL), eL, .nil, hrd1.same sL, hlt, rfl, rfl, Nat.zero_le _, fun r h => absurd h List.not_mem_nil, by rw [deepL]; omega, rfl⟩ (fun _ _ _ _ _ => trivial) ?_ ?_⟩
    · rintro i y σ Hx H3 hi ⟨x5, us, rs, at0, rfl, hrl, kb3, hL3, hus, hrd3, hat, hdr3, hae, h3m, hokr, hdl, hpl⟩ ⟨rfl, cc, hcc, rfl⟩
      rw [hcut] at hi
      have hul := Paired.length hus
      obtain ⟨bg0, hbg0⟩ : ∃ bg0, b + manyL rs = bg0 := ⟨_, rfl⟩
      rw [hbg0] at hrd3
      have hpl2 : pLook (rowOf ws (n + 1)) ws (lkN kk) (a + 1) = (tkW (isS "[") ws at0).bind fun a1 => (pRowN ws n a1).bind fun a2 => (tkW (isS "]") ws a2).bind fun a3 => pLook (rowOf ws (n + 1)) ws (lkN kk - (i + 1)) a3 := by
        rw [hpl, show lkN kk - i = (lkN kk - (i + 1)) + 1 by omega]
        rfl
      dsimp only [gName]
      refine ⟨_, rfl, by show 1 ≤ sizeLine; decide, fun T1 nT1 => ?_⟩
      have s5 := Same.new nT1 (o := .tup [V.str "["])
      have e5 : (upd H3 T1 (.tup [V.str "["])) T1 = some (.tup [V.str "["]) := upd_same
      revert s5 e5
      generalize upd H3 T1 (.tup [V.str "["]) = H5
      intro s5 e5
      refine ⟨rd, wl, ws, at0, bg0, T1, [("[" : Str)], rfl, hrd3.same s5, by omega, .inr (SqT.of e5), fun x hx hm H6 kb6 hrd6 => ?_, fun hno e H6 s6 he => ?_⟩
      rotate_left
      · refine ke at0 ?_ e H6 (kb3.trans (KB.of (s5.trans s6))) he
        rw [hpl2, tkW_no (fun x hx => by unfold isS; exact decide_eq_false (fun z => hno x hx (List.mem_singleton.mpr z)))]
        rfl
      have hxe := List.mem_singleton.mp hm
      subst hxe
      have hlt6 := lt_len hx
      have hdr6 := dr_next hx
      have kb36 := (KB.of s5).trans kb6
      have hL6 := kb36 _ _ hLr hL3
      rw [tkW_yes hx (isS_iff.mpr rfl)] at hpl2
      refine ⟨_, rfl, .inl ⟨rfl, _, SqL.of hL6⟩, ?_⟩
      refine ⟨_, rfl, _, rfl, _, _, rfl, rfl, rd, wl, ws, at0 + 1, bg0, congrArg (fun z => [V.ref rd, V.int z]) (show ((8 - (n + 1) : Nat) : Int) + 1 = ((8 - n : Nat) : Int) by omega), hrd6, by omega, by omega, hlt6, hws, fun r a2 hp2 hor hdr hdw2 hae2 h3r q H7 kb7 hrd7 hq => ?_, fun m hm e H7 kb7 he => ?_⟩
      rotate_left
      · refine ke m ?_ e H7 ((kb3.trans kb36).trans kb7) he
        rw [hpl2]
        show ((pRowN ws n (at0 + 1)).bind _) = _
        rw [hm]
        rfl
      have ha2 : a2 ≤ ws.length := by
        have := congrArg List.length hdw2
        rw [List.length_append, List.length_drop, List.length_drop] at this
        omega
      have kb37 := kb36.trans kb7
      have hL7 := kb7 _ _ hLr hL6
      refine ⟨L, _, _, rfl, rfl, hL7, by omega, ?_⟩
      have hL8 : (upd H7 L (.lst (us ++ [V.ref q]))) L = some (.lst (us ++ [V.ref q])) := upd_same
      have hrd8 : RdAt CD (upd H7 L (.lst (us ++ [V.ref q]))) rd wl ws a2 (bg0 + manyR r) := by
        obtain ⟨⟨dx, q1⟩, q2, q3⟩ := hrd7
        exact ⟨⟨dx, by rw [upd_ne hLr.symm]; exact q1⟩, by rw [upd_ne hLw]; exact q2, q3⟩
      have kt8 : KT (del H7 rd) (del (upd H7 L (.lst (us ++ [V.ref q]))) rd) := fun x o hx hno => by
        by_cases ex : x = rd
        · rw [ex, del, if_pos rfl] at hx
          cases hx
        · rw [del_ne ex] at hx ⊢
          rw [upd_ne (fun z => by rw [z, hL7] at hx; cases hx; exact hno _ rfl)]
          exact hx
      have kb08 : KB rd H (upd H7 L (.lst (us ++ [V.ref q]))) := fun x o hx ho => by
        rw [upd_ne (fun z => by rw [z] at ho; exact nLH _ ho)]
        exact kb37 _ _ hx (kb3 _ _ hx ho)
      have hus8 : Paired (RwP K C (del (upd H7 L (.lst (us ++ [V.ref q]))) rd)) (us ++ [V.ref q]) (rs ++ [r]) := paired_app (rwps_kt kt8 (rwps_same (kb_del kb37) hus)) (.cons ⟨q, rfl, hq.kt kt8⟩ .nil)
      revert hL8 hrd8 kb08 hus8
      generalize upd H7 L (.lst (us ++ [V.ref q])) = H8
      intro hL8 hrd8 kb08 hus8
      refine ⟨_, rfl, by show 1 ≤ sizeLine; decide, fun T2 nT2 => ?_⟩
      have s9 := Same.new nT2 (o := .tup [V.str "]"])
      have e9 : (upd H8 T2 (.tup [V.str "]"])) T2 = some (.tup [V.str "]"]) := upd_same
      revert s9 e9
      generalize upd H8 T2 (.tup [V.str "]"]) = H9
      intro s9 e9
      replace hpl2 : pLook (rowOf ws (n + 1)) ws (lkN kk) (a + 1) = (tkW (isS "]") ws a2).bind fun a3 => pLook (rowOf ws (n + 1)) ws (lkN kk - (i + 1)) a3 := by
        rw [hpl2]
        show ((pRowN ws n (at0 + 1)).bind _) = _
        rw [hp2]
        rfl
      refine ⟨rd, wl, ws, a2, bg0 + manyR r, T2, [("]" : Str)], rfl, hrd8.same s9, by omega, .inr (SqT.of e9), fun x9 hx9 hm9 H10 kb10 hrd10 => ?_, fun hno e H10 s10 he => ?_⟩
      rotate_left
      · refine ke a2 ?_ e H10 (kb08.trans (KB.of (s9.trans s10))) he
        rw [hpl2, tkW_no (fun x hx => by unfold isS; exact decide_eq_false (fun z => hno x hx (List.mem_singleton.mpr z)))]
        rfl
      have hxe9 := List.mem_singleton.mp hm9
      subst hxe9
      rw [tkW_yes hx9 (isS_iff.mpr rfl)] at hpl2
      have kb810 := (KB.of s9).trans kb10
      have hwl : (wordsL (rs ++ [r])).length = (wordsL rs).length + (wordsR r).length + 2 := by
        rw [wordsL_app7, List.length_append, List.length_cons, List.length_append]
        simp only [List.length_cons, List.length_nil]
        omega
      refine ⟨_, us ++ [V.ref q], rs ++ [r], a2 + 1, rfl, by rw [List.length_append, hrl]; rfl, kb08.trans kb810, kb810 _ _ hLr hL8, rwps_same (kb_del kb810) hus8, ?_, lt_len hx9, ?_, ?_, ?_, ?_, ?_, hpl2⟩
      · rw [manyL_app, manyL_one, ← Nat.add_assoc, hbg0]
        exact hrd10
      · rw [hdr3, hdr6, hdw2, dr_next hx9, wordsL_app7]
        simp
      · rw [hwl]
        omega
      · rw [hwl, manyL_app, manyL_one]
        omega
      · intro r' hr'
        rcases List.mem_append.mp hr' with h | h
        · exact hokr r' h
        · rw [List.mem_singleton.mp h]
          exact hor
      · rw [deepL_snoc]
        exact Nat.max_le.mpr ⟨hdl, hdr⟩
    · rintro σ H3 ⟨x5, us, rs, at0, rfl, hrl, kb3, hL3, hus, hrd3, hat, hdr3, hae, h3m, hokr, hdl, hpl⟩
      rw [hcut] at hrl h3m hpl
      rw [Nat.sub_self] at hpl
      obtain ⟨d, hdok, hdr, hdn, hdk, hdne⟩ := lk_deed hlk hc hrl hokr
      have hul := Paired.length hus
      have hkn : 1 ≤ lkN kk := by
        obtain ⟨e1, e2⟩ := lkN_1
        rcases look_two hlk with rfl | rfl
        · rw [e1]; exact Nat.le_refl _
        · rw [e2]; decide
      subst hdr hdn hdk
      refine ⟨_, rfl, _, rfl, _, rfl, L, _, rfl, .inr (SqL.of hL3), by rw [List.append_nil, List.length_cons, List.length_cons]; omega, fun T2 nT2 => ?_⟩
      rw [List.append_nil]
      have s10 := Same.new nT2 (o := .tup (V.str (kindOf d) :: V.int ((d.nm1 : Nat) : Int) :: us))
      have e10 : (upd H3 T2 (.tup (V.str (kindOf d) :: V.int ((d.nm1 : Nat) : Int) :: us))) T2 = some (.tup (V.str (kindOf d) :: V.int ((d.nm1 : Nat) : Int) :: us)) := upd_same
      revert s10 e10
      generalize upd H3 T2 (.tup (V.str (kindOf d) :: V.int ((d.nm1 : Nat) : Int) :: us)) = H10
      intro s10 e10
      have hrd10 := hrd3.same s10
      have hdd := deep_rows d hdne
      refine k d at0 hpl hdok hdne rfl (by omega) ?_ hae (by omega) (.ref T2) H10 (kb3.trans (KB.of s10)) hrd10 (look_at d hdne hdok (rwps_same (kb_del (KB.of s10)) hus) (SqT.of (del_at e10 (rd_ne hrd10 e10))))
      rw [hdr0, hdr3]
end
end Js
set_option Elab.async false
set_option linter.all false
set_option maxRecDepth 100000
set_option maxHeartbeats 4000000
namespace Js
open PySem L2
open PySem.Spec PyProof.Rows
theorem wordsR_snoc7 : ∀ {ds : List Dd} (d : Dd), ds ≠ [] → wordsR (ds ++ [d]) = wordsR ds ++ ((";" : Str) :: d.words)
  | x :: ds, d, _ => by
    unfold wordsR
    rw [wordsT_app, wordsT_one, wordsT]
    rfl
theorem deepR_snoc : ∀ (rs : List Dd) (r : Dd), deepR (rs ++ [r]) = max (deepR rs) r.deep
  | [], r => by simp [deepR]
  | x :: rs, r => by rw [List.cons_append, deepR, deepR_snoc rs r, deepR, Nat.max_assoc]
theorem okR_snoc : ∀ {rs : List Dd} {r : Dd}, okR rs → r.ok → okR (rs ++ [r])
  | [], r, _, h => ⟨h, trivial⟩
  | x :: rs, r, h, h2 => ⟨h.1, okR_snoc h.2 h2⟩
theorem pMore_go {dd : Nat → Rs} {ws : List Str} {f a : Nat} (h : ws[a]? = some ";") (hf : ws.length ≤ f + a) : pMore dd ws f a = (dd (a + 1)).bind (pMore dd ws (f - 1)) := by
  have := lt_len h
  cases f with
  | zero => omega
  | succ f =>
    rw [pMore, if_pos h]
    rfl
theorem pMore_end {dd : Nat → Rs} {ws : List Str} {f a : Nat} (h : ¬ ws[a]? = some ";") : pMore dd ws f a = .ok a := by
  cases f with
  | zero => rfl
  | succ f => rw [pMore, if_neg h]
section
variable {P : Program} {w : World} {K : PySem.W.Frag} {mg : Str → Option Value} {base : Heap} {C CD N fT fNm fTd fRw fDd fLk : Addr} {fdT fdNm fdTd fdRw fdDd fdLk : FuncData}
theorem ok_rdRH {f fE : Addr} {fd fdE : FuncData} {n : Nat} (F : Fun K "read_row" "read_row" sRdR f fd) (R : RdC K mg) (G : FrmC K w mg) (TD : TxtD K mg CD) (DA : Def P w K mg base "ahead" 1 ["reader"] (spAhead CD)) (DF : Def P w K mg base "first_words" 1 ["floors"] spFw)
    (GD : FnOk P w K mg base (L2.CX P w) (3 * n + 7) fE fdE ["reader", "floors"] (spRdDH K C CD N n)) (mgd : mg "read_deed" = some (.ref fE)) (kd : PySem.W.keepIn K (.ref fE) = true) (bd : Binds K fdE ["reader", "floors"] []) : FnOk P w K mg base (L2.CX P w) (3 * n + 8) f fd ["reader", "floors"] (spRdRH K C CD N n) := by
  obtain ⟨tD, mD⟩ := G.mD
  refine F.okX scRw (fun vs H Q E h => ?_) (fun cdv A outer s H vs Q E hr h => ?_)
  · obtain ⟨rd, wl, ws, a, b, rfl, _⟩ := h
    rfl
  · obtain ⟨rd, wl, ws, a, b, rfl, hrd, h8, h3b, hal, hws, k, ke⟩ := h
    have hr1 : Room 1 _ := hr.mono (by omega)
    refine ⟨_, pss_cons (ps_if (PW.pt (pw_or (pt_cmpR op_eq (pe_fld (pv 0) rfl) (pe_glob (v := .int 4000) rfl mD ⟨_, rfl⟩) (nomark _)) (pw_or1 (pt_cmpR op_notIn_seq (pe_def DA hr1 rfl (pa_cons (pv 0) pa_nil)) (pe_def DF hr1 rfl (pa_cons (pv 1) pa_nil)) rfl)))) (pss_one (ps_ret (pe_tup pa_nil))) pss_nil) (pss_cons (ps_set (i := 2) scRw.nd rfl (Or.inl rfl) (pe_lst (pa_cons (pe_callS GD hr rfl mgd kd bd (fun σ => L2.passAt (L2.takes_of rfl rfl rfl rfl) σ) (pa_cons (pv 0) (pa_cons (pv 1) pa_nil))) pa_nil))) (pss_cons (ps_while (passes_of rfl) (PW.pt (pw_and (pt_cmpR op_eq (pe_def DA hr1 rfl (pa_cons (pv 0) pa_nil)) pe_str (nomark _)) (pw_and1 (pt_cmpR op_lt (pe_fld (pv 0) rfl) (pe_glob (v := .int 4000) rfl mD ⟨_, rfl⟩) (nomark _))))) (pss_cons (ps_fldaug (pv 0) pe_int in_add) (pss_one (ps_expr (pe_bm PySem.F.plainAttrs_list PySem.F.slot_list_append PySem.F.type_list_append mt_append (pv 2) (pa_cons (pe_callS GD hr rfl mgd kd bd (fun σ => L2.passAt (L2.takes_of rfl rfl rfl rfl) σ) (pa_cons (pv 0) (pa_cons (pv 1) pa_nil))) pa_nil)))))) (pss_one (ps_ret (pe_callTy call_tuple_of (by rfl) G.mt PyProof.Rows.boot_tuple (pa_cons (pv 2) pa_nil)))))), ?_⟩
    have hsl := sizeLine_eq
    have hlen := hws.1
    obtain ⟨⟨dx, h1⟩, h2, h3⟩ := id hrd
    refine ⟨_, rfl, _, _, _, _, _, rfl, h1, TD.cl, TD.nB, rd_begun _ _ _, rfl, _, rfl, ?_⟩
    rw [decide_eq_false (show ¬ V.int ((b : Nat) : Int) = V.int 4000 from fun z => by have := V.int.inj z; omega)]
    refine iteF ?_
    by_cases hfw : ∃ x, ws[a]? = some x ∧ x ∈ fwS (8 - n)
    rotate_left
    · have hf : flatV (wdV ws a) = true ∧ inV (wdV ws a) (strV (fwS (8 - n))) = false := by
        cases e : ws[a]? with
        | none =>
          rw [wdV_none e]
          exact ⟨rfl, inV_non _⟩
        | some x =>
          rw [wdV_some e]
          exact ⟨rfl, by rw [inV_strV]; exact decide_eq_false (fun z => hfw ⟨x, e, z⟩)⟩
      have hp : pRowN ws n a = .ok a := by
        unfold pRowN pRow
        cases e : ws[a]? with
        | none => rfl
        | some x =>
          dsimp only
          rw [if_neg (fun z => hfw ⟨x, e, z⟩)]
      refine ⟨_, rfl, rd, wl, ws, a, b, rfl, hrd, _, rfl, 8 - n, rfl, fun l H1 s1 _ hl => ⟨l, _, rfl, .inl (SqL.of hl), hf.1, strV_flat _, _, rfl, ?_⟩⟩
      rw [if_pos rfl, hf.2]
      refine iteT ⟨Nat.zero_le _, fun T nT => ?_⟩
      have sT := s1.trans (Same.new nT (o := .tup []))
      have hrd1 := hrd.same sT
      have e0 : wordsR [] = [] := rfl
      exact k [] a hp trivial (by rw [deepR]; omega) (by rw [e0]; rfl) (by rw [e0]; rfl) (by rw [e0, many_nil]; exact Nat.le_refl _) T _ (KB.of sT) hrd1 ⟨[], SqT.of (del_at upd_same (rd_ne hrd1 upd_same)), rfl⟩
    obtain ⟨x, hx, hxf⟩ := hfw
    have hp0 : pRowN ws n a = (pDeed ws n a).bind (pMore (pDeed ws n) ws ws.length) := by
      unfold pRowN pRow
      rw [hx]
      dsimp only
      rw [if_pos hxf]
    refine ⟨_, rfl, rd, wl, ws, a, b, rfl, hrd, _, rfl, 8 - n, rfl, fun l H1 s1 _ hl => ?_⟩
    rw [wdV_some hx]
    refine ⟨l, _, rfl, .inl (SqL.of hl), rfl, strV_flat _, _, rfl, ?_⟩
    rw [if_pos rfl, inV_strV, decide_eq_true hxf]
    refine iteF ?_
    refine ⟨_, rfl, _, rfl, rd, wl, ws, a, b, rfl, hrd.same s1, h8, h3b, hal, hws, fun d a1 hp1 hdok hddp hdw hdae hd3 v H2 kb2 hrd2 hv => ⟨by show 1 ≤ sizeLine; decide, fun L nL => ?_⟩, fun m hm e H2 kb2 he => ?_⟩
    rotate_left
    · refine ke m ?_ e H2 ((KB.of s1).trans kb2) he
      rw [hp0, hm]
      rfl
    have sL := Same.new nL (o := .lst [v])
    have eL : (upd H2 L (.lst [v])) L = some (.lst [v]) := upd_same
    have hLw : wl ≠ L := fun z => by
      obtain ⟨_, q2, _⟩ := hrd2
      rw [z, nL] at q2
      cases q2
    have hLr : L ≠ rd := fun z => by
      obtain ⟨⟨dx, q1⟩, _⟩ := hrd2
      rw [z, q1] at nL
      cases nL
    have kb02 := (KB.of s1).trans kb2
    have nLH : ∀ o, H L = some o → False := fun o ho => by
      have := kb02 _ _ hLr ho
      rw [nL] at this
      cases this
    revert sL eL
    generalize upd H2 L (.lst [v]) = H3
    intro sL eL
    have w1 : wordsR [d] = d.words := by
      unfold wordsR
      rw [wordsT_one]
      rfl
    have m1 : manyR [d] = d.many := by rw [many_cons, many_nil, Nat.add_zero]
    have hp0' : pRowN ws n a = pMore (pDeed ws n) ws ws.length a1 := by
      rw [hp0, hp1]
      rfl
    refine ⟨fun m σ H' => ∃ (us : List V) (ds : List Dd) (at0 f : Nat), σ = [some (.ref rd), some (.int ((8 - n : Nat) : Int)), some (.ref L)] ∧ KB rd H H' ∧ H' L = some (.lst us) ∧ DsAt K C (del H' rd) us ds ∧ ds ≠ [] ∧ RdAt CD H' rd wl ws at0 (b + manyR ds) ∧ okR ds ∧ deepR ds ≤ n ∧ ws.drop a = wordsR ds ++ ws.drop at0 ∧ at0 = a + (wordsR ds).length ∧ at0 ≤ ws.length ∧ 3 * manyR ds ≤ (wordsR ds).length ∧ pRowN ws n a = pMore (pDeed ws n) ws f at0 ∧ ws.length ≤ f + at0 ∧ ws.length - at0 = m,
      ⟨_, [v], [d], a1, ws.length, rfl, kb02.trans (KB.of sL), eL, ⟨v, [], rfl, DAt_kt (KT.of (kb_del (KB.of sL))) d v hv, rfl⟩, by simp, by rw [m1]; exact hrd2.same sL, ⟨hdok, trivial⟩, by simpa [deepR] using hddp, by rw [w1]; exact hdw, by rw [w1]; exact hdae, ?_, by rw [m1, w1]; exact hd3, hp0', by omega, rfl⟩, ?_⟩
    · have := congrArg List.length hdw
      rw [List.length_append, List.length_drop, List.length_drop] at this
      omega
    rintro m σ H4 ⟨us, ds, at0, f, rfl, kb4, hL4, hus, hdne, hrd4, hdok4, hdd4, hdw4, hae4, hal4, hd34, hp4, hf4, rfl⟩
    obtain ⟨bg0, hbg0⟩ : ∃ bg0, b + manyR ds = bg0 := ⟨_, rfl⟩
    rw [hbg0] at hrd4
    have hul := DsAt.length _ us hus
    by_cases hsc : ws[at0]? = some ";"
    · have hlt := lt_len hsc
      have hp5 := pMore_go (dd := pDeed ws n) hsc hf4
      refine ⟨_, rfl, rd, wl, ws, at0, bg0, rfl, hrd4, ?_⟩
      rw [wdV_some hsc]
      refine ⟨rfl, _, rfl, ?_⟩
      rw [decide_eq_true rfl]
      refine iteT ?_
      have hne4 := hrd4.ne
      obtain ⟨⟨dx4, h41⟩, h42, h43⟩ := id hrd4
      refine ⟨_, rfl, _, _, _, _, _, rfl, h41, TD.cl, TD.nB, rd_begun _ _ _, _, _, rfl, rfl, _, rfl, ?_⟩
      rw [decide_eq_true (show ((bg0 : Nat) : Int) < 4000 by omega)]
      refine iteT ⟨fun σ' H5 => ∃ m', m' < ws.length - at0 ∧ _, fun σ' H5 z => z, ?_⟩
      refine ⟨_, rfl, rd, _, _, _, _, rfl, h41, TD.cl, TD.nA, rd_at _ _ _, _, _, rfl, rfl, dx4, _, h41, (by show 3 < 1000; decide), ?_⟩
      have hrd5 : RdAt CD (upd H4 rd (.ins CD dx4 (putF "at" (.int (((at0 : Nat) : Int) + 1)) (rdF wl at0 bg0)))) rd wl ws (at0 + 1) bg0 := rd_on hne4 h42 h43
      have kb45 : KB rd H4 (upd H4 rd (.ins CD dx4 (putF "at" (.int (((at0 : Nat) : Int) + 1)) (rdF wl at0 bg0)))) := KB.set
      revert hrd5 kb45
      generalize upd H4 rd (.ins CD dx4 (putF "at" (.int (((at0 : Nat) : Int) + 1)) (rdF wl at0 bg0))) = H5
      intro hrd5 kb45
      have hL5 := kb45 _ _ hLr hL4
      refine ⟨_, rfl, .inl ⟨rfl, _, SqL.of hL5⟩, ?_⟩
      refine ⟨_, rfl, _, rfl, rd, wl, ws, at0 + 1, bg0, rfl, hrd5, h8, by omega, hlt, hws, fun e a6 hp6 heok hedp hew heae he3 v6 H6 kb6 hrd6 hv6 => ?_, fun m hm e H6 kb6 he => ?_⟩
      rotate_left
      · refine ke m ?_ e H6 ((kb4.trans kb45).trans kb6) he
        rw [hp4, hp5, hm]
        rfl
      have kb46 := kb45.trans kb6
      have hL6 := kb6 _ _ hLr hL5
      have hla6 : a6 ≤ ws.length := by
        have := congrArg List.length hew
        rw [List.length_append, List.length_drop, List.length_drop] at this
        omega
      have hlds := len_le_many ds
      refine ⟨L, _, _, rfl, rfl, hL6, by omega, ?_⟩
      have kt7 : KT (del H6 rd) (del (upd H6 L (.lst (us ++ [v6]))) rd) := fun x o hx hno => by
        by_cases ex : x = rd
        · rw [ex, del, if_pos rfl] at hx
          cases hx
        · rw [del_ne ex] at hx ⊢
          rw [upd_ne (fun z => by rw [z, hL6] at hx; cases hx; exact hno _ rfl)]
          exact hx
      have hwl := wordsR_snoc7 e hdne
      have hwn : (wordsR (ds ++ [e])).length = (wordsR ds).length + 1 + e.words.length := by
        rw [hwl, List.length_append, List.length_cons]
        omega
      have hmn : manyR (ds ++ [e]) = manyR ds + e.many := by rw [manyR_app, many_cons, many_nil, Nat.add_zero]
      refine ⟨ws.length - a6, by omega, us ++ [v6], ds ++ [e], a6, f - 1, rfl, fun x o hx ho => ?_, upd_same, ?_, by simp, ?_, okR_snoc hdok4 heok, ?_, ?_, ?_, hla6, ?_, ?_, by omega, rfl⟩
      · rw [upd_ne (fun z => by rw [z] at ho; exact nLH _ ho)]
        exact kb46 _ _ hx (kb4 _ _ hx ho)
      · exact DsAt_sn (DAt_kt kt7 e v6 hv6) _ us (DsAt_kt kt7 _ _ (DsAt_kt (KT.of (kb_del kb46)) _ _ hus))
      · rw [hmn, ← Nat.add_assoc, hbg0]
        obtain ⟨⟨dx, q1⟩, q2, q3⟩ := hrd6
        exact ⟨⟨dx, by rw [upd_ne hLr.symm]; exact q1⟩, by rw [upd_ne hLw]; exact q2, q3⟩
      · rw [deepR_snoc]
        exact Nat.max_le.mpr ⟨hdd4, hedp⟩
      · rw [hdw4, dr_next hsc, hew, hwl]
        simp
      · rw [hwn]
        omega
      · rw [hmn, hwn]
        omega
      · rw [hp4, hp5, hp6]
        rfl
    · have hq : decide (wdV ws at0 = V.str (";" : Str)) = false ∧ scal (wdV ws at0) (V.str (";" : Str)) = true := by
        cases e : ws[at0]? with
        | none =>
          rw [wdV_none e]
          exact ⟨decide_eq_false (fun z => nomatch z), rfl⟩
        | some x =>
          rw [wdV_some e]
          exact ⟨decide_eq_false (fun z => hsc (e.trans (congrArg some (V.str.inj z)))), rfl⟩
      refine ⟨_, rfl, rd, wl, ws, at0, bg0, rfl, hrd4, hq.2, _, rfl, ?_⟩
      rw [hq.1]
      refine iteF (iteF ?_)
      refine ⟨_, rfl, L, us, rfl, .inl ⟨SqL.of hL4, fun q nq => ?_⟩⟩
      have sq := Same.new nq (o := .tup us)
      have hrd5 := hrd4.same sq
      rw [← hbg0] at hrd5
      exact k ds at0 (by rw [hp4, pMore_end hsc]) hdok4 hdd4 hdw4 hae4 hd34 q _ (kb4.trans (KB.of sq)) hrd5 ⟨us, SqT.of (del_at upd_same (rd_ne hrd5 upd_same)), DsAt_kt (KT.of (kb_del (KB.of sq))) _ _ hus⟩
theorem ok_rdLH0 {f : Addr} {fd : FuncData} (F : Fun K "read_look" "read_look" sRdL f fd) : FnOk P w K mg base (L2.CX P w) (3 * 0 + 6) f fd ["reader", "kind", "floors"] (spRdLH K C CD N 0) := by
  refine F.okX scLo2 (fun vs H Q E h => ?_) (fun cdv A outer s H vs Q E hr h => ?_)
  · obtain ⟨rd, wl, ws, a, b, kk, rfl, _⟩ := h
    rfl
  · obtain ⟨rd, wl, ws, a, b, kk, _, _, _, h, _⟩ := h
    exact absurd h (by decide)
theorem ok_rdAllH (FR : Fun K "read_row" "read_row" sRdR fRw fdRw) (FD : Fun K "read_deed" "read_deed" sRdD fDd fdDd) (FL : Fun K "read_look" "read_look" sRdL fLk fdLk) (R : RdC K mg) (G : FrmC K w mg) (TD : TxtD K mg CD) (hCD : C ≠ CD) (DA : Def P w K mg base "ahead" 1 ["reader"] (spAhead CD)) (DF : Def P w K mg base "first_words" 1 ["floors"] spFw) (DT : DefH P w K mg base "take" 3 ["reader", "right"] (spTkH K CD N) fT fdT) (DN : DefH P w K mg base "read_name" 4 ["reader"] (spRdNH CD N) fNm fdNm) (DTd : DefH P w K mg base "read_told" 5 ["reader"] (spRdTH C CD N) fTd fdTd)
    (mgr : mg "read_row" = some (.ref fRw)) (br : Binds K fdRw ["reader", "floors"] []) (mgd : mg "read_deed" = some (.ref fDd)) (bd : Binds K fdDd ["reader", "floors"] []) (mgl : mg "read_look" = some (.ref fLk)) (bl : Binds K fdLk ["reader", "kind", "floors"] []) : ∀ n, FnOk P w K mg base (L2.CX P w) (3 * n + 6) fLk fdLk ["reader", "kind", "floors"] (spRdLH K C CD N n) ∧ FnOk P w K mg base (L2.CX P w) (3 * n + 8) fRw fdRw ["reader", "floors"] (spRdRH K C CD N n) := by
  intro n
  have row : ∀ n, FnOk P w K mg base (L2.CX P w) (3 * n + 6) fLk fdLk ["reader", "kind", "floors"] (spRdLH K C CD N n) → FnOk P w K mg base (L2.CX P w) (3 * n + 8) fRw fdRw ["reader", "floors"] (spRdRH K C CD N n) := fun n GL =>
    ok_rdRH FR R G TD DA DF (ok_rdDH FD R G TD hCD DA DF DT DN DTd GL mgl FL.kp bl) mgd FD.kp bd
  induction n with
  | zero => exact ⟨ok_rdLH0 FL, row 0 (ok_rdLH0 FL)⟩
  | succ n ih =>
    have GL := ok_rdLH FL R G DT DN ih.2 mgr FR.kp br
    exact ⟨GL, row (n + 1) GL⟩
end
end Js
set_option Elab.async false
set_option linter.all false
set_option maxRecDepth 100000
set_option maxHeartbeats 2000000
namespace Js
open PySem L2
open PySem.Spec PyProof.Rows
inductive Sg where
  | row (n : Nat)
  | more (n : Nat)
  | deed (n : Nat)
  | word (z : Str)
  | name
  | value
def lookM (x : Str) (n : Nat) : Option (List Sg) :=
  if x ∈ looksS then (if n = 0 then none else some (.name :: (if x = "if" then [.word "[", .row (n - 1), .word "]", .word "[", .row (n - 1), .word "]"] else [.word "[", .row (n - 1), .word "]"])))
  else if x ∈ letters then some [.word "=", .value] else none
def metM (x : Str) : Sg → Option (List Sg)
  | .row n => lookM x n
  | .more n => lookM x n
  | .deed n => lookM x n
  | .name => if x ∈ letters then some [] else none
  | .value => if x ∈ ([("first" : Str), "second"] : List Str) then some [.name] else if x ∈ ([("pair" : Str), "same"] : List Str) then some [.name, .name] else if isTh x = true then some [] else none
  | .word z => if z = x then some [] else none
def redM (w : Option Str) : List Sg → List Sg
  | .row n :: S => if w ≠ none ∧ w ≠ some ("]" : Str) then .deed n :: .more n :: S else redM w S
  | .more n :: S => if w = some (";" : Str) then .word ";" :: .deed n :: .more n :: S else redM w S
  | S => S
def bkM (ws : List Str) : Nat → Nat → List Sg → Option Nat
  | 0, _, _ => none
  | k + 1, a, S => match ws[a]? with
    | none => if (redM none S).isEmpty then none else some a
    | some x => match redM (some x) S with
      | [] => some a
      | g :: S2 => match metM x g with
        | none => some a
        | some due => bkM ws k (a + 1) (due ++ S2)
def Top : List Sg → Prop
  | [] => True
  | .word z :: _ => z = "]"
  | _ => False
theorem red_top {w : Option Str} {S : List Sg} (h : Top S) : redM w S = S := by
  match S, h with
  | [], _ => rfl
  | .word z :: S, _ => rfl
section
variable {ws : List Str}
theorem bk_word {k a : Nat} {z : Str} {S : List Sg} (hk : 1 ≤ k) : bkM ws k a (.word z :: S) = match tkW (isS z) ws a with
    | .bad m => some m
    | .ok a1 => bkM ws (k - 1) a1 S := by
  obtain ⟨k, rfl⟩ : ∃ k', k = k' + 1 := ⟨k - 1, by omega⟩
  unfold tkW
  rw [bkM]
  cases e : ws[a]? with
  | none => rfl
  | some x =>
    dsimp only
    show (match metM x (.word z) with | none => some a | some due => bkM ws k (a + 1) (due ++ S)) = _
    rw [show metM x (.word z) = (if z = x then some [] else none) from rfl]
    unfold isS
    by_cases h : z = x
    · rw [if_pos h, if_pos (decide_eq_true h.symm)]
      rfl
    · rw [if_neg h, if_neg (by rw [decide_eq_false (fun q => h q.symm)]; decide)]
theorem bk_name {k a : Nat} {S : List Sg} (hk : 1 ≤ k) : bkM ws k a (.name :: S) = match tkW isLet ws a with
    | .bad m => some m
    | .ok a1 => bkM ws (k - 1) a1 S := by
  obtain ⟨k, rfl⟩ : ∃ k', k = k' + 1 := ⟨k - 1, by omega⟩
  unfold tkW
  rw [bkM]
  cases e : ws[a]? with
  | none => rfl
  | some x =>
    dsimp only
    show (match metM x .name with | none => some a | some due => bkM ws k (a + 1) (due ++ S)) = _
    rw [show metM x .name = (if x ∈ letters then some [] else none) from rfl]
    unfold isLet
    by_cases h : x ∈ letters
    · rw [if_pos h, if_pos (decide_eq_true h)]
      rfl
    · rw [if_neg h, if_neg (by rw [decide_eq_false h]; decide)]
theorem tkW_le {p : Str → Bool} {a a1 : Nat} (h : tkW p ws a = .ok a1) : a1 = a + 1 ∧ a < ws.length := by
  obtain ⟨x, hx, _, rfl⟩ := tkW_ok h
  exact ⟨rfl, lt_len hx⟩
theorem bk_names {S : List Sg} : ∀ (j k a : Nat), k = ws.length + 1 - a → a ≤ ws.length → bkM ws k a (List.replicate j .name ++ S) = match pNames ws j a with
    | .bad m => some m
    | .ok a1 => bkM ws (ws.length + 1 - a1) a1 S
  | 0, k, a, hk, ha => by rw [hk]; rfl
  | j + 1, k, a, hk, ha => by
    rw [List.replicate_succ, List.cons_append, bk_name (by omega), pNames]
    cases e : tkW isLet ws a with
    | bad m => rfl
    | ok a1 =>
      obtain ⟨rfl, h1⟩ := tkW_le e
      exact bk_names j (k - 1) (a + 1) (by omega) (by omega)
theorem bk_value {k a : Nat} {S : List Sg} (hk : k = ws.length + 1 - a) (ha : a ≤ ws.length) : bkM ws k a (.value :: S) = match pVal ws a with
    | .bad m => some m
    | .ok a1 => bkM ws (ws.length + 1 - a1) a1 S := by
  obtain ⟨k', rfl⟩ : ∃ k', k = k' + 1 := ⟨k - 1, by omega⟩
  unfold pVal
  rw [bkM]
  cases e : ws[a]? with
  | none => rfl
  | some x =>
    have hlt := lt_len e
    dsimp only
    show (match metM x .value with | none => some a | some due => bkM ws k' (a + 1) (due ++ S)) = _
    rw [show metM x .value = (if x ∈ ([("first" : Str), "second"] : List Str) then some [.name] else if x ∈ ([("pair" : Str), "same"] : List Str) then some [.name, .name] else if isTh x = true then some [] else none) from rfl]
    by_cases h1 : x ∈ ([("first" : Str), "second"] : List Str)
    · have ht : x ∈ takersS := by
        simp only [List.mem_cons, List.not_mem_nil, or_false] at h1
        simp only [takersS, List.mem_cons, List.not_mem_nil, or_false]
        rcases h1 with h | h <;> simp [h]
      rw [if_pos h1, if_pos ht, tkN, if_pos h1]
      exact bk_names 1 k' (a + 1) (by omega) (by omega)
    · rw [if_neg h1]
      by_cases h2 : x ∈ ([("pair" : Str), "same"] : List Str)
      · have ht : x ∈ takersS := by
          simp only [List.mem_cons, List.not_mem_nil, or_false] at h2
          simp only [takersS, List.mem_cons, List.not_mem_nil, or_false]
          rcases h2 with h | h <;> simp [h]
        rw [if_pos h2, if_pos ht, tkN, if_neg h1]
        exact bk_names 2 k' (a + 1) (by omega) (by omega)
      · have ht : x ∉ takersS := fun z => by
          simp only [List.mem_cons, List.not_mem_nil, or_false] at h1 h2
          rcases tk_four z with h | h | h | h
          · exact h1 (.inl h)
          · exact h1 (.inr h)
          · exact h2 (.inl h)
          · exact h2 (.inr h)
        rw [if_neg h2, if_neg ht]
        by_cases h3 : isTh x = true
        · rw [if_pos h3, if_pos h3]
          have ek : k' = ws.length + 1 - (a + 1) := by omega
          rw [ek]
          rfl
        · rw [if_neg h3, if_neg h3]
theorem pNames_le : ∀ (j a a1 : Nat), pNames ws j a = .ok a1 → a ≤ ws.length → a ≤ a1 ∧ a1 ≤ ws.length
  | 0, a, a1, h, ha => by cases h; exact ⟨Nat.le_refl _, ha⟩
  | j + 1, a, a1, h, ha => by
    rw [pNames] at h
    obtain ⟨a2, h1, h2⟩ := bind_ok h
    obtain ⟨rfl, h3⟩ := tkW_le h1
    have := pNames_le j (a + 1) a1 h2 h3
    omega
theorem pVal_le {a a1 : Nat} (h : pVal ws a = .ok a1) : a ≤ a1 ∧ a1 ≤ ws.length := by
  unfold pVal at h
  cases e : ws[a]? with
  | none => rw [e] at h; cases h
  | some x =>
    have hlt := lt_len e
    rw [e] at h
    dsimp only at h
    split at h
    · have := pNames_le _ (a + 1) a1 h hlt
      omega
    · split at h
      · cases h
        omega
      · cases h
def Goes7 (ws : List Str) (g : Sg) (f : Nat → Rs) (top : List Sg → Prop) : Prop := ∀ (k a : Nat) (S : List Sg), top S → k = ws.length + 1 - a → a ≤ ws.length → (bkM ws k a (g :: S) = match f a with
    | .bad m => some m
    | .ok a1 => bkM ws (ws.length + 1 - a1) a1 S) ∧ ∀ a1, f a = .ok a1 → a ≤ a1 ∧ a1 ≤ ws.length
theorem bk_red {k a : Nat} {S1 S2 : List Sg} (h : redM ws[a]? S1 = redM ws[a]? S2) : bkM ws k a S1 = bkM ws k a S2 := by
  cases k with
  | zero => rfl
  | succ k =>
    rw [bkM, bkM]
    cases e : ws[a]? with
    | none =>
      rw [e] at h
      dsimp only
      rw [h]
    | some x =>
      rw [e] at h
      dsimp only
      rw [h]
theorem more_goes {n : Nat} (hD : Goes7 ws (.deed n) (pDeed ws n) (fun _ => True)) (hDs : ∀ a a1, pDeed ws n a = .ok a1 → a < a1) : ∀ f, ∀ (k a : Nat) (S : List Sg), Top S → k = ws.length + 1 - a → a ≤ ws.length → ws.length ≤ f + a → (bkM ws k a (.more n :: S) = match pMore (pDeed ws n) ws f a with
    | .bad m => some m
    | .ok a1 => bkM ws (ws.length + 1 - a1) a1 S) ∧ ∀ a1, pMore (pDeed ws n) ws f a = .ok a1 → a ≤ a1 ∧ a1 ≤ ws.length := by
  intro f
  induction f with
  | zero =>
    intro k a S hS hk ha hf
    have hn : ¬ ws[a]? = some (";" : Str) := fun z => by have := lt_len z; omega
    rw [pMore_end hn]
    refine ⟨?_, fun a1 h => by cases h; exact ⟨Nat.le_refl _, ha⟩⟩
    dsimp only
    rw [← hk]
    exact bk_red (by rw [red_top hS, redM, if_neg hn, red_top hS])
  | succ f ih =>
    intro k a S hS hk ha hf
    by_cases hsc : ws[a]? = some (";" : Str)
    · have hlt := lt_len hsc
      rw [pMore_go hsc hf, Nat.add_sub_cancel]
      have h1 : bkM ws k a (.more n :: S) = bkM ws (k - 1) (a + 1) (.deed n :: .more n :: S) := by
        have e : bkM ws k a (.more n :: S) = bkM ws k a (.word ";" :: .deed n :: .more n :: S) := bk_red (by rw [redM, if_pos hsc]; rfl)
        rw [e, bk_word (by omega), tkW_yes hsc (isS_iff.mpr rfl)]
      obtain ⟨g1, g2⟩ := hD (k - 1) (a + 1) (.more n :: S) trivial (by omega) hlt
      rw [h1, g1]
      cases e : pDeed ws n (a + 1) with
      | bad m => exact ⟨rfl, fun a1 h => by cases h⟩
      | ok a2 =>
        obtain ⟨h2, h3⟩ := g2 a2 e
        obtain ⟨g3, g4⟩ := ih (ws.length + 1 - a2) a2 S hS rfl h3 (by omega)
        refine ⟨g3, fun a1 h => ?_⟩
        have := g4 a1 h
        omega
    · rw [pMore_end hsc]
      refine ⟨?_, fun a1 h => by cases h; exact ⟨Nat.le_refl _, ha⟩⟩
      dsimp only
      rw [← hk]
      exact bk_red (by rw [red_top hS, redM, if_neg hsc, red_top hS])
theorem cl_fw (n : Nat) : ("]" : Str) ∉ fwS (8 - n) := fw_cl _
theorem row_goes {n : Nat} (h8 : n ≤ 8) (hD : Goes7 ws (.deed n) (pDeed ws n) (fun _ => True)) (hDs : ∀ a a1, pDeed ws n a = .ok a1 → a < a1) : Goes7 ws (.row n) (pRowN ws n) Top := by
  intro k a S hS hk ha
  unfold pRowN pRow
  cases e : ws[a]? with
  | none =>
    refine ⟨?_, fun a1 h => by cases h; exact ⟨Nat.le_refl _, ha⟩⟩
    dsimp only
    rw [← hk]
    exact bk_red (by rw [e, redM, if_neg (fun z => z.1 rfl)])
  | some x =>
    have hlt := lt_len e
    dsimp only
    by_cases hfw : x ∈ fwS (8 - n)
    · rw [if_pos hfw]
      have hx : x ≠ "]" := fun z => cl_fw n (z ▸ hfw)
      have h1 : bkM ws k a (.row n :: S) = bkM ws k a (.deed n :: .more n :: S) := bk_red (by rw [e, redM, if_pos ⟨by simp, fun z => hx (Option.some.inj z)⟩]; rfl)
      obtain ⟨g1, g2⟩ := hD k a (.more n :: S) trivial hk ha
      rw [h1, g1]
      cases ed : pDeed ws n a with
      | bad m => exact ⟨rfl, fun a1 h => by cases h⟩
      | ok a2 =>
        obtain ⟨h2, h3⟩ := g2 a2 ed
        obtain ⟨g3, g4⟩ := more_goes hD hDs ws.length (ws.length + 1 - a2) a2 S hS rfl h3 (by omega)
        refine ⟨g3, fun a1 h => ?_⟩
        have := g4 a1 h
        omega
    · rw [if_neg hfw]
      refine ⟨?_, fun a1 h => by cases h; exact ⟨Nat.le_refl _, ha⟩⟩
      dsimp only
      rw [← hk]
      by_cases hx : x = "]"
      · exact bk_red (by rw [e, redM, if_neg (fun z => z.2 (by rw [hx]))])
      · have h1 : bkM ws k a (.row n :: S) = bkM ws k a (.deed n :: .more n :: S) := bk_red (by rw [e, redM, if_pos ⟨by simp, fun z => hx (Option.some.inj z)⟩]; rfl)
        obtain ⟨g1, _⟩ := hD k a (.more n :: S) trivial hk ha
        have hp : pDeed ws n a = .bad a := by
          rw [pDeed_eq]
          unfold pDeed0
          rw [e]
          dsimp only
          rw [fw_iff h8, not_or] at hfw
          rw [if_neg hfw.1, if_neg hfw.2]
        rw [h1, g1, hp]
        dsimp only
        obtain ⟨k', rfl⟩ : ∃ k', k = k' + 1 := ⟨k - 1, by omega⟩
        rw [bkM, e]
        dsimp only
        rw [red_top hS]
        match S, hS with
        | [], _ => rfl
        | .word z :: S', hS =>
          have hz : z = "]" := hS
          subst hz
          dsimp only
          rw [show metM x (.word "]") = (if ("]" : Str) = x then some [] else none) from rfl, if_neg (fun z => hx z.symm)]
def repM (n : Nat) : Nat → List Sg
  | 0 => []
  | j + 1 => .word "[" :: .row n :: .word "]" :: repM n j
theorem look_goes {n : Nat} (hR : Goes7 ws (.row n) (pRowN ws n) Top) : ∀ (j k a : Nat) (S : List Sg), k = ws.length + 1 - a → a ≤ ws.length → (bkM ws k a (repM n j ++ S) = match pLook (pRowN ws n) ws j a with
    | .bad m => some m
    | .ok a1 => bkM ws (ws.length + 1 - a1) a1 S) ∧ ∀ a1, pLook (pRowN ws n) ws j a = .ok a1 → a ≤ a1 ∧ a1 ≤ ws.length
  | 0, k, a, S, hk, ha => by
    rw [hk]
    exact ⟨rfl, fun a1 h => by cases h; exact ⟨Nat.le_refl _, ha⟩⟩
  | j + 1, k, a, S, hk, ha => by
    rw [repM, List.cons_append, bk_word (by omega), pLook]
    cases e : tkW (isS "[") ws a with
    | bad m => exact ⟨rfl, fun a1 h => by cases h⟩
    | ok a2 =>
      obtain ⟨rfl, h1⟩ := tkW_le e
      obtain ⟨g1, g2⟩ := hR (k - 1) (a + 1) (.word "]" :: (repM n j ++ S)) rfl (by omega) h1
      dsimp only [Rs.bind]
      rw [List.cons_append, List.cons_append, g1]
      cases e2 : pRowN ws n (a + 1) with
      | bad m => exact ⟨rfl, fun a1 h => by cases h⟩
      | ok a3 =>
        obtain ⟨h2, h3⟩ := g2 a3 e2
        dsimp only [Rs.bind]
        rw [bk_word (by omega)]
        cases e3 : tkW (isS "]") ws a3 with
        | bad m => exact ⟨rfl, fun a1 h => by cases h⟩
        | ok a4 =>
          obtain ⟨rfl, h4⟩ := tkW_le e3
          obtain ⟨g3, g4⟩ := look_goes hR j (ws.length + 1 - a3 - 1) (a3 + 1) S (by omega) h4
          refine ⟨g3, fun a1 h => ?_⟩
          have := g4 a1 h
          omega
theorem repM_lk (x : Str) (n : Nat) : (if x = "if" then [Sg.word "[", .row n, .word "]", .word "[", .row n, .word "]"] else [.word "[", .row n, .word "]"]) = repM n (lkN x) := by
  unfold lkN
  by_cases h : x = "if"
  · rw [if_pos h, if_pos h]
    rfl
  · rw [if_neg h, if_neg h]
    rfl
theorem deed_of {n : Nat} (hL : ∀ m, n = m + 1 → Goes7 ws (.row m) (pRowN ws m) Top) : Goes7 ws (.deed n) (pDeed ws n) (fun _ => True) ∧ ∀ a a1, pDeed ws n a = .ok a1 → a < a1 := by
  have main : ∀ (k a : Nat) (S : List Sg), k = ws.length + 1 - a → a ≤ ws.length → (bkM ws k a (.deed n :: S) = match pDeed ws n a with
    | .bad m => some m
    | .ok a1 => bkM ws (ws.length + 1 - a1) a1 S) ∧ ∀ a1, pDeed ws n a = .ok a1 → a < a1 ∧ a1 ≤ ws.length := by
    intro k a S hk ha
    obtain ⟨k', rfl⟩ : ∃ k', k = k' + 1 := ⟨k - 1, by omega⟩
    rw [pDeed_eq]
    unfold pDeed0
    rw [bkM]
    cases e : ws[a]? with
    | none => exact ⟨rfl, fun a1 h => by cases h⟩
    | some x =>
      have hlt := lt_len e
      dsimp only
      show ((match metM x (.deed n) with | none => some a | some due => bkM ws k' (a + 1) (due ++ S)) = _) ∧ _
      rw [show metM x (.deed n) = lookM x n from rfl]
      unfold lookM
      by_cases hlk : x ∈ looksS
      · have hnl := let_look hlk
        rw [if_pos hlk, if_neg hnl]
        cases n with
        | zero =>
          rw [if_pos rfl, if_neg (fun z => by cases z.1)]
          exact ⟨rfl, fun a1 h => by cases h⟩
        | succ n =>
          rw [if_neg (Nat.succ_ne_zero n), if_pos (show (n + 1 != 0) = true ∧ x ∈ looksS from ⟨rfl, hlk⟩), Nat.add_sub_cancel]
          dsimp only
          rw [repM_lk, List.cons_append, bk_name (by omega)]
          show (_ = match (tkW isLet ws (a + 1)).bind (pLook (pRowN ws n) ws (lkN x)) with | .bad m => some m | .ok a1 => bkM ws (ws.length + 1 - a1) a1 S) ∧ ∀ a1, (tkW isLet ws (a + 1)).bind (pLook (pRowN ws n) ws (lkN x)) = .ok a1 → a < a1 ∧ a1 ≤ ws.length
          cases e2 : tkW isLet ws (a + 1) with
          | bad m => exact ⟨rfl, fun a1 h => by cases h⟩
          | ok a2 =>
            obtain ⟨rfl, h1⟩ := tkW_le e2
            obtain ⟨g1, g2⟩ := look_goes (hL n rfl) (lkN x) (k' - 1) (a + 1 + 1) S (by omega) h1
            refine ⟨g1, fun a1 h => ?_⟩
            have := g2 a1 h
            omega
      · rw [if_neg hlk]
        by_cases hle : x ∈ letters
        · rw [if_pos hle, if_pos hle]
          show (bkM ws k' (a + 1) (.word "=" :: .value :: S) = _) ∧ _
          rw [bk_word (by omega)]
          cases e2 : tkW (isS "=") ws (a + 1) with
          | bad m => exact ⟨rfl, fun a1 h => by cases h⟩
          | ok a2 =>
            obtain ⟨rfl, h1⟩ := tkW_le e2
            dsimp only [Rs.bind]
            rw [bk_value (by omega) h1]
            refine ⟨rfl, fun a1 h => ?_⟩
            have := pVal_le h
            omega
        · rw [if_neg hle, if_neg hle, if_neg (fun z => hlk z.2)]
          exact ⟨rfl, fun a1 h => by cases h⟩
  refine ⟨fun k a S _ hk ha => ⟨(main k a S hk ha).1, fun a1 h => ?_⟩, fun a a1 h => ?_⟩
  · have := (main k a S hk ha).2 a1 h
    omega
  · by_cases ha : a ≤ ws.length
    · exact ((main (ws.length + 1 - a) a [] rfl ha).2 a1 h).1
    · rw [pDeed_eq] at h
      unfold pDeed0 at h
      rw [List.getElem?_eq_none_iff.mpr (by omega)] at h
      cases h
theorem deed_goes : ∀ n, n ≤ 8 → Goes7 ws (.deed n) (pDeed ws n) (fun _ => True) ∧ ∀ a a1, pDeed ws n a = .ok a1 → a < a1
  | 0, _ => deed_of (fun m h => by cases h)
  | n + 1, h => deed_of (fun m e => by
    cases e
    obtain ⟨hD, hDs⟩ := deed_goes n (by omega)
    exact row_goes (by omega) hD hDs)
theorem bk_prog : bkM ws (ws.length + 1) 0 [.row 8] = pProg ws := by
  obtain ⟨hD, hDs⟩ := deed_goes (ws := ws) 8 (Nat.le_refl _)
  obtain ⟨g1, g2⟩ := row_goes (Nat.le_refl _) hD hDs (ws.length + 1) 0 [] trivial rfl (Nat.zero_le _)
  unfold pProg
  rw [g1]
  cases e : pRowN ws 8 0 with
  | bad m => rfl
  | ok a1 =>
    obtain ⟨_, h⟩ := g2 a1 e
    dsimp only
    obtain ⟨k', hk⟩ : ∃ k', ws.length + 1 - a1 = k' + 1 := ⟨ws.length - a1, by omega⟩
    rw [hk, bkM]
    by_cases hlt : a1 < ws.length
    · rw [List.getElem?_eq_getElem hlt, if_pos hlt]
      rfl
    · rw [List.getElem?_eq_none_iff.mpr (by omega), if_neg hlt]
      rfl
end
end Js
set_option Elab.async false
set_option linter.all false
set_option maxRecDepth 100000
set_option maxHeartbeats 2000000
namespace Js
open PySem L2
open PySem PySem.Spec PyProof.Rows L2
abbrev sLo10 : Stmt := top 59
abbrev sMe10 : Stmt := top 60
def SgV (K : PySem.W.Frag) (H : Hp) : Sg → V → Prop
  | .row n, v => ∃ a, v = .ref a ∧ SqT K H a [.str "row", .int ((9 - n : Nat) : Int)] ∧ n ≤ 8
  | .more n, v => ∃ a, v = .ref a ∧ SqT K H a [.str "more", .int ((9 - n : Nat) : Int)] ∧ n ≤ 8
  | .deed n, v => ∃ a, v = .ref a ∧ SqT K H a [.str "deed", .int ((9 - n : Nat) : Int)] ∧ n ≤ 8
  | .word z, v => v = .str z ∧ z ∈ ([(";" : Str), "[", "]", "="] : List Str)
  | .name, v => v = .str "name"
  | .value, v => v = .str "value"
theorem SgV.kt {K : PySem.W.Frag} {H H' : Hp} (k : KT H H') : ∀ {g : Sg} {v : V}, SgV K H g v → SgV K H' g v
  | .row n, v, h => let ⟨a, e, h1, h2⟩ := h; ⟨a, e, sqt_kt k h1, h2⟩
  | .more n, v, h => let ⟨a, e, h1, h2⟩ := h; ⟨a, e, sqt_kt k h1, h2⟩
  | .deed n, v, h => let ⟨a, e, h1, h2⟩ := h; ⟨a, e, sqt_kt k h1, h2⟩
  | .word z, v, h => h
  | .name, v, h => h
  | .value, v, h => h
abbrev SgsV (K : PySem.W.Frag) (H : Hp) (vs : List V) (S : List Sg) : Prop := Paired (fun v g => SgV K H g v) vs S
theorem SgsV.kt {K : PySem.W.Frag} {H H' : Hp} (k : KT H H') : ∀ {vs : List V} {S : List Sg}, SgsV K H vs S → SgsV K H' vs S
  | _, _, .nil => .nil
  | _, _, .cons h t => .cons (SgV.kt k h) (SgsV.kt k t)
def spLo10 (K : PySem.W.Frag) : Sp := fun vs H Q _ => ∃ x n, vs = [.str x, .int ((9 - n : Nat) : Int)] ∧ n ≤ 8 ∧ x.length ≤ 100000 ∧ (lookM x n = none → ∀ H', Same H H' → Q .non H') ∧
  (∀ due, lookM x n = some due → ∀ L us H', Same H H' → H' L = some (.lst us) → SgsV K H' us due → Q (.ref L) H')
def spMe10 (K : PySem.W.Frag) : Sp := fun vs H Q _ => ∃ v g x, vs = [v, .str x] ∧ SgV K H g v ∧ x.length ≤ 100000 ∧ (metM x g = none → ∀ H', Same H H' → Q .non H') ∧
  (∀ due, metM x g = some due → ∀ L us H', Same H H' → H' L = some (.lst us) → SgsV K H' us due → Q (.ref L) H')
theorem in_looks (x : Str) : inV (.str x) [V.str "while", V.str "if"] = decide (x ∈ looksS) := by
  have := inV_strV x looksS
  exact this
theorem iteT10 {c : Bool} {p q : Prop} (h : c = true) (hp : p) : if c = true then p else q := by
  rw [if_pos h]
  exact hp
theorem iteF10 {c : Bool} {p q : Prop} (h : c = false) (hq : q) : if c = true then p else q := by
  rw [if_neg (by rw [h]; decide)]
  exact hq
theorem at_lk (x : Str) : atI [V.int 1, V.int 2] (if decide (V.str x = V.str "if") = true then 1 else 0) = some (.int ((lkN x : Nat) : Int)) ∧ lkN x ≤ 2 := by
  unfold lkN
  by_cases h : x = "if"
  · subst h
    rw [if_pos rfl, if_pos (decide_eq_true rfl)]
    exact ⟨rfl, Nat.le_refl _⟩
  · rw [if_neg h, if_neg (by rw [decide_eq_true_eq]; exact fun z => h (V.str.inj z))]
    exact ⟨rfl, by decide⟩
theorem sgs_rep {K : PySem.W.Frag} {H : Hp} {n : Nat} {v : V} (h : SgV K H (.row n) v) : ∀ j, SgsV K H (List.replicate j [V.str "[", v, V.str "]"]).flatten (repM n j)
  | 0 => .nil
  | j + 1 => by
    rw [List.replicate_succ, List.flatten_cons, repM]
    exact .cons ⟨rfl, by simp⟩ (.cons h (.cons ⟨rfl, by simp⟩ (sgs_rep h j)))
theorem len_rep3 (v : V) : ∀ j, (List.replicate j [V.str "[", v, V.str "]"]).flatten.length = 3 * j
  | 0 => rfl
  | j + 1 => by
    rw [List.replicate_succ, List.flatten_cons, List.length_append, len_rep3 v j]
    show 3 + 3 * j = _
    omega
theorem lookM_lk {x : Str} {n : Nat} (h : x ∈ looksS) (hn : n ≠ 0) : lookM x n = some (.name :: repM (n - 1) (lkN x)) := by
  unfold lookM
  rw [if_pos h, if_neg hn, repM_lk]
theorem at_bl {a b : V} (c : Bool) : atI [a, b] (if c = true then 1 else 0) = some (if c = true then b else a) := by
  cases c
  · exact atI_nat (j := 0) rfl
  · exact atI_nat (j := 1) rfl
theorem let_char (x : Str) : x ∈ letters ↔ ∃ c, x = ⟨#[c]⟩ ∧ c ∈ (("abcdefghij" : Str)).cps.toList := by
  have h : strV letters = sgnV "abcdefghij" := let_sgn.symm
  have h2 : letters = (("abcdefghij" : Str)).cps.toList.map fun c => (⟨#[c]⟩ : Str) := by decide +kernel
  rw [h2, List.mem_map]
  exact ⟨fun ⟨c, h, e⟩ => ⟨c, e.symm, h⟩, fun ⟨c, e, h⟩ => ⟨c, h, e.symm⟩⟩
theorem let_one {x : Str} (h : x.length = 1) : ∃ c, x = ⟨#[c]⟩ := by
  obtain ⟨cps⟩ := x
  have h : cps.size = 1 := h
  obtain ⟨c, hc⟩ := Array.size_eq_one_iff.mp h
  exact ⟨c, by rw [hc]⟩
section
variable {P : Program} {w : World} {K : PySem.W.Frag} {mg : Str → Option Value} {base : Heap} {C CP : Addr}
theorem scLo10 : FnScope ["_law_word", "_law_floor", "_law_inner"] ["_law_word", "_law_floor"] (defScope sLo10) := ⟨rfl, rfl, rfl, by decide +kernel, rfl, by decide +kernel, by decide +kernel⟩
theorem scMe10 : FnScope ["_law_sign", "_law_word"] ["_law_sign", "_law_word"] (defScope sMe10) := ⟨rfl, rfl, rfl, by decide +kernel, rfl, by decide +kernel, by decide +kernel⟩
theorem ok_lo10 {f : Addr} {fd : FuncData} (F : Fun K "_law_looked" "_law_looked" sLo10 f fd) (B : Blt mg) : FnOk P w K mg base CX0 1 f fd ["_law_word", "_law_floor"] (spLo10 K) := by
  refine F.ok scLo10 (fun vs H Q E h => ?_) (fun cdv A outer s H vs Q E hr h => ?_)
  · obtain ⟨x, n, rfl, _⟩ := h
    rfl
  · obtain ⟨x, n, rfl, h8, hz, kn, ks⟩ := h
    refine ⟨_, pss_cons (ps_if (pt_cmpR op_in_seq (pv 0) (pe_tup (pa_cons pe_str (pa_cons pe_str pa_nil))) rfl) (pss_cons (ps_set (i := 2) scLo10.nd rfl (Or.inl rfl) (pe_lst (pa_cons pe_str (pa_cons (pe_tup (pa_cons pe_str (pa_cons (pe_op op_add (pv 1) pe_int) pa_nil))) (pa_cons pe_str pa_nil))))) (pss_one (ps_ret (pe_ix (r := rIxL K) ix_list (pe_lst (pa_cons pe_non (pa_cons (pe_op op_cat (pe_lst (pa_cons pe_str pa_nil)) (pe_op op_rep (pv 2) (pe_ix (r := rIxL K) ix_list (pe_lst (pa_cons pe_int (pa_cons pe_int pa_nil))) (pe_callTy call_int1 (by rfl) B.int PyProof.Rows.boot_int (pa_cons (pe_cmpR op_eq (pv 0) pe_str (nomark _)) pa_nil)) (fun _ _ => rfl)))) pa_nil))) (pe_callTy call_int1 (by rfl) B.int PyProof.Rows.boot_int (pa_cons (pe_cmpR op_lt (pv 1) pe_int (nomark _)) pa_nil)) (fun _ _ => rfl))))) pss_nil) (pss_one (ps_ret (pe_ix (r := rIxL K) ix_list (pe_lst (pa_cons pe_non (pa_cons (pe_lst (pa_cons pe_str (pa_cons pe_str pa_nil))) pa_nil))) (pe_callTy call_int1 (by rfl) B.int PyProof.Rows.boot_int (pa_cons (pe_and (pe_cmpR op_eq (pe_callB call_len_str (by rfl) B.len PySem.boot_len (pa_cons (pv 0) pa_nil)) pe_int (nomark _)) (pe_one (pe_cmpR op_in_sign (pv 0) pe_str rfl))) pa_nil)) (fun _ _ => rfl)))), ?_⟩
    have hsl := line4
    refine ⟨_, rfl, by show 2 ≤ sizeLine; decide, fun U nU => ?_⟩
    have s1 := Same.new nU (o := .tup [V.str "while", V.str "if"])
    have e1 : (upd H U (.tup [V.str "while", V.str "if"])) U = some (.tup [V.str "while", V.str "if"]) := upd_same
    revert s1 e1
    generalize upd H U (.tup [V.str "while", V.str "if"]) = H1
    intro s1 e1
    refine ⟨U, _, rfl, .inr (SqT.of e1), rfl, rfl, _, rfl, ?_⟩
    rw [if_neg Bool.false_ne_true, in_looks]
    by_cases hlk : x ∈ looksS
    · refine iteT10 (decide_eq_true hlk) ?_
      obtain ⟨hat, hl2⟩ := at_lk x
      refine ⟨_, rfl, _, _, rfl, rfl, by show 2 ≤ sizeLine; decide, fun T nT => ?_⟩
      have s2 := Same.new nT (o := .tup [V.str "row", .int (((9 - n : Nat) : Int) + 1)])
      have e2 : (upd H1 T (.tup [V.str "row", .int (((9 - n : Nat) : Int) + 1)])) T = some (.tup [V.str "row", .int (((9 - n : Nat) : Int) + 1)]) := upd_same
      revert s2 e2
      generalize upd H1 T (.tup [V.str "row", .int (((9 - n : Nat) : Int) + 1)]) = H2
      intro s2 e2
      refine ⟨by show 3 ≤ sizeLine; decide, fun I nI => ?_⟩
      have s3 := Same.new nI (o := .lst [V.str "[", .ref T, V.str "]"])
      have e3 : (upd H2 I (.lst [V.str "[", .ref T, V.str "]"])) I = some (.lst [V.str "[", .ref T, V.str "]"]) := upd_same
      revert s3 e3
      generalize upd H2 I (.lst [V.str "[", .ref T, V.str "]"]) = H3
      intro s3 e3
      refine ⟨by show 1 ≤ sizeLine; decide, fun A nA => ?_⟩
      have s4 := Same.new nA (o := .lst [V.str "name"])
      have e4 : (upd H3 A (.lst [V.str "name"])) A = some (.lst [V.str "name"]) := upd_same
      revert s4 e4
      generalize upd H3 A (.lst [V.str "name"]) = H4
      intro s4 e4
      refine ⟨_, rfl, by show 2 ≤ sizeLine; decide, fun B nB => ?_⟩
      have s5 := Same.new nB (o := .lst [V.int 1, .int 2])
      have e5 : (upd H4 B (.lst [V.int 1, .int 2])) B = some (.lst [V.int 1, .int 2]) := upd_same
      revert s5 e5
      generalize upd H4 B (.lst [V.int 1, .int 2]) = H5
      intro s5 e5
      refine ⟨_, rfl, rfl, .inr ⟨_, rfl, B, _, _, _, rfl, rfl, SqL.of e5, hat, I, _, _, rfl, rfl, s5 _ _ (s4 _ _ e3), by omega, by omega, by show 3 * (lkN x) ≤ sizeLine; omega, fun R nR => ?_⟩⟩
      rw [Int.toNat_natCast]
      have s6 := Same.new nR (o := .lst (List.replicate (lkN x) [V.str "[", .ref T, V.str "]"]).flatten)
      have e6 : (upd H5 R (.lst (List.replicate (lkN x) [V.str "[", .ref T, V.str "]"]).flatten)) R = some (.lst (List.replicate (lkN x) [V.str "[", .ref T, V.str "]"]).flatten) := upd_same
      revert s6 e6
      generalize upd H5 R (.lst (List.replicate (lkN x) [V.str "[", .ref T, V.str "]"]).flatten) = H6
      intro s6 e6
      refine ⟨A, R, _, _, rfl, rfl, s6 _ _ (s5 _ _ e4), e6, by rw [len_rep3]; simp only [List.length_cons, List.length_nil]; omega, fun L nL => ?_⟩
      have s7 := Same.new nL (o := .lst ([V.str "name"] ++ (List.replicate (lkN x) [V.str "[", .ref T, V.str "]"]).flatten))
      have e7 : (upd H6 L (.lst ([V.str "name"] ++ (List.replicate (lkN x) [V.str "[", .ref T, V.str "]"]).flatten))) L = some (.lst ([V.str "name"] ++ (List.replicate (lkN x) [V.str "[", .ref T, V.str "]"]).flatten)) := upd_same
      revert s7 e7
      generalize upd H6 L (.lst ([V.str "name"] ++ (List.replicate (lkN x) [V.str "[", .ref T, V.str "]"]).flatten)) = H7
      intro s7 e7
      refine ⟨by show 2 ≤ sizeLine; decide, fun O nO => ?_⟩
      have s8 := Same.new nO (o := .lst [V.non, .ref L])
      have e8 : (upd H7 O (.lst [V.non, .ref L])) O = some (.lst [V.non, .ref L]) := upd_same
      revert s8 e8
      generalize upd H7 O (.lst [V.non, .ref L]) = H8
      intro s8 e8
      have s38 := (((s4.trans s5).trans s6).trans s7).trans s8
      have s28 := s3.trans s38
      have s18 := (s1.trans s2).trans s28
      refine ⟨_, rfl, _, _, rfl, rfl, .inr ⟨_, rfl, O, _, _, _, rfl, rfl, SqL.of e8, at_bl _, ?_⟩⟩
      by_cases hn : n = 0
      · rw [decide_eq_false (show ¬ ((9 - n : Nat) : Int) < 9 by omega), if_neg Bool.false_ne_true]
        exact kn (by unfold lookM; rw [if_pos hlk, if_pos hn]) H8 s18
      · rw [decide_eq_true (show ((9 - n : Nat) : Int) < 9 by omega), if_pos rfl]
        refine ks _ (lookM_lk hlk hn) L _ H8 s18 (s8 _ _ e7) (.cons rfl (sgs_rep ⟨T, rfl, ?_, by omega⟩ _))
        rw [show ((9 - (n - 1) : Nat) : Int) = ((9 - n : Nat) : Int) + 1 by omega]
        exact SqT.of (s28 _ _ e2)
    refine iteF10 (decide_eq_false hlk) ?_
    refine ⟨by show 2 ≤ sizeLine; decide, fun A nA => ?_⟩
    have s2 := Same.new nA (o := .lst [V.str "=", V.str "value"])
    have e2 : (upd H1 A (.lst [V.str "=", V.str "value"])) A = some (.lst [V.str "=", V.str "value"]) := upd_same
    revert s2 e2
    generalize upd H1 A (.lst [V.str "=", V.str "value"]) = H2
    intro s2 e2
    refine ⟨by show 2 ≤ sizeLine; decide, fun O nO => ?_⟩
    have s3 := Same.new nO (o := .lst [V.non, .ref A])
    have e3 : (upd H2 O (.lst [V.non, .ref A])) O = some (.lst [V.non, .ref A]) := upd_same
    revert s3 e3
    generalize upd H2 O (.lst [V.non, .ref A]) = H3
    intro s3 e3
    have s13 := (s1.trans s2).trans s3
    have fin : ∀ b : Bool, b = decide (x ∈ letters) → Q (if b = true then .ref A else .non) H3 := fun b e => by
      by_cases hle : x ∈ letters
      · rw [e, decide_eq_true hle, if_pos rfl]
        exact ks [.word "=", .value] (by unfold lookM; rw [if_neg hlk, if_pos hle]) A _ H3 s13 (s3 _ _ e2) (.cons ⟨rfl, by simp⟩ (.cons rfl .nil))
      · rw [e, decide_eq_false hle, if_neg Bool.false_ne_true]
        exact kn (by unfold lookM; rw [if_neg hlk, if_neg hle]) H3 s13
    refine ⟨_, rfl, x, rfl, by omega, rfl, _, rfl, ?_⟩
    by_cases h1 : x.length = 1
    · refine iteT10 (decide_eq_true (by rw [h1]; rfl)) ?_
      obtain ⟨c, rfl⟩ := let_one h1
      refine ⟨_, rfl, c, _, rfl, rfl, .inr ⟨_, rfl, O, _, _, _, rfl, rfl, SqL.of e3, at_bl _, fin _ ?_⟩⟩
      refine decide_eq_decide.mpr ⟨fun h => (let_char _).mpr ⟨c, rfl, h⟩, fun h => ?_⟩
      obtain ⟨c', e, h⟩ := (let_char _).mp h
      have : c = c' := by
        have := congrArg Str.cps e
        simpa using this
      rw [this]
      exact h
    · refine iteF10 (decide_eq_false (fun z => h1 (by have := V.int.inj z; omega))) ?_
      refine .inr ⟨_, rfl, O, _, _, _, rfl, rfl, SqL.of e3, at_bl _, fin _ (decide_eq_false (fun h => ?_)).symm⟩
      obtain ⟨c', e, _⟩ := (let_char _).mp h
      exact h1 (by rw [e]; rfl)
theorem ok_me10 {f : Addr} {fd : FuncData} (F : Fun K "_law_met" "_law_met" sMe10 f fd) (B : Blt mg) (T : Txt K mg C) (mtu : mg "tuple" = none) (kst : PySem.W.kitOne K (.type "str") (.type "tuple") = some false) (ktt : PySem.W.kitOne K (.type "tuple") (.type "tuple") = some true) (DLo : Def P w K mg base "_law_looked" 1 ["_law_word", "_law_floor"] (spLo10 K)) (DIt : Def P w K mg base "_law_is_thing" 1 ["_law_word"] spIt) : FnOk P w K mg base CX0 2 f fd ["_law_sign", "_law_word"] (spMe10 K) := by
  refine F.ok scMe10 (fun vs H Q E h => ?_) (fun cdv A outer s H vs Q E hr h => ?_)
  · obtain ⟨v, g, x, rfl, _⟩ := h
    rfl
  · obtain ⟨v, g, x, rfl, hv, hz, kn, ks⟩ := h
    have hr1 : Room 1 _ := hr
    refine ⟨_, pss_cons (ps_if (pt_val (pe_callB (r := rIsi K) call_isi (by rfl) T.isi PyProof.Rows.boot_isinstance (pa_cons (pv 0) (pa_cons (pe_bltn (v := .ty "tuple") rfl mtu PyProof.Rows.boot_tuple rfl) pa_nil)))) (pss_one (ps_ret (pe_def DLo hr1 rfl (pa_cons (pv 1) (pa_cons (pe_ix (r := rIxT K) ix_tup (pv 0) pe_int (fun _ _ => rfl)) pa_nil))))) pss_nil) (pss_cons (ps_if (pt_cmpR op_eq (pv 0) pe_str (nomark _)) (pss_one (ps_ret (pe_ix (r := rIxL K) ix_list (pe_lst (pa_cons pe_non (pa_cons (pe_lst pa_nil) pa_nil))) (pe_callTy call_int1 (by rfl) B.int PyProof.Rows.boot_int (pa_cons (pe_and (pe_cmpR op_eq (pe_callB call_len_str (by rfl) B.len PySem.boot_len (pa_cons (pv 1) pa_nil)) pe_int (nomark _)) (pe_one (pe_cmpR op_in_sign (pv 1) pe_str rfl))) pa_nil)) (fun _ _ => rfl)))) pss_nil) (pss_cons (ps_if (pt_cmpR op_eq (pv 0) pe_str (nomark _)) (pss_cons (ps_if (pt_cmpR op_in_seq (pv 1) (pe_tup (pa_cons pe_str (pa_cons pe_str pa_nil))) rfl) (pss_one (ps_ret (pe_lst (pa_cons pe_str pa_nil)))) pss_nil) (pss_cons (ps_if (pt_cmpR op_in_seq (pv 1) (pe_tup (pa_cons pe_str (pa_cons pe_str pa_nil))) rfl) (pss_one (ps_ret (pe_lst (pa_cons pe_str (pa_cons pe_str pa_nil))))) pss_nil) (pss_one (ps_ret (pe_ix (r := rIxL K) ix_list (pe_lst (pa_cons pe_non (pa_cons (pe_lst pa_nil) pa_nil))) (pe_callTy call_int1 (by rfl) B.int PyProof.Rows.boot_int (pa_cons (pe_def DIt hr1 rfl (pa_cons (pv 1) pa_nil)) pa_nil)) (fun _ _ => rfl)))))) pss_nil) (pss_one (ps_ret (pe_ix (r := rIxL K) ix_list (pe_lst (pa_cons pe_non (pa_cons (pe_lst pa_nil) pa_nil))) (pe_callTy call_int1 (by rfl) B.int PyProof.Rows.boot_int (pa_cons (pe_cmpR op_eq (pv 0) (pv 1) (nomark _)) pa_nil)) (fun _ _ => rfl)))))), ?_⟩
    have hsl := line4
    have hcase : (∃ (n : Nat) (kd : Str) (a : Addr), v = .ref a ∧ SqT K H a [.str kd, .int ((9 - n : Nat) : Int)] ∧ n ≤ 8 ∧ metM x g = lookM x n) ∨ (v = .str "name" ∧ g = .name) ∨ (v = .str "value" ∧ g = .value) ∨ ∃ z, v = .str z ∧ g = .word z ∧ z ∈ ([(";" : Str), "[", "]", "="] : List Str) := by
      cases g with
      | row n => obtain ⟨a, h1, h2, h3⟩ := hv; exact .inl ⟨n, _, a, h1, h2, h3, rfl⟩
      | more n => obtain ⟨a, h1, h2, h3⟩ := hv; exact .inl ⟨n, _, a, h1, h2, h3, rfl⟩
      | deed n => obtain ⟨a, h1, h2, h3⟩ := hv; exact .inl ⟨n, _, a, h1, h2, h3, rfl⟩
      | name => exact .inr (.inl ⟨hv, rfl⟩)
      | value => exact .inr (.inr (.inl ⟨hv, rfl⟩))
      | word z => exact .inr (.inr (.inr ⟨z, hv.1, rfl, hv.2⟩))
    rcases hcase with ⟨n, kd, a, rfl, hq, h8, hm⟩ | ⟨rfl, rfl⟩ | ⟨rfl, rfl⟩ | ⟨z, rfl, rfl, hzm⟩
    · rw [hm] at kn ks
      refine ⟨_, rfl, _, _, _, _, true, rfl, .ty "tuple", sqt_ty hq, ktt, _, rfl, iteT ?_⟩
      exact ⟨_, rfl, _, rfl, a, _, 1, _, rfl, rfl, hq, atI_nat (j := 1) rfl, x, n, rfl, h8, hz, kn, ks⟩
    · refine ⟨_, rfl, _, _, _, _, false, rfl, .ty "tuple", .base (.str _), kst, _, rfl, iteF ?_⟩
      refine ⟨_, rfl, rfl, _, rfl, iteT10 (decide_eq_true rfl) ?_⟩
      refine ⟨Nat.zero_le _, fun A nA => ?_⟩
      have s1 := Same.new nA (o := .lst [])
      have e1 : (upd H A (.lst [])) A = some (.lst []) := upd_same
      revert s1 e1
      generalize upd H A (.lst []) = H1
      intro s1 e1
      refine ⟨by show 2 ≤ sizeLine; decide, fun O nO => ?_⟩
      have s2 := Same.new nO (o := .lst [V.non, .ref A])
      have e2 : (upd H1 O (.lst [V.non, .ref A])) O = some (.lst [V.non, .ref A]) := upd_same
      revert s2 e2
      generalize upd H1 O (.lst [V.non, .ref A]) = H2
      intro s2 e2
      have s02 := s1.trans s2
      have fin : ∀ b : Bool, b = decide (x ∈ letters) → Q (if b = true then .ref A else .non) H2 := fun b e => by
        by_cases hle : x ∈ letters
        · rw [e, decide_eq_true hle, if_pos rfl]
          exact ks [] (if_pos hle) A _ H2 s02 (s2 _ _ e1) .nil
        · rw [e, decide_eq_false hle, if_neg Bool.false_ne_true]
          exact kn (if_neg hle) H2 s02
      refine ⟨_, rfl, x, rfl, by omega, rfl, _, rfl, ?_⟩
      by_cases h1 : x.length = 1
      · refine iteT10 (decide_eq_true (by rw [h1]; rfl)) ?_
        obtain ⟨c, rfl⟩ := let_one h1
        refine ⟨_, rfl, c, _, rfl, rfl, .inr ⟨_, rfl, O, _, _, _, rfl, rfl, SqL.of e2, at_bl _, fin _ ?_⟩⟩
        refine decide_eq_decide.mpr ⟨fun h => (let_char _).mpr ⟨c, rfl, h⟩, fun h => ?_⟩
        obtain ⟨c', e, h⟩ := (let_char _).mp h
        have : c = c' := by
          have := congrArg Str.cps e
          simpa using this
        rw [this]
        exact h
      · refine iteF10 (decide_eq_false (fun z => h1 (by have := V.int.inj z; omega))) ?_
        refine .inr ⟨_, rfl, O, _, _, _, rfl, rfl, SqL.of e2, at_bl _, fin _ (decide_eq_false (fun h => ?_)).symm⟩
        obtain ⟨c', e, _⟩ := (let_char _).mp h
        exact h1 (by rw [e]; rfl)
    · have hmv : metM x .value = (if x ∈ ([("first" : Str), "second"] : List Str) then some [.name] else if x ∈ ([("pair" : Str), "same"] : List Str) then some [.name, .name] else if isTh x = true then some [] else none) := rfl
      rw [hmv] at kn ks
      refine ⟨_, rfl, _, _, _, _, false, rfl, .ty "tuple", .base (.str _), kst, _, rfl, iteF ?_⟩
      refine ⟨_, rfl, rfl, _, rfl, iteF10 (by decide +kernel) ?_⟩
      refine ⟨_, rfl, rfl, _, rfl, iteT10 (decide_eq_true rfl) ?_⟩
      refine ⟨_, rfl, by show 2 ≤ sizeLine; decide, fun U nU => ?_⟩
      have s1 := Same.new nU (o := .tup [V.str "first", V.str "second"])
      have e1 : (upd H U (.tup [V.str "first", V.str "second"])) U = some (.tup [V.str "first", V.str "second"]) := upd_same
      revert s1 e1
      generalize upd H U (.tup [V.str "first", V.str "second"]) = H1
      intro s1 e1
      refine ⟨U, _, rfl, .inr (SqT.of e1), rfl, rfl, _, rfl, ?_⟩
      rw [if_neg Bool.false_ne_true, show inV (.str x) [V.str "first", V.str "second"] = decide (x ∈ ([("first" : Str), "second"] : List Str)) from inV_strV x [("first" : Str), "second"]]
      by_cases hf : x ∈ ([("first" : Str), "second"] : List Str)
      · refine iteT10 (decide_eq_true hf) ?_
        refine ⟨by show 1 ≤ sizeLine; decide, fun A nA => ?_⟩
        have s2 := Same.new nA (o := .lst [V.str "name"])
        have e2 : (upd H1 A (.lst [V.str "name"])) A = some (.lst [V.str "name"]) := upd_same
        revert s2 e2
        generalize upd H1 A (.lst [V.str "name"]) = H2
        intro s2 e2
        exact ks [.name] (if_pos hf) A _ H2 (s1.trans s2) e2 (.cons rfl .nil)
      refine iteF10 (decide_eq_false hf) ?_
      rw [if_neg hf] at kn ks
      refine ⟨_, rfl, by show 2 ≤ sizeLine; decide, fun U2 nU2 => ?_⟩
      have s2 := Same.new nU2 (o := .tup [V.str "pair", V.str "same"])
      have e2 : (upd H1 U2 (.tup [V.str "pair", V.str "same"])) U2 = some (.tup [V.str "pair", V.str "same"]) := upd_same
      revert s2 e2
      generalize upd H1 U2 (.tup [V.str "pair", V.str "same"]) = H2
      intro s2 e2
      refine ⟨U2, _, rfl, .inr (SqT.of e2), rfl, rfl, _, rfl, ?_⟩
      rw [if_neg Bool.false_ne_true, show inV (.str x) [V.str "pair", V.str "same"] = decide (x ∈ ([("pair" : Str), "same"] : List Str)) from inV_strV x [("pair" : Str), "same"]]
      by_cases hp : x ∈ ([("pair" : Str), "same"] : List Str)
      · refine iteT10 (decide_eq_true hp) ?_
        refine ⟨by show 2 ≤ sizeLine; decide, fun A nA => ?_⟩
        have s3 := Same.new nA (o := .lst [V.str "name", V.str "name"])
        have e3 : (upd H2 A (.lst [V.str "name", V.str "name"])) A = some (.lst [V.str "name", V.str "name"]) := upd_same
        revert s3 e3
        generalize upd H2 A (.lst [V.str "name", V.str "name"]) = H3
        intro s3 e3
        exact ks [.name, .name] (if_pos hp) A _ H3 ((s1.trans s2).trans s3) e3 (.cons rfl (.cons rfl .nil))
      refine iteF10 (decide_eq_false hp) ?_
      rw [if_neg hp] at kn ks
      refine ⟨Nat.zero_le _, fun A nA => ?_⟩
      have s3 := Same.new nA (o := .lst [])
      have e3 : (upd H2 A (.lst [])) A = some (.lst []) := upd_same
      revert s3 e3
      generalize upd H2 A (.lst []) = H3
      intro s3 e3
      refine ⟨by show 2 ≤ sizeLine; decide, fun O nO => ?_⟩
      have s4 := Same.new nO (o := .lst [V.non, .ref A])
      have e4 : (upd H3 O (.lst [V.non, .ref A])) O = some (.lst [V.non, .ref A]) := upd_same
      revert s4 e4
      generalize upd H3 O (.lst [V.non, .ref A]) = H4
      intro s4 e4
      refine ⟨_, rfl, x, rfl, hz, fun H5 s5 => .inr ⟨_, rfl, O, _, _, _, rfl, rfl, SqL.of (s5 _ _ e4), at_bl _, ?_⟩⟩
      have s05 := (((s1.trans s2).trans s3).trans s4).trans s5
      cases hb : isTh x with
      | true =>
        rw [if_pos rfl]
        exact ks [] (if_pos hb) A _ H5 s05 (s5 _ _ (s4 _ _ e3)) .nil
      | false =>
        rw [if_neg Bool.false_ne_true]
        exact kn (if_neg (by rw [hb]; decide)) H5 s05
    · have hmw : metM x (.word z) = (if z = x then some [] else none) := rfl
      rw [hmw] at kn ks
      refine ⟨_, rfl, _, _, _, _, false, rfl, .ty "tuple", .base (.str _), kst, _, rfl, iteF ?_⟩
      have hn1 : ¬ z = "name" := fun e => by
        subst e
        revert hzm
        decide +kernel
      have hn2 : ¬ z = "value" := fun e => by
        subst e
        revert hzm
        decide +kernel
      refine ⟨_, rfl, rfl, _, rfl, iteF10 (decide_eq_false (fun e => hn1 (V.str.inj e))) ?_⟩
      refine ⟨_, rfl, rfl, _, rfl, iteF10 (decide_eq_false (fun e => hn2 (V.str.inj e))) ?_⟩
      refine ⟨Nat.zero_le _, fun A nA => ?_⟩
      have s1 := Same.new nA (o := .lst [])
      have e1 : (upd H A (.lst [])) A = some (.lst []) := upd_same
      revert s1 e1
      generalize upd H A (.lst []) = H1
      intro s1 e1
      refine ⟨by show 2 ≤ sizeLine; decide, fun O nO => ?_⟩
      have s2 := Same.new nO (o := .lst [V.non, .ref A])
      have e2 : (upd H1 O (.lst [V.non, .ref A])) O = some (.lst [V.non, .ref A]) := upd_same
      revert s2 e2
      generalize upd H1 O (.lst [V.non, .ref A]) = H2
      intro s2 e2
      refine ⟨_, rfl, _, rfl, rfl, .inr ⟨_, rfl, O, _, _, _, rfl, rfl, SqL.of e2, at_bl _, ?_⟩⟩
      by_cases he : z = x
      · rw [decide_eq_true (by rw [he]), if_pos rfl]
        exact ks [] (if_pos he) A _ H2 (s1.trans s2) (s2 _ _ e1) .nil
      · rw [decide_eq_false (fun e => he (V.str.inj e)), if_neg Bool.false_ne_true]
        exact kn (if_neg he) H2 (s1.trans s2)
end
end Js
set_option Elab.async false
set_option linter.all false
set_option maxRecDepth 100000
set_option maxHeartbeats 4000000
namespace Js
open PySem L2
open PySem.Spec PyProof.Rows
def wordsOf (z : Str) : List Str := if z.length = 0 then [] else PySem.Txt.split z (" " : Str)
def spRdPH (K : PySem.W.Frag) (C CP N : Addr) : Sp := fun vs H Q E => ∃ z : Str, vs = [.str z] ∧ z.length ≤ 1000000 ∧ WsOk (wordsOf z) ∧
  (∀ r, pProg (wordsOf z) = none → wordsOf z = wordsR r → okR r → ∀ p H', Same H H' → PgAt K C CP H' p r → Q (.ref p) H') ∧
  (∀ m, pProg (wordsOf z) = some m → ∀ e H', Same H H' → H' e = some (.xd [("place", .int (m : Nat))]) → E (.ref N) (some e) H')
section
variable {P : Program} {w : World} {K : PySem.W.Frag} {mg : Str → Option Value} {base : Heap} {C CP CD N fN fP fDI fRw : Addr} {fdN fdP fdDI fdRw : FuncData}
theorem ok_rdPH {f : Addr} {fd : FuncData} (F : Fun K "read_program" "read_program" sRdP f fd) (B : Blt mg) (TD : TxtD K mg CD) (M : NtM P w K mg base N fN fdN) (MD : MkO P w K mg base "Reader" CD fDI fdDI ["self", "words"] rdL 1) (MP : MakerP P w K mg base C CP fP fdP) (DRw : DefH P w K mg base "read_row" 32 ["reader", "floors"] (spRdRH K C CD N 8) fRw fdRw) : FnOk P w K mg base (L2.CX P w) 33 f fd ["text"] (spRdPH K C CP N) := by
  refine F.okX scRp2 (fun vs H Q E h => ?_) (fun cdv A outer s H vs Q E hr h => ?_)
  · obtain ⟨z, rfl, _⟩ := h
    rfl
  · obtain ⟨z, rfl, hz, hws, k, ke⟩ := h
    have hr2 : Room 2 _ := hr.mono (by decide)
    have hr15 : Room 15 _ := hr.mono (by decide)
    have hrR : Room 32 _ := hr
    refine ⟨_, pss_cons (ps_set (i := 1) scRp2.nd rfl (Or.inl rfl) (pe_obj (n := 1) (fs := rdL) MD.M MD.G hr2 rfl MD.mgc MD.b .nil (pa_cons (pe_ifExp (pt_truth (pv 0) (by intro _; rfl)) (pe_split (pv 0) pe_str) (pe_lst pa_nil)) pa_nil))) (pss_cons (ps_set (i := 2) scRp2.nd rfl (Or.inl rfl) (pe_callS DRw.ok hrR rfl DRw.mgf DRw.kp DRw.b (fun σ => L2.passAt (L2.takes_of rfl rfl rfl rfl) σ) (pa_cons (pv 1) (pa_cons pe_int pa_nil)))) (pss_cons (ps_if (pt_cmpR op_lt (pe_fld (pv 1) rfl) (pe_callB call_len_seq (by rfl) B.len PySem.boot_len (pa_cons (pe_fld (pv 1) rfl) pa_nil)) (nomark _)) (pss_one (L2.ps_raise rfl (L2.takes_of rfl rfl rfl rfl) (pmk_oex M.T.O M.iN M.tN M.ok hr2 M.bN .nil pass0 rfl M.T.mgN (pa_cons (pe_fld (pv 1) rfl) pa_nil)))) pss_nil) (pss_one (ps_ret (pe_P MP hr15 rfl (pa_cons (pv 2) pa_nil)))))), ?_⟩
    have hsl := sizeLine_eq
    have hlen := hws.1
    refine seq_obj1 (fun v H1 => ∃ wl, v = .ref wl ∧ Same H H1 ∧ H1 wl = some (.lst (strV (wordsOf z)))) (fun R hR => ?_) (fun v H1 hv => ?_)
    · by_cases h0 : z.length = 0
      · refine ⟨_, rfl, false, ⟨by omega, by rw [h0]; rfl⟩, iteF ⟨Nat.zero_le _, fun p np => hR _ _ ⟨p, rfl, Same.new np, ?_⟩⟩⟩
        rw [upd_same]
        unfold wordsOf
        rw [if_pos h0]
        rfl
      · refine ⟨_, rfl, true, ⟨by omega, by simp [h0]⟩, iteT ?_⟩
        refine ⟨_, rfl, ⟨_, rfl⟩, _, _, rfl, rfl, by decide +kernel, by omega, fun p np => hR _ _ ⟨p, rfl, Same.new np, ?_⟩⟩
        rw [upd_same]
        unfold wordsOf
        rw [if_neg h0]
        rfl
    obtain ⟨wl, rfl, s1, hwl⟩ := hv
    refine ⟨rfl, fun rd dx H2 s2 nrd hrd0 => ?_⟩
    have hrd2 : RdAt CD H2 rd wl (wordsOf z) 0 0 := ⟨⟨dx, hrd0⟩, s2 _ _ hwl, by omega⟩
    have nrH : H rd = none := s1.free nrd
    have s03 : ∀ {G : Hp}, KB rd H2 G → Same H G := fun kb x o hx => kb _ _ (ne_of_none hx nrH) (s2 _ _ (s1 _ _ hx))
    refine ⟨_, rfl, rd, wl, wordsOf z, 0, 0, rfl, hrd2, by decide, by omega, Nat.zero_le _, hws, fun r a1 hp hok hdp hdw hae h3m q H3 kb3 hrd3 hq => ?_, fun m hm e H3 kb3 he => ?_⟩
    rotate_left
    · refine ke m ?_ e H3 (s03 kb3) he
      unfold pProg
      rw [hm]
    have hla : a1 ≤ (wordsOf z).length := by
      have := congrArg List.length hdw
      rw [List.length_append, List.length_drop, List.length_drop] at this
      omega
    obtain ⟨⟨dx3, h31⟩, h32, h33⟩ := id hrd3
    refine ⟨_, rfl, _, _, _, _, _, rfl, h31, TD.cl, TD.nA, rd_at _ _ _, _, rfl, _, _, _, _, _, rfl, h31, TD.cl, TD.nW, rd_words _ _ _, wl, _, rfl, .inl (SqL.of h32), _, _, rfl, rfl, _, rfl, ?_⟩
    rw [strV_len]
    by_cases hlt : a1 < (wordsOf z).length
    · rw [decide_eq_true (show ((a1 : Nat) : Int) < (((wordsOf z).length : Nat) : Int) by omega)]
      refine iteT ?_
      refine ⟨_, rfl, _, _, _, _, _, rfl, h31, TD.cl, TD.nA, rd_at _ _ _, by simp, raise_nt M.T.O M.T.pl (by omega) fun d H' sH hd => ke a1 ?_ d H' ((s03 kb3).trans sH) hd⟩
      unfold pProg
      rw [hp]
      exact if_pos hlt
    · rw [decide_eq_false (show ¬ ((a1 : Nat) : Int) < (((wordsOf z).length : Nat) : Int) by omega)]
      refine iteF ?_
      refine ⟨_, rfl, q, r, rfl, hq.same (del_up H3 rd), hdp, by omega, fun y H4 s4 ny hy => k r ?_ ?_ hok y H4 ((s03 kb3).trans s4) hy⟩
      · unfold pProg
        rw [hp]
        exact if_neg hlt
      · rw [List.drop_zero, List.drop_eq_nil_of_le (by omega), List.append_nil] at hdw
        exact hdw
end
end Js
set_option Elab.async false
set_option linter.all false
set_option maxRecDepth 100000
set_option maxHeartbeats 2000000
namespace Js
open PySem L2
open PySem PySem.Spec PyProof.Rows L2
abbrev sBr10 : Stmt := top 61
def spBr10 : Sp := fun vs H Q _ => ∃ z : Str, vs = [.str z] ∧ z.length ≤ 1000000 ∧ WsOk (Js.wordsOf z) ∧
  (pProg (Js.wordsOf z) = none → ∀ H', Same H H' → Q .non H') ∧ (∀ m, pProg (Js.wordsOf z) = some m → ∀ H', Same H H' → Q (.int (m : Nat)) H')
def wOf : Option Str → V
  | none => .non
  | some x => .str x
theorem seq10 {a b : TS} {D : Ends} {σ : L2.St} {H : Hp} (M : L2.St → Hp → Prop) (ha : ∀ D' : Ends, (∀ σ' H', M σ' H' → D'.nx σ' H') → D'.rt = D.rt → a D' σ H) (hb : ∀ σ' H', M σ' H' → b D σ' H') : tSeq a b D σ H := ha { D with nx := fun σ' H' => b D σ' H' } hb rfl
theorem nil_tl {H : Hp} {a b : Addr} {vs : List V} (ha : H a = some (.lst vs)) (hb : H b = some (.lst [])) : TList TFlat (.ref a) (.ref b) (decide (vs = [])) H := by
  refine ⟨a, b, vs, [], [], rfl, rfl, ha, hb, ⟨by simp, fun i x y c e1 e2 e3 _ => by simp at e2⟩, ?_⟩
  cases vs with
  | nil => rfl
  | cons v vs => simp [tells]
def BkI (K : PySem.W.Frag) (H : Hp) (ws : List Str) (L W : Addr) (vs : List V) (S : List Sg) (H' : Hp) : Prop :=
  Same H H' ∧ H L = none ∧ H' L = some (.lst vs) ∧ H' W = some (.lst (strV ws)) ∧ W ≠ L ∧ SgsV K H' vs.reverse S
theorem BkI.same {K : PySem.W.Frag} {H H1 H2 : Hp} {ws : List Str} {L W : Addr} {vs : List V} {S : List Sg} (h : BkI K H ws L W vs S H1) (s : Same H1 H2) : BkI K H ws L W vs S H2 := by
  obtain ⟨h1, h2, h3, h4, h5, h6⟩ := h
  exact ⟨h1.trans s, h2, s _ _ h3, s _ _ h4, h5, h6.kt (KT.of s)⟩
theorem BkI.pop {K : PySem.W.Frag} {H H1 : Hp} {ws : List Str} {L W : Addr} {vs : List V} {v : V} {g : Sg} {S : List Sg} (h : BkI K H ws L W (vs ++ [v]) (g :: S) H1) : BkI K H ws L W vs S (upd H1 L (.lst vs)) ∧ SgV K (upd H1 L (.lst vs)) g v := by
  obtain ⟨h1, h2, h3, h4, h5, h6⟩ := h
  have kt : KT H1 (upd H1 L (.lst vs)) := KT.lst h3
  rw [List.reverse_append] at h6
  cases h6 with
  | cons a t =>
    refine ⟨⟨fun x o hx => ?_, h2, upd_same, (upd_ne h5).trans h4, h5, SgsV.kt kt t⟩, SgV.kt kt a⟩
    rw [upd_ne (show x ≠ L from fun z => by rw [z, h2] at hx; cases hx)]
    exact h1 _ _ hx
theorem BkI.new {K : PySem.W.Frag} {H H1 H2 : Hp} {ws : List Str} {L L2 W : Addr} {vs vs2 : List V} {S S2 : List Sg} (h : BkI K H ws L W vs S H1) (s : Same H1 H2) (n : H1 L2 = none) (h2 : H2 L2 = some (.lst vs2)) (h3 : SgsV K H2 vs2.reverse S2) : BkI K H ws L2 W vs2 S2 H2 :=
  ⟨h.1.trans s, h.1.free n, h2, s _ _ h.2.2.2.1, ne_of_none h.2.2.2.1 n, h3⟩
theorem BkI.last {K : PySem.W.Frag} {H H1 : Hp} {ws : List Str} {L W : Addr} {vs : List V} {g : Sg} {S : List Sg} (h : BkI K H ws L W vs (g :: S) H1) : ∃ us v, vs = us ++ [v] := by
  obtain ⟨_, _, _, _, _, h6⟩ := h
  cases hv : vs.reverse with
  | nil => rw [hv] at h6; cases h6
  | cons v us => exact ⟨us.reverse, v, by rw [← List.reverse_reverse vs, hv, List.reverse_cons]⟩
theorem BkI.nil {K : PySem.W.Frag} {H H1 : Hp} {ws : List Str} {L W : Addr} {vs : List V} (h : BkI K H ws L W vs [] H1) : vs = [] := by
  obtain ⟨_, _, _, _, _, h6⟩ := h
  cases hv : vs.reverse with
  | nil => exact List.reverse_eq_nil_iff.mp hv
  | cons v us => rw [hv] at h6; cases h6
def tops : List Sg → Nat
  | .row _ :: S => tops S + 1
  | .more _ :: S => tops S + 1
  | _ => 0
def Calm : List Sg → Prop
  | .row _ :: _ => False
  | .more _ :: _ => False
  | _ => True
theorem redM_calm (w : Option Str) {S : List Sg} (h : Calm S) : redM w S = S := by
  match S, h with
  | [], _ => rfl
  | .word z :: S, _ => rfl
  | .deed z :: S, _ => rfl
  | .name :: S, _ => rfl
  | .value :: S, _ => rfl
theorem atLastV (us : List V) (v : V) : atI (us ++ [v]) (-1) = some v := by
  unfold atI
  rw [ix_last, Option.bind_some, List.getElem?_append_right (Nat.le_refl _), Nat.sub_self]
  rfl
theorem metM_len {x : Str} {g : Sg} {due : List Sg} (h : metM x g = some due) : due.length ≤ 7 := by
  have hl : ∀ n d, lookM x n = some d → d.length ≤ 7 := fun n d h => by
    unfold lookM at h
    split at h
    · split at h
      · cases h
      · split at h <;> (cases h; show _ + 1 ≤ 7; simp)
    · split at h
      · cases h; decide
      · cases h
  cases g with
  | row n => exact hl n _ h
  | more n => exact hl n _ h
  | deed n => exact hl n _ h
  | name =>
    have h : (if x ∈ letters then some [] else none) = some due := h
    split at h
    · cases h; decide
    · cases h
  | word z =>
    have h : (if z = x then some [] else none) = some due := h
    split at h
    · cases h; decide
    · cases h
  | value =>
    have h : (if x ∈ ([("first" : Str), "second"] : List Str) then some [Sg.name] else if x ∈ ([("pair" : Str), "same"] : List Str) then some [.name, .name] else if isTh x = true then some [] else none) = some due := h
    split at h
    · cases h; decide
    · split at h
      · cases h; decide
      · split at h
        · cases h; decide
        · cases h
theorem sgs_app {K : PySem.W.Frag} {H : Hp} : ∀ {a : List V} {A : List Sg} {b : List V} {B : List Sg}, SgsV K H a A → SgsV K H b B → SgsV K H (a ++ b) (A ++ B)
  | _, _, _, _, .nil, h => h
  | _, _, _, _, .cons x t, h => .cons x (sgs_app t h)
section
variable {P : Program} {w : World} {K : PySem.W.Frag} {mg : Str → Option Value} {base : Heap} {C CP : Addr}
theorem scBr10 : FnScope ["_law_text_here", "_law_wants", "_law_words", "_law_place", "_law_word", "_law_kind", "_law_floor", "_law_due"] ["_law_text_here"] (defScope sBr10) := ⟨rfl, rfl, rfl, by decide +kernel, rfl, by decide +kernel, by decide +kernel⟩
theorem ok_br10 {f : Addr} {fd : FuncData} (F : Fun K "_law_breaks" "_law_breaks" sBr10 f fd) (B : Blt mg) (T : Txt K mg C) (mtu : mg "tuple" = none) (kst : PySem.W.kitOne K (.type "str") (.type "tuple") = some false) (ktt : PySem.W.kitOne K (.type "tuple") (.type "tuple") = some true) (DMe : Def P w K mg base "_law_met" 2 ["_law_sign", "_law_word"] (spMe10 K)) : FnOk P w K mg base CX0 3 f fd ["_law_text_here"] spBr10 := by
  refine F.ok scBr10 (fun vs H Q E h => ?_) (fun cdv A outer s H vs Q E hr h => ?_)
  · obtain ⟨z, rfl, _⟩ := h
    rfl
  · obtain ⟨z, rfl, hz, hws, k⟩ := h
    have hr1 : Room 1 _ := hr.mono (by decide)
    have hr2 : Room 2 _ := hr
    refine ⟨_, pss_cons (ps_set (i := 1) scBr10.nd rfl (Or.inl rfl) (pe_lst (pa_cons (pe_tup (pa_cons pe_str (pa_cons pe_int pa_nil))) pa_nil))) (pss_cons (ps_set (i := 2) scBr10.nd rfl (Or.inl rfl) (pe_ifExp (pt_cmpR op_ne (pv 0) pe_str (nomark _)) (pe_split (pv 0) pe_str) (pe_lst pa_nil))) (pss_cons (ps_for PassesOwn.never rfl (pi_range1 rfl B.range (pa_cons (pe_op op_add (pe_callB call_len_seq (by rfl) B.len PySem.boot_len (pa_cons (pv 2) pa_nil)) pe_int) pa_nil)) (pg_name (i := 3) scBr10.nd rfl (Or.inl rfl)) (pss_cons (ps_set (i := 4) scBr10.nd rfl (Or.inl rfl) (pe_ifExp (pt_cmpR op_lt (pv 3) (pe_callB call_len_seq (by rfl) B.len PySem.boot_len (pa_cons (pv 2) pa_nil)) (nomark _)) (pe_ix (r := rIxL K) ix_list (pv 2) (pv 3) (fun _ _ => rfl)) pe_non)) (pss_cons (ps_while PassesOwn.never (PW.pt (pw_and (pt_cmpR (op_neTl (rcT_list_ne (D := TFlat) (fun _ _ _ _ _ _ d => d) eqT_flat) hr1) (pv 1) (pe_lst pa_nil) (nomark _)) (pw_and (pt_val (pe_callB (r := rIsi K) call_isi (by rfl) T.isi PyProof.Rows.boot_isinstance (pa_cons (pe_ix (r := rIxL K) ix_list (pv 1) (pe_un un_neg pe_int) (fun _ _ => rfl)) (pa_cons (pe_bltn (v := .ty "tuple") rfl mtu PyProof.Rows.boot_tuple rfl) pa_nil)))) (pw_and1 (pt_cmpR op_ne (pe_ix (r := rIxT K) ix_tup (pe_ix (r := rIxL K) ix_list (pv 1) (pe_un un_neg pe_int) (fun _ _ => rfl)) pe_int (fun _ _ => rfl)) pe_str (nomark _)))))) (pss_cons (ps_asg (pe_bm0 PySem.F.plainAttrs_list PySem.F.slot_list_pop PySem.F.type_list_pop mt_pop (pv 1)) (pg_tup rfl (pgs_cons (pg_name (i := 5) scBr10.nd rfl (Or.inl rfl)) (pgs_cons (pg_name (i := 6) scBr10.nd rfl (Or.inl rfl)) pgs_nil)))) (pss_one (ps_if (PW.pt (pw_and (pt_cmpR op_eq (pv 5) pe_str (nomark _)) (pw_and (pt_cmp (pc_notN (pv 4))) (pw_and1 (pt_cmpR op_ne (pv 4) pe_str (nomark _)))))) (pss_one (ps_set (i := 1) scBr10.nd rfl (Or.inl rfl) (pe_op op_cat (pv 1) (pe_lst (pa_cons (pe_tup (pa_cons pe_str (pa_cons (pv 6) pa_nil))) (pa_cons (pe_tup (pa_cons pe_str (pa_cons (pv 6) pa_nil))) pa_nil)))))) (pss_one (ps_if (PW.pt (pw_and (pt_cmpR op_eq (pv 5) pe_str (nomark _)) (pw_and1 (pt_cmpR op_eq (pv 4) pe_str (nomark _))))) (pss_one (ps_set (i := 1) scBr10.nd rfl (Or.inl rfl) (pe_op op_cat (pv 1) (pe_lst (pa_cons (pe_tup (pa_cons pe_str (pa_cons (pv 6) pa_nil))) (pa_cons (pe_tup (pa_cons pe_str (pa_cons (pv 6) pa_nil))) (pa_cons pe_str pa_nil))))))) pss_nil)))))) (pss_cons (ps_if (pt_cmp (pc_isN (pv 4))) (pss_one (ps_ret (pe_ix (r := rIxL K) ix_list (pe_lst (pa_cons (pv 3) (pa_cons pe_non pa_nil))) (pe_callTy call_int1 (by rfl) B.int PyProof.Rows.boot_int (pa_cons (pe_cmpR (op_eqTl (rcT_list_eq (D := TFlat) (fun _ _ _ _ _ _ d => d) eqT_flat) hr1) (pv 1) (pe_lst pa_nil) (nomark _)) pa_nil)) (fun _ _ => rfl)))) pss_nil) (pss_cons (ps_set (i := 7) scBr10.nd rfl (Or.inl rfl) (pe_ifExp (pt_cmpR (op_neTl (rcT_list_ne (D := TFlat) (fun _ _ _ _ _ _ d => d) eqT_flat) hr1) (pv 1) (pe_lst pa_nil) (nomark _)) (pe_def DMe hr2 rfl (pa_cons (pe_bm0 PySem.F.plainAttrs_list PySem.F.slot_list_pop PySem.F.type_list_pop mt_pop (pv 1)) (pa_cons (pv 4) pa_nil))) pe_non)) (pss_cons (ps_if (pt_cmp (pc_isN (pv 7))) (pss_one (ps_ret (pv 3))) pss_nil) (pss_one (ps_set (i := 1) scBr10.nd rfl (Or.inl rfl) (pe_op op_cat (pv 1) (pe_revL (pv 7))))))))))) (pss_one (ps_ret pe_non)))), ?_⟩
    have hsl := sizeLine_eq
    dsimp only [gName]
    refine seq10 (a := tAsg _ _) (fun σ' H' => ∃ (L T : Addr), σ' = [some (.str z), some (.ref L), none, none, none, none, none, none] ∧ Same H H' ∧ H L = none ∧ H' L = some (.lst [.ref T]) ∧ SqT K H' T [.str "row", .int ((9 - 8 : Nat) : Int)]) (fun D' hD hrt => ?_) ?_
    · refine ⟨by show 2 ≤ sizeLine; omega, fun T nT => ?_⟩
      have s1 := Same.new nT (o := .tup [V.str "row", V.int 1])
      have e1 : (upd H T (.tup [V.str "row", V.int 1])) T = some (.tup [V.str "row", V.int 1]) := upd_same
      revert s1 e1
      generalize upd H T (.tup [V.str "row", V.int 1]) = H1
      intro s1 e1
      refine ⟨by show 1 ≤ sizeLine; omega, fun L nL => ?_⟩
      have s2 := Same.new nL (o := .lst [V.ref T])
      have e2 : (upd H1 L (.lst [V.ref T])) L = some (.lst [V.ref T]) := upd_same
      revert s2 e2
      generalize upd H1 L (.lst [V.ref T]) = H2
      intro s2 e2
      exact hD _ _ ⟨L, T, rfl, s1.trans s2, s1.free nL, e2, SqT.of (s2 _ _ e1)⟩
    rintro σ1 H1 ⟨L, T, rfl, s1, hL0, hL, hT⟩
    obtain ⟨ws, hwsE⟩ : ∃ ws, Js.wordsOf z = ws := ⟨_, rfl⟩
    rw [hwsE] at hws k
    have hlen := hws.1
    refine seq10 (a := tAsg _ _) (fun σ' H' => ∃ (W : Addr), σ' = [some (.str z), some (.ref L), some (.ref W), none, none, none, none, none] ∧ BkI K H ws L W [.ref T] [.row 8] H') (fun D' hD hrt => ?_) ?_
    · have fin : ∀ H2 p, H1 p = none → Same H1 H2 → H2 p = some (.lst (strV ws)) → D'.nx [some (.str z), some (.ref L), some (.ref p), none, none, none, none, none] H2 := fun H2 p np s2 h2 => hD _ _ ⟨p, rfl, s1.trans s2, hL0, s2 _ _ hL, h2, (ne_of_none hL np).symm, .cons ⟨T, rfl, sqt_kt (KT.of s2) hT, by decide⟩ .nil⟩
      have hz0 : decide (V.str z = V.str "") = decide (z.length = 0) := decide_eq_decide.mpr ⟨fun e => by rw [V.str.inj e]; decide +kernel, fun e => by
        obtain ⟨c⟩ := z
        have e : c.size = 0 := e
        rw [Array.size_eq_zero_iff.mp e]
        rfl⟩
      refine ⟨_, rfl, rfl, _, rfl, ?_⟩
      rw [hz0]
      unfold Js.wordsOf at hwsE
      by_cases h0 : z.length = 0
      · rw [if_pos h0] at hwsE
        subst hwsE
        rw [decide_eq_true h0]
        refine iteF ⟨Nat.zero_le _, fun p np => fin _ p np (Same.new np) upd_same⟩
      · rw [if_neg h0] at hwsE
        rw [decide_eq_false h0]
        refine iteT ⟨_, rfl, ⟨_, rfl⟩, _, _, rfl, rfl, by decide +kernel, by omega, fun p np => fin _ p np (Same.new np) ?_⟩
        rw [upd_same, hwsE]
        rfl
    rintro σ2 H2 ⟨W, rfl, hB⟩
    refine seq10 (a := tFor _ _ _) (fun σ' H' => Same H H' ∧ pProg ws = none) (fun D' hD hrt => ?_) (fun σ' H' z => k.1 z.2 H' z.1)
    refine ⟨_, rfl, W, _, rfl, .inl (SqL.of hB.2.2.2.1), _, _, rfl, rfl, (((ws.length + 1 : Nat)) : Int), by rw [strV_len]; rfl, by omega, by omega, for_range (n := (((ws.length + 1 : Nat) : Nat) : Int).toNat) (fun i σ H' => ∃ (L : Addr) (vs : List V) (S : List Sg) (x3 x4 x5 x6 x7 : Option V), σ = [some (.str z), some (.ref L), some (.ref W), x3, x4, x5, x6, x7] ∧ BkI K H ws L W vs S H' ∧ bkM ws (ws.length + 1 - i) i S = pProg ws ∧ vs.length ≤ 1 + 20 * i) ⟨L, _, _, none, none, none, none, none, rfl, hB, bk_prog, by simp⟩ ?_ ?_⟩
    rotate_left
    · rintro σ H3 ⟨L, vs, S, x3, x4, x5, x6, x7, rfl, hB3, hbk, hvl⟩
      refine hD _ _ ⟨hB3.1, ?_⟩
      rw [← hbk, show ws.length + 1 - (((ws.length + 1 : Nat) : Int)).toNat = 0 by rw [Int.toNat_natCast]; omega]
      rfl
    rintro i σ H3 hi ⟨L, vs, S, x3, x4, x5, x6, x7, rfl, hB3, hbk, hvl⟩
    rw [Int.toNat_natCast] at hi
    rw [Int.zero_add]
    dsimp only [gName]
    obtain ⟨w, hwE⟩ : ∃ w, ws[i]? = w := ⟨_, rfl⟩
    have hwn : w = none ↔ ws.length ≤ i := by rw [← hwE, List.getElem?_eq_none_iff]
    refine seq10 (a := tAsg _ _) (fun σ' H' => σ' = [some (.str z), some (.ref L), some (.ref W), some (.int (i : Nat)), some (wOf w), x5, x6, x7] ∧ H3 = H') (fun D2 hD2 hrt2 => ?_) ?_
    · refine ⟨_, rfl, _, rfl, W, _, rfl, .inl (SqL.of hB3.2.2.2.1), _, _, rfl, rfl, _, rfl, ?_⟩
      rw [strV_len]
      by_cases hlt : i < ws.length
      · obtain ⟨x, hx⟩ : ∃ x, ws[i]? = some x := ⟨ws[i], List.getElem?_eq_getElem hlt⟩
        rw [decide_eq_true (show ((i : Nat) : Int) < ((ws.length : Nat) : Int) by omega)]
        have hw2 : w = some x := hwE.symm.trans hx
        subst hw2
        refine iteT ⟨_, rfl, _, rfl, W, _, _, _, rfl, rfl, SqL.of hB3.2.2.2.1, atI_nat (show (strV ws)[i]? = some (.str x) by unfold strV; rw [List.getElem?_map, hx]; rfl), hD2 _ _ ⟨rfl, rfl⟩⟩
      · rw [decide_eq_false (show ¬ ((i : Nat) : Int) < ((ws.length : Nat) : Int) by omega)]
        have hw2 : w = none := hwn.mpr (by omega)
        subst hw2
        exact iteF (hD2 _ _ ⟨rfl, rfl⟩)
    rintro _ _ ⟨rfl, rfl⟩
    have hxl : ∀ x, w = some x → x.length ≤ 100000 := fun x e => hws.2 x (List.mem_of_getElem? (hwE.trans e))
    refine seq10 (a := tWhile _ _) (fun σ' H' => ∃ (L : Addr) (vs : List V) (S : List Sg) (x5 x6 : Option V), σ' = [some (.str z), some (.ref L), some (.ref W), some (.int (i : Nat)), some (wOf w), x5, x6, x7] ∧ BkI K H ws L W vs S H' ∧ bkM ws (ws.length + 1 - i) i S = pProg ws ∧ vs.length ≤ 4 + 20 * i ∧ Calm S) (fun D2 hD2 hrt2 => ?_) ?_
    · refine ⟨fun m σ' H' => ∃ (L : Addr) (vs : List V) (S : List Sg) (x5 x6 : Option V), m = tops S ∧ σ' = [some (.str z), some (.ref L), some (.ref W), some (.int (i : Nat)), some (wOf w), x5, x6, x7] ∧ BkI K H ws L W vs S H' ∧ bkM ws (ws.length + 1 - i) i S = pProg ws ∧ vs.length ≤ 4 + 20 * i ∧ (tops S ≠ 0 → vs.length ≤ 1 + 20 * i), ⟨_, L, vs, S, x5, x6, rfl, rfl, hB3, hbk, by omega, fun _ => hvl⟩, ?_⟩
      rintro m σ' H4 ⟨L4, vs4, S4, y5, y6, rfl, rfl, hB4, hbk4, hvl4, hvt4⟩
      refine ⟨_, rfl, Nat.zero_le _, fun p np => ?_⟩
      have s5 := Same.new np (o := .lst [])
      have e5 : (upd H4 p (.lst [])) p = some (.lst []) := upd_same
      revert s5 e5
      generalize upd H4 p (.lst []) = H5
      intro s5 e5
      refine ⟨_, nil_tl (s5 _ _ hB4.2.2.1) e5, fun H6 s6 => ⟨_, rfl, ?_⟩⟩
      have hB6 := (hB4.same s5).same s6
      have ends : Calm S4 → D2.nx [some (V.str z), some (V.ref L4), some (V.ref W), some (V.int ((i : Nat) : Int)), some (wOf w), y5, y6, x7] H6 := fun hc => hD2 _ _ ⟨L4, vs4, S4, y5, y6, rfl, hB6, hbk4, hvl4, hc⟩
      have hcase : S4 = [] ∨ ∃ g S5 us v, S4 = g :: S5 ∧ vs4 = us ++ [v] ∧ SgV K H6 g v := by
        cases S4 with
        | nil => exact .inl rfl
        | cons g S5 =>
          obtain ⟨us, v, rfl⟩ := hB4.last
          refine .inr ⟨g, S5, us, v, rfl, rfl, ?_⟩
          have h6 := hB6.2.2.2.2.2
          rw [List.reverse_append] at h6
          cases h6 with
          | cons a t => exact a
      rcases hcase with rfl | ⟨g, S5, us, v, rfl, rfl, hv⟩
      · rw [hB4.nil]
        refine iteF (iteF (ends trivial))
      rw [decide_eq_false (show ¬ us ++ [v] = [] by simp)]
      refine iteT ?_
      have hkind : (∃ (n : Nat) (kd : Str) (a : Addr), v = .ref a ∧ SqT K H6 a [.str kd, .int ((9 - n : Nat) : Int)] ∧ n ≤ 8 ∧ ((g = .row n ∧ kd = "row") ∨ (g = .more n ∧ kd = "more") ∨ (g = .deed n ∧ kd = "deed"))) ∨ ((∃ x, v = .str x) ∧ Calm (g :: S5)) := by
        cases g with
        | row n => obtain ⟨a, h1, h2, h3⟩ := hv; exact .inl ⟨n, _, a, h1, h2, h3, .inl ⟨rfl, rfl⟩⟩
        | more n => obtain ⟨a, h1, h2, h3⟩ := hv; exact .inl ⟨n, _, a, h1, h2, h3, .inr (.inl ⟨rfl, rfl⟩)⟩
        | deed n => obtain ⟨a, h1, h2, h3⟩ := hv; exact .inl ⟨n, _, a, h1, h2, h3, .inr (.inr ⟨rfl, rfl⟩)⟩
        | name => exact .inr ⟨⟨_, hv⟩, trivial⟩
        | value => exact .inr ⟨⟨_, hv⟩, trivial⟩
        | word z => exact .inr ⟨⟨_, hv.1⟩, trivial⟩
      have hL6 := hB6.2.2.1
      rcases hkind with ⟨n, kd, a, rfl, hq, h8, hg⟩ | ⟨⟨x, rfl⟩, hcalm⟩
      · refine ⟨_, rfl, _, rfl, L4, _, _, _, rfl, rfl, SqL.of hL6, atLastV us _, _, _, _, _, true, rfl, .ty "tuple", sqt_ty hq, ktt, _, rfl, iteT ?_⟩
        refine ⟨_, rfl, _, rfl, L4, _, _, _, rfl, rfl, SqL.of hL6, atLastV us _, a, _, 0, _, rfl, rfl, hq, atI_nat (j := 0) rfl, rfl, _, rfl, ?_⟩
        have hB7 := hB6.pop
        have kt7 : KT H6 (upd H6 L4 (.lst us)) := KT.lst hL6
        have hlast : (us ++ [V.ref a])[(us ++ [V.ref a]).length - 1]? = some (V.ref a) := by
          rw [List.length_append, List.length_singleton, Nat.add_sub_cancel, List.getElem?_append_right (Nat.le_refl _), Nat.sub_self]
          rfl
        have hvl5 : us.length + 1 ≤ 4 + 20 * i := by simpa using hvl4
        rcases hg with ⟨rfl, rfl⟩ | ⟨rfl, rfl⟩ | ⟨rfl, rfl⟩
        · refine iteT ⟨fun σ' H2 => ∃ m', m' < _ ∧ _, fun σ' H2 z => z, ?_⟩
          dsimp only [gName]
          refine ⟨_, rfl, .inl ⟨rfl, _, SqL.of hL6⟩, L4, _, .ref a, rfl, rfl, hL6, hlast, ?_⟩
          rw [List.dropLast_concat]
          refine ⟨a, _, rfl, sqt_kt kt7 hq, rfl, _, _, rfl, _, _, rfl, rfl, ?_⟩
          generalize hG : upd H6 L4 (.lst us) = H7 at hB7 kt7 ⊢
          have hv1 : us.length ≤ 1 + 20 * i := by
            have := hvt4 (by show tops S5 + 1 ≠ 0; omega)
            rw [List.length_append, List.length_singleton] at this
            omega
          have pass : redM w (Sg.row n :: S5) = redM w S5 → ∃ m', m' < tops (Sg.row n :: S5) ∧ ∃ (L : Addr) (vs : List V) (S : List Sg) (x5 x6 : Option V), m' = tops S ∧ [some (V.str z), some (V.ref L4), some (V.ref W), some (V.int ((i : Nat) : Int)), some (wOf w), some (.str "row"), some (.int ((9 - n : Nat) : Int)), x7] = [some (.str z), some (.ref L), some (.ref W), some (.int (i : Nat)), some (wOf w), x5, x6, x7] ∧ BkI K H ws L W vs S H7 ∧ bkM ws (ws.length + 1 - i) i S = pProg ws ∧ vs.length ≤ 4 + 20 * i ∧ (tops S ≠ 0 → vs.length ≤ 1 + 20 * i) := fun hr => by
            refine ⟨tops S5, by show tops S5 < tops S5 + 1; omega, L4, us, S5, _, _, rfl, rfl, hB7.1, ?_, by omega, fun _ => by omega⟩
            rw [← hbk4]
            refine (bk_red ?_).symm
            rw [hwE]
            exact hr
          have done : ∀ (H8 : Hp) (p : Addr) (vs8 : List V) (S8 : List Sg), Same H7 H8 → H7 p = none → H8 p = some (.lst vs8) → SgsV K H8 vs8.reverse S8 → redM w (Sg.row n :: S5) = redM w S8 → tops S8 = 0 → vs8.length ≤ 4 + 20 * i → ∃ m', m' < tops (Sg.row n :: S5) ∧ ∃ (L : Addr) (vs : List V) (S : List Sg) (x5 x6 : Option V), m' = tops S ∧ [some (V.str z), some (V.ref p), some (V.ref W), some (V.int ((i : Nat) : Int)), some (wOf w), some (.str "row"), some (.int ((9 - n : Nat) : Int)), x7] = [some (.str z), some (.ref L), some (.ref W), some (.int (i : Nat)), some (wOf w), x5, x6, x7] ∧ BkI K H ws L W vs S H8 ∧ bkM ws (ws.length + 1 - i) i S = pProg ws ∧ vs.length ≤ 4 + 20 * i ∧ (tops S ≠ 0 → vs.length ≤ 1 + 20 * i) := fun H8 p vs8 S8 s8 np h8 hs8 hr ht hl8 => by
            refine ⟨tops S8, by rw [ht]; show 0 < tops S5 + 1; omega, p, vs8, S8, _, _, rfl, rfl, hB7.1.new s8 np h8 hs8, ?_, hl8, fun z => (z ht).elim⟩
            rw [← hbk4]
            refine (bk_red ?_).symm
            rw [hwE]
            exact hr
          refine ⟨_, rfl, rfl, _, rfl, iteT10 (decide_eq_true rfl) ?_⟩
          cases w with
          | none =>
            refine ⟨_, rfl, _, rfl, iteF10 (by decide +kernel) (iteF ?_)⟩
            refine ⟨_, rfl, rfl, _, rfl, iteF10 (by decide +kernel) (iteF ?_)⟩
            exact pass rfl
          | some x =>
            refine ⟨_, rfl, _, rfl, iteT10 (by show (!decide (V.str x = V.non)) = true; rw [decide_eq_false (fun e => nomatch e)]; rfl) ?_⟩
            refine ⟨_, rfl, rfl, _, rfl, ?_⟩
            by_cases hx : x = "]"
            · subst hx
              refine iteF10 (by decide +kernel) ?_
              refine ⟨_, rfl, rfl, _, rfl, iteF10 (by decide +kernel) (iteF ?_)⟩
              exact pass rfl
            · refine iteT10 (by show (!decide (V.str x = V.str "]")) = true; rw [decide_eq_false (fun e => hx (V.str.inj e))]; rfl) ?_
              refine ⟨_, rfl, _, rfl, by show 2 ≤ sizeLine; omega, fun T1 nT1 => ?_⟩
              have s8 := Same.new nT1 (o := .tup [V.str "more", .int ((9 - n : Nat) : Int)])
              have e8 : (upd H7 T1 (.tup [V.str "more", .int ((9 - n : Nat) : Int)])) T1 = some (.tup [V.str "more", .int ((9 - n : Nat) : Int)]) := upd_same
              revert s8 e8
              generalize upd H7 T1 (.tup [V.str "more", .int ((9 - n : Nat) : Int)]) = H8
              intro s8 e8
              refine ⟨_, rfl, by show 2 ≤ sizeLine; omega, fun T2 nT2 => ?_⟩
              have s9 := Same.new nT2 (o := .tup [V.str "deed", .int ((9 - n : Nat) : Int)])
              have e9 : (upd H8 T2 (.tup [V.str "deed", .int ((9 - n : Nat) : Int)])) T2 = some (.tup [V.str "deed", .int ((9 - n : Nat) : Int)]) := upd_same
              revert s9 e9
              generalize upd H8 T2 (.tup [V.str "deed", .int ((9 - n : Nat) : Int)]) = H9
              intro s9 e9
              refine ⟨by show 2 ≤ sizeLine; omega, fun A nA => ?_⟩
              have sa := Same.new nA (o := .lst [V.ref T1, V.ref T2])
              have ea : (upd H9 A (.lst [V.ref T1, V.ref T2])) A = some (.lst [V.ref T1, V.ref T2]) := upd_same
              revert sa ea
              generalize upd H9 A (.lst [V.ref T1, V.ref T2]) = Ha
              intro sa ea
              have s7a := (s8.trans s9).trans sa
              refine ⟨L4, A, _, _, rfl, rfl, s7a _ _ hB7.1.2.2.1, ea, by show us.length + 2 ≤ sizeLine; omega, fun p np => ?_⟩
              have sb := Same.new np (o := .lst (us ++ [V.ref T1, V.ref T2]))
              have eb : (upd Ha p (.lst (us ++ [V.ref T1, V.ref T2]))) p = some (.lst (us ++ [V.ref T1, V.ref T2])) := upd_same
              revert sb eb
              generalize upd Ha p (.lst (us ++ [V.ref T1, V.ref T2])) = Hb
              intro sb eb
              have ht1 : SqT K Hb T1 [V.str "more", .int ((9 - n : Nat) : Int)] := SqT.of (sb _ _ (sa _ _ (s9 _ _ e8)))
              have ht2 : SqT K Hb T2 [V.str "deed", .int ((9 - n : Nat) : Int)] := SqT.of (sb _ _ (sa _ _ e9))
              have hS5 : SgsV K Hb us.reverse S5 := SgsV.kt (KT.of (s7a.trans sb)) hB7.1.2.2.2.2.2
              exact done Hb p _ (.deed n :: .more n :: S5) (s7a.trans sb) (s7a.free np) eb (by rw [List.reverse_append]; exact .cons ⟨T2, rfl, ht2, h8⟩ (.cons ⟨T1, rfl, ht1, h8⟩ hS5)) (by show (if _ then _ else _) = _; rw [if_pos ⟨by simp, fun z => hx (Option.some.inj z)⟩]; rfl) rfl (by rw [List.length_append]; show us.length + 2 ≤ _; omega)
        · refine iteT ⟨fun σ' H2 => ∃ m', m' < _ ∧ _, fun σ' H2 z => z, ?_⟩
          dsimp only [gName]
          refine ⟨_, rfl, .inl ⟨rfl, _, SqL.of hL6⟩, L4, _, .ref a, rfl, rfl, hL6, hlast, ?_⟩
          rw [List.dropLast_concat]
          refine ⟨a, _, rfl, sqt_kt kt7 hq, rfl, _, _, rfl, _, _, rfl, rfl, ?_⟩
          generalize hG : upd H6 L4 (.lst us) = H7 at hB7 kt7 ⊢
          have hv1 : us.length ≤ 1 + 20 * i := by
            have := hvt4 (by show tops S5 + 1 ≠ 0; omega)
            rw [List.length_append, List.length_singleton] at this
            omega
          have pass : redM w (Sg.more n :: S5) = redM w S5 → ∃ m', m' < tops (Sg.more n :: S5) ∧ ∃ (L : Addr) (vs : List V) (S : List Sg) (x5 x6 : Option V), m' = tops S ∧ [some (V.str z), some (V.ref L4), some (V.ref W), some (V.int ((i : Nat) : Int)), some (wOf w), some (.str "more"), some (.int ((9 - n : Nat) : Int)), x7] = [some (.str z), some (.ref L), some (.ref W), some (.int (i : Nat)), some (wOf w), x5, x6, x7] ∧ BkI K H ws L W vs S H7 ∧ bkM ws (ws.length + 1 - i) i S = pProg ws ∧ vs.length ≤ 4 + 20 * i ∧ (tops S ≠ 0 → vs.length ≤ 1 + 20 * i) := fun hr => by
            refine ⟨tops S5, by show tops S5 < tops S5 + 1; omega, L4, us, S5, _, _, rfl, rfl, hB7.1, ?_, by omega, fun _ => by omega⟩
            rw [← hbk4]
            refine (bk_red ?_).symm
            rw [hwE]
            exact hr
          have done : ∀ (H8 : Hp) (p : Addr) (vs8 : List V) (S8 : List Sg), Same H7 H8 → H7 p = none → H8 p = some (.lst vs8) → SgsV K H8 vs8.reverse S8 → redM w (Sg.more n :: S5) = redM w S8 → tops S8 = 0 → vs8.length ≤ 4 + 20 * i → ∃ m', m' < tops (Sg.more n :: S5) ∧ ∃ (L : Addr) (vs : List V) (S : List Sg) (x5 x6 : Option V), m' = tops S ∧ [some (V.str z), some (V.ref p), some (V.ref W), some (V.int ((i : Nat) : Int)), some (wOf w), some (.str "more"), some (.int ((9 - n : Nat) : Int)), x7] = [some (.str z), some (.ref L), some (.ref W), some (.int (i : Nat)), some (wOf w), x5, x6, x7] ∧ BkI K H ws L W vs S H8 ∧ bkM ws (ws.length + 1 - i) i S = pProg ws ∧ vs.length ≤ 4 + 20 * i ∧ (tops S ≠ 0 → vs.length ≤ 1 + 20 * i) := fun H8 p vs8 S8 s8 np h8 hs8 hr ht hl8 => by
            refine ⟨tops S8, by rw [ht]; show 0 < tops S5 + 1; omega, p, vs8, S8, _, _, rfl, rfl, hB7.1.new s8 np h8 hs8, ?_, hl8, fun z => (z ht).elim⟩
            rw [← hbk4]
            refine (bk_red ?_).symm
            rw [hwE]
            exact hr
          refine ⟨_, rfl, rfl, _, rfl, iteF10 (by decide +kernel) (iteF ?_)⟩
          refine ⟨_, rfl, rfl, _, rfl, iteT10 (decide_eq_true rfl) ?_⟩
          cases w with
          | none =>
            refine ⟨_, rfl, rfl, _, rfl, iteF10 (by decide +kernel) ?_⟩
            exact pass rfl
          | some x =>
            refine ⟨_, rfl, rfl, _, rfl, ?_⟩
            by_cases hx : x = ";"
            · subst hx
              refine iteT10 (by decide +kernel) ?_
              refine ⟨_, rfl, _, rfl, by show 2 ≤ sizeLine; omega, fun T1 nT1 => ?_⟩
              have s8 := Same.new nT1 (o := .tup [V.str "more", .int ((9 - n : Nat) : Int)])
              have e8 : (upd H7 T1 (.tup [V.str "more", .int ((9 - n : Nat) : Int)])) T1 = some (.tup [V.str "more", .int ((9 - n : Nat) : Int)]) := upd_same
              revert s8 e8
              generalize upd H7 T1 (.tup [V.str "more", .int ((9 - n : Nat) : Int)]) = H8
              intro s8 e8
              refine ⟨_, rfl, by show 2 ≤ sizeLine; omega, fun T2 nT2 => ?_⟩
              have s9 := Same.new nT2 (o := .tup [V.str "deed", .int ((9 - n : Nat) : Int)])
              have e9 : (upd H8 T2 (.tup [V.str "deed", .int ((9 - n : Nat) : Int)])) T2 = some (.tup [V.str "deed", .int ((9 - n : Nat) : Int)]) := upd_same
              revert s9 e9
              generalize upd H8 T2 (.tup [V.str "deed", .int ((9 - n : Nat) : Int)]) = H9
              intro s9 e9
              refine ⟨by show 3 ≤ sizeLine; omega, fun A nA => ?_⟩
              have sa := Same.new nA (o := .lst [V.ref T1, V.ref T2, V.str ";"])
              have ea : (upd H9 A (.lst [V.ref T1, V.ref T2, V.str ";"])) A = some (.lst [V.ref T1, V.ref T2, V.str ";"]) := upd_same
              revert sa ea
              generalize upd H9 A (.lst [V.ref T1, V.ref T2, V.str ";"]) = Ha
              intro sa ea
              have s7a := (s8.trans s9).trans sa
              refine ⟨L4, A, _, _, rfl, rfl, s7a _ _ hB7.1.2.2.1, ea, by show us.length + 3 ≤ sizeLine; omega, fun p np => ?_⟩
              have sb := Same.new np (o := .lst (us ++ [V.ref T1, V.ref T2, V.str ";"]))
              have eb : (upd Ha p (.lst (us ++ [V.ref T1, V.ref T2, V.str ";"]))) p = some (.lst (us ++ [V.ref T1, V.ref T2, V.str ";"])) := upd_same
              revert sb eb
              generalize upd Ha p (.lst (us ++ [V.ref T1, V.ref T2, V.str ";"])) = Hb
              intro sb eb
              have ht1 : SqT K Hb T1 [V.str "more", .int ((9 - n : Nat) : Int)] := SqT.of (sb _ _ (sa _ _ (s9 _ _ e8)))
              have ht2 : SqT K Hb T2 [V.str "deed", .int ((9 - n : Nat) : Int)] := SqT.of (sb _ _ (sa _ _ e9))
              have hS5 : SgsV K Hb us.reverse S5 := SgsV.kt (KT.of (s7a.trans sb)) hB7.1.2.2.2.2.2
              exact done Hb p _ (.word ";" :: .deed n :: .more n :: S5) (s7a.trans sb) (s7a.free np) eb (by rw [List.reverse_append]; exact .cons ⟨rfl, by simp⟩ (.cons ⟨T2, rfl, ht2, h8⟩ (.cons ⟨T1, rfl, ht1, h8⟩ hS5))) (rfl) rfl (by rw [List.length_append]; show us.length + 3 ≤ _; omega)
            · refine iteF10 (by show decide (V.str x = V.str ";") = false; rw [decide_eq_false (fun e => hx (V.str.inj e))]) ?_
              exact pass (if_neg (fun z => hx (Option.some.inj z)))
        · exact iteF (ends trivial)
      · refine ⟨_, rfl, _, rfl, L4, _, _, _, rfl, rfl, SqL.of hL6, atLastV us _, _, _, _, _, false, rfl, .ty "tuple", .base (.str _), kst, _, rfl, iteF (iteF (ends hcalm))⟩
    rintro σ4 H4 ⟨L4, vs4, S4, y5, y6, rfl, hB4, hbk4, hvl4, hcm⟩
    have hi2 : i ≤ ws.length := by omega
    have hfuel : ws.length + 1 - i = (ws.length - i) + 1 := by omega
    rw [hfuel, bkM, hwE] at hbk4
    refine seq10 (a := tIfS _ _ _) (fun σ' H' => σ' = [some (.str z), some (.ref L4), some (.ref W), some (.int (i : Nat)), some (wOf w), y5, y6, x7] ∧ H4 = H' ∧ ∃ x, w = some x) (fun D2 hD2 hrt2 => ?_) ?_
    · refine ⟨_, rfl, _, rfl, ?_⟩
      cases w with
      | some x =>
        refine iteF10 (by show decide (V.str x = V.non) = false; exact decide_eq_false (fun e => nomatch e)) ?_
        exact hD2 _ _ ⟨rfl, rfl, x, rfl⟩
      | none =>
        refine iteT10 (by decide +kernel) ?_
        dsimp only at hbk4
        rw [redM_calm none hcm] at hbk4
        refine ⟨_, rfl, by show 2 ≤ sizeLine; omega, fun A nA => ?_⟩
        have s5 := Same.new nA (o := .lst [V.int ((i : Nat) : Int), V.non])
        have e5 : (upd H4 A (.lst [V.int ((i : Nat) : Int), V.non])) A = some (.lst [V.int ((i : Nat) : Int), V.non]) := upd_same
        revert s5 e5
        generalize upd H4 A (.lst [V.int ((i : Nat) : Int), V.non]) = H5
        intro s5 e5
        refine ⟨_, rfl, Nat.zero_le _, fun p np => ?_⟩
        have s6 := Same.new np (o := .lst [])
        have e6 : (upd H5 p (.lst [])) p = some (.lst []) := upd_same
        revert s6 e6
        generalize upd H5 p (.lst []) = H6
        intro s6 e6
        refine ⟨_, nil_tl ((s5.trans s6) _ _ hB4.2.2.1) e6, fun H7 s7 => .inr ⟨_, rfl, A, _, _, _, rfl, rfl, SqL.of ((s6.trans s7) _ _ e5), at_bl _, ?_⟩⟩
        rw [hrt2, hrt]
        have s07 : Same H H7 := hB4.1.trans ((s5.trans s6).trans s7)
        cases S4 with
        | nil =>
          rw [hB4.nil]
          exact k.1 hbk4.symm H7 s07
        | cons g S5 =>
          obtain ⟨us, v, rfl⟩ := hB4.last
          rw [decide_eq_false (show ¬ us ++ [v] = [] by simp)]
          exact k.2 i hbk4.symm H7 s07
    rintro _ _ ⟨rfl, rfl, x, rfl⟩
    dsimp only at hbk4
    rw [redM_calm _ hcm] at hbk4
    refine seq10 (a := tAsg _ _) (fun σ' H' => ∃ dv, σ' = [some (.str z), some (.ref L4), some (.ref W), some (.int (i : Nat)), some (.str x), y5, y6, some dv] ∧ Same H H' ∧ ((dv = .non ∧ pProg ws = some i) ∨ ∃ D us due vs S5, dv = .ref D ∧ H' D = some (.lst us) ∧ SgsV K H' us due ∧ BkI K H ws L4 W vs S5 H' ∧ bkM ws (ws.length - i) (i + 1) (due ++ S5) = pProg ws ∧ us.length ≤ 7 ∧ vs.length ≤ 3 + 20 * i)) (fun D2 hD2 hrt2 => ?_) ?_
    · refine ⟨_, rfl, Nat.zero_le _, fun p np => ?_⟩
      have s5 := Same.new np (o := .lst [])
      have e5 : (upd H4 p (.lst [])) p = some (.lst []) := upd_same
      revert s5 e5
      generalize upd H4 p (.lst []) = H5
      intro s5 e5
      refine ⟨_, nil_tl (s5 _ _ hB4.2.2.1) e5, fun H6 s6 => ⟨_, rfl, ?_⟩⟩
      have hB6 := (hB4.same s5).same s6
      cases S4 with
      | nil =>
        rw [hB4.nil]
        exact iteF (hD2 _ _ ⟨_, rfl, hB6.1, .inl ⟨rfl, hbk4.symm⟩⟩)
      | cons g S5 =>
        obtain ⟨us, v, rfl⟩ := hB4.last
        rw [decide_eq_false (show ¬ us ++ [v] = [] by simp)]
        refine iteT ?_
        have hB7 := hB6.pop
        have hlast : (us ++ [v])[(us ++ [v]).length - 1]? = some v := by
          rw [List.length_append, List.length_singleton, Nat.add_sub_cancel, List.getElem?_append_right (Nat.le_refl _), Nat.sub_self]
          rfl
        have hvl5 : us.length + 1 ≤ 4 + 20 * i := by simpa using hvl4
        dsimp only at hbk4
        refine ⟨_, rfl, .inl ⟨rfl, _, SqL.of hB6.2.2.1⟩, L4, _, v, rfl, rfl, hB6.2.2.1, hlast, ?_⟩
        rw [List.dropLast_concat]
        generalize hG : upd H6 L4 (.lst us) = H7 at hB7 ⊢
        refine ⟨_, rfl, v, g, x, rfl, hB7.2, hxl x rfl, fun hm H8 s8 => ?_, fun due hm D us2 H8 s8 h8 hs8 => ?_⟩
        · rw [hm] at hbk4
          exact hD2 _ _ ⟨_, rfl, hB7.1.1.trans s8, .inl ⟨rfl, hbk4.symm⟩⟩
        · rw [hm] at hbk4
          have hdl : due.length ≤ 7 := metM_len hm
          refine hD2 _ _ ⟨_, rfl, hB7.1.1.trans s8, .inr ⟨D, us2, due, us, S5, rfl, h8, hs8, hB7.1.same s8, hbk4, by rw [Paired.length hs8]; exact hdl, by omega⟩⟩
    rintro σ7 H7 ⟨dv, rfl, s7, hdv⟩
    refine seq10 (a := tIfS _ _ _) (fun σ' H' => σ' = [some (.str z), some (.ref L4), some (.ref W), some (.int (i : Nat)), some (.str x), y5, y6, some dv] ∧ H7 = H' ∧ dv ≠ .non) (fun D2 hD2 hrt2 => ?_) ?_
    · refine ⟨_, rfl, _, rfl, ?_⟩
      rcases hdv with ⟨rfl, hp⟩ | ⟨D, us, due, vs5, S5, rfl, _⟩
      · refine iteT10 (by decide +kernel) ⟨_, rfl, ?_⟩
        rw [hrt2, hrt]
        exact k.2 i hp H7 s7
      · exact iteF10 (decide_eq_false (fun e => nomatch e)) (hD2 _ _ ⟨rfl, rfl, fun e => nomatch e⟩)
    rintro _ _ ⟨rfl, rfl, hnn⟩
    rcases hdv with ⟨rfl, hp⟩ | ⟨D, us, due, vs5, S5, rfl, hDl, hus, hB8, hbk8, hul, hvl8⟩
    · exact (hnn rfl).elim
    refine ⟨_, rfl, _, rfl, D, us, rfl, SqL.of hDl, fun p np => ?_⟩
    have s8 := Same.new np (o := .lst us.reverse)
    have e8 : (upd H7 p (.lst us.reverse)) p = some (.lst us.reverse) := upd_same
    revert s8 e8
    generalize upd H7 p (.lst us.reverse) = H8
    intro s8 e8
    refine ⟨L4, p, _, _, rfl, rfl, s8 _ _ hB8.2.2.1, e8, by rw [List.length_reverse]; omega, fun q nq => ?_⟩
    have s9 := Same.new nq (o := .lst (vs5 ++ us.reverse))
    have e9 : (upd H8 q (.lst (vs5 ++ us.reverse))) q = some (.lst (vs5 ++ us.reverse)) := upd_same
    revert s9 e9
    generalize upd H8 q (.lst (vs5 ++ us.reverse)) = H9
    intro s9 e9
    refine ⟨q, _, due ++ S5, _, _, _, _, _, rfl, hB8.new (s8.trans s9) (s8.free nq) e9 ?_, ?_, by rw [List.length_append, List.length_reverse]; omega⟩
    · rw [List.reverse_append, List.reverse_reverse]
      exact sgs_app (hus.kt (KT.of (s8.trans s9))) (hB8.2.2.2.2.2.kt (KT.of (s8.trans s9)))
    · rw [show ws.length + 1 - (i + 1) = ws.length - i by omega]
      exact hbk8
end
end Js
set_option Elab.async false
set_option linter.all false
set_option maxRecDepth 100000
set_option maxHeartbeats 2000000
namespace Js
open PySem L2
abbrev sName : Stmt := top 52
abbrev sDeed : Stmt := top 53
abbrev sDeeds : Stmt := top 54
abbrev sTop : Stmt := top 55
mutual
def Dd.sm : Dd → Prop
  | .told _ t => t.size ≤ 3
  | .take _ _ _ => True
  | .two _ _ _ _ => True
  | .wh _ r => smR r
  | .iff _ r o => smR r ∧ smR o
def smR : List Dd → Prop
  | [] => True
  | d :: r => d.sm ∧ smR r
end
theorem smR_app : ∀ (a b : List Dd), smR a → smR b → smR (a ++ b)
  | [], _, _, h => h
  | _ :: a, b, h, h2 => ⟨h.1, smR_app a b h.2 h2⟩
def KC (p f : Addr) (H H' : Hp) : Prop := ∀ a o, a ≠ p → a ≠ f → H a = some o → H' a = some o
theorem KC.refl (p f : Addr) (H : Hp) : KC p f H H := fun _ _ _ _ h => h
theorem KC.of {p f : Addr} {H H' : Hp} (s : Same H H') : KC p f H H' := fun _ _ _ _ h => s _ _ h
theorem KC.kb {p f : Addr} {H H' : Hp} (k : KB p H H') : KC p f H H' := fun _ _ n _ h => k _ _ n h
theorem KC.trans {p f : Addr} {H H1 H2 : Hp} (a : KC p f H H1) (b : KC p f H1 H2) : KC p f H H2 := fun x o n m h => b x o n m (a x o n m h)
theorem KC.set {p f : Addr} {H : Hp} {o : HO} : KC p f H (upd H f o) := fun x u _ m h => by rw [upd_ne m]; exact h
theorem KC.kt {p f : Addr} {H H' : Hp} (k : KC p f H H') {xs ys : List V} (hp : H p = some (.lst xs)) (hf : H f = some (.lst ys)) : KT H H' := fun a o h n => k a o (fun z => by subst z; exact n _ (Option.some.inj (h.symm.trans hp))) (fun z => by subst z; exact n _ (Option.some.inj (h.symm.trans hf))) h
def Lf (H : Hp) (f : Addr) (l : Nat) : Prop := H f = some (.lst [.int (l : Nat)])
def spName : Sp := fun vs H Q _ => ∃ p, vs = [.ref p] ∧ BagOk H p ∧ ∀ (a : Nat) H', KB p H H' → BagOk H' p → a < 10 → Q (.int (a : Nat)) H'
def spDeed (K : PySem.W.Frag) (C : Addr) (m : Nat) : Sp := fun vs H Q _ => ∃ (p f : Addr) (dp l : Nat), vs = [.ref p, .ref f, .int (dp : Nat)] ∧ BagOk H p ∧ Lf H f l ∧ p ≠ f ∧ dp + m = 5 ∧ l ≤ 1000 ∧
  ∀ v d l' H', KC p f H H' → BagOk H' p → Lf H' f l' → l' ≤ l → DAt K C H' v d → d.deep ≤ m → d.many ≤ 2 * (l - l') + 2 → d.sm → Q v H'
def spDeeds (K : PySem.W.Frag) (C : Addr) (m : Nat) : Sp := fun vs H Q _ => ∃ (p f : Addr) (dp l : Nat), vs = [.ref p, .ref f, .int (dp : Nat)] ∧ BagOk H p ∧ Lf H f l ∧ p ≠ f ∧ dp + m = 6 ∧ 1 ≤ m ∧ l ≤ 1000 ∧
  ∀ q r l' H', KC p f H H' → BagOk H' p → Lf H' f l' → l' ≤ l → RAt K C H' q r → deepR r + 1 ≤ m → manyR r ≤ 2 * (l - l') → smR r → Q (.ref q) H'
theorem name_at (d : Int) (h0 : 0 ≤ d) (h1 : d < 8) : ∃ a : Nat, atI [V.int 0, V.int 0, V.int 0, V.int 1, V.int 1, V.int 2, V.int 2, V.int 3] d = some (.int (a : Nat)) ∧ a < 10 := by
  obtain ⟨n, rfl⟩ := Int.eq_ofNat_of_zero_le h0
  match n, h1 with
  | 0, _ => exact ⟨0, rfl, by decide⟩
  | 1, _ => exact ⟨0, rfl, by decide⟩
  | 2, _ => exact ⟨0, rfl, by decide⟩
  | 3, _ => exact ⟨1, rfl, by decide⟩
  | 4, _ => exact ⟨1, rfl, by decide⟩
  | 5, _ => exact ⟨2, rfl, by decide⟩
  | 6, _ => exact ⟨2, rfl, by decide⟩
  | 7, _ => exact ⟨3, rfl, by decide⟩
  | n + 8, h => exact absurd h (by omega)
theorem kind_at (d : Int) (h0 : 0 ≤ d) (h1 : d < 6) : ∃ k : Str, atI [V.str "first", V.str "second", V.str "second", V.str "pair", V.str "pair", V.str "same"] d = some (.str k) ∧ ((∃ s, k = takeS s) ∨ ∃ s, k = twoS s) := by
  obtain ⟨n, rfl⟩ := Int.eq_ofNat_of_zero_le h0
  match n, h1 with
  | 0, _ => exact ⟨_, rfl, .inl ⟨false, rfl⟩⟩
  | 1, _ => exact ⟨_, rfl, .inl ⟨true, rfl⟩⟩
  | 2, _ => exact ⟨_, rfl, .inl ⟨true, rfl⟩⟩
  | 3, _ => exact ⟨_, rfl, .inr ⟨false, rfl⟩⟩
  | 4, _ => exact ⟨_, rfl, .inr ⟨false, rfl⟩⟩
  | 5, _ => exact ⟨_, rfl, .inr ⟨true, rfl⟩⟩
  | n + 6, h => exact absurd h (by omega)
theorem in_take (s : Bool) : inV (.str (takeS s)) [V.str "pair", V.str "same"] = false := by cases s <;> decide +kernel
theorem in_two (s : Bool) : inV (.str (twoS s)) [V.str "pair", V.str "same"] = true := by cases s <;> decide +kernel
theorem DsAt_snoc {K : PySem.W.Frag} {C : Addr} {H : Hp} {v : V} {d : Dd} (hd : DAt K C H v d) : ∀ (r : List Dd) (vs : List V), DsAt K C H vs r → DsAt K C H (vs ++ [v]) (r ++ [d])
  | [], vs, h => by
    have e : vs = [] := h
    subst e
    exact ⟨v, [], rfl, hd, rfl⟩
  | e :: r, vs, h => by
    obtain ⟨u, us, rfl, h1, h2⟩ := h
    exact ⟨u, us ++ [v], rfl, h1, DsAt_snoc hd r us h2⟩
theorem DsAt_app {K : PySem.W.Frag} {C : Addr} {H : Hp} : ∀ (r u : List Dd) (vs us : List V), DsAt K C H vs r → DsAt K C H us u → DsAt K C H (vs ++ us) (r ++ u)
  | [], u, vs, us, h, g => by
    have e : vs = [] := h
    subst e
    exact g
  | e :: r, u, vs, us, h, g => by
    obtain ⟨v, ws, rfl, h1, h2⟩ := h
    exact ⟨v, ws ++ us, rfl, h1, DsAt_app r u ws us h2 g⟩
theorem deepR_app : ∀ (a b : List Dd), deepR (a ++ b) = max (deepR a) (deepR b)
  | [], b => by rw [List.nil_append, deepR, Nat.max_eq_right (Nat.zero_le _)]
  | d :: a, b => by rw [List.cons_append, deepR, deepR_app a b, deepR, Nat.max_assoc]
theorem len_many : ∀ r : List Dd, r.length ≤ manyR r
  | [] => Nat.zero_le _
  | d :: r => by
    have := len_many r
    have := many_pos d
    rw [List.length_cons, many_cons]
    omega
theorem deepR_one (d : Dd) : deepR [d] = d.deep := by rw [deepR, deepR, Nat.max_eq_left (Nat.zero_le _)]
section
variable {P : Program} {w : World} {K : PySem.W.Frag} {mg : Str → Option Value} {base : Heap} {C : Addr}
theorem scNa : FnScope ["_law_bag_here"] ["_law_bag_here"] (defScope sName) := ⟨rfl, rfl, rfl, by decide +kernel, rfl, by decide +kernel, by decide +kernel⟩
theorem ok_name {f : Addr} {fd : FuncData} (F : Fun K "_law_name" "_law_name" sName f fd) (DTk : Def P w K mg base "_law_take" 1 ["_law_bag_here", "_law_many"] spTake) : FnOk P w K mg base CX0 2 f fd ["_law_bag_here"] spName := by
  refine F.ok scNa (fun vs H Q E h => ?_) (fun cdv A outer s H vs Q E hr h => ?_)
  · obtain ⟨p, rfl, _⟩ := h
    rfl
  · obtain ⟨p, rfl, hb, k⟩ := h
    have hr1 : Room 1 _ := hr
    refine ⟨_, pss_cons (ps_if (pt_cmpR op_eq (pe_def DTk hr1 rfl (pa_cons (pv 0) (pa_cons pe_int pa_nil))) pe_int (nomark _)) (pss_one (ps_ret (pe_def DTk hr1 rfl (pa_cons (pv 0) (pa_cons pe_int pa_nil))))) pss_nil) (pss_one (ps_ret (pe_ix (r := rIxL K) ix_list (pe_lst (pa_cons pe_int (pa_cons pe_int (pa_cons pe_int (pa_cons pe_int (pa_cons pe_int (pa_cons pe_int (pa_cons pe_int (pa_cons pe_int pa_nil))))))))) (pe_def DTk hr1 rfl (pa_cons (pv 0) (pa_cons pe_int pa_nil))) (fun _ _ => rfl)))), ?_⟩
    refine ⟨_, rfl, p, 12, rfl, hb, by decide, by decide, fun d H1 k1 b1 h0 h1 => ?_⟩
    refine ⟨rfl, _, rfl, ?_⟩
    by_cases hd : d = 0
    · rw [decide_eq_true (show V.int d = V.int 0 by rw [hd])]
      refine iteT ?_
      refine ⟨_, rfl, p, 10, rfl, b1, by decide, by decide, fun d2 H2 k2 b2 h20 h21 => ?_⟩
      obtain ⟨n, rfl⟩ := Int.eq_ofNat_of_zero_le h20
      exact k n H2 (k1.trans k2) b2 (by omega)
    · rw [decide_eq_false (show ¬ V.int d = V.int 0 from fun z => hd (V.int.inj z))]
      refine iteF ?_
      refine ⟨by show 8 ≤ sizeLine; decide, fun L nL => ?_⟩
      have hLp : L ≠ p := fun z => by
        obtain ⟨bx, hbx⟩ := b1.some
        rw [z, hbx] at nL
        cases nL
      have sL := Same.new nL (o := .lst [V.int 0, V.int 0, V.int 0, V.int 1, V.int 1, V.int 2, V.int 2, V.int 3])
      refine ⟨_, rfl, p, 8, rfl, b1.same sL, by decide, by decide, fun d2 H2 k2 b2 h20 h21 => ?_⟩
      obtain ⟨a, ha, ha10⟩ := name_at d2 h20 h21
      exact ⟨L, _, _, _, rfl, rfl, SqL.of (k2 _ _ hLp upd_same), ha, k a H2 ((k1.trans (KB.of sL)).trans k2) b2 ha10⟩
theorem scDe : FnScope ["_law_bag_here", "_law_left", "_law_deep", "_law_way", "_law_a", "_law_b", "_law_c", "_law_kind", "_law_inner"] ["_law_bag_here", "_law_left", "_law_deep"] (defScope sDeed) := ⟨rfl, rfl, rfl, by decide +kernel, rfl, by decide +kernel, by decide +kernel⟩
theorem ok_deed {f fs : Addr} {fd fds : FuncData} {m : Nat} (F : Fun K "_law_deed" "_law_deed" sDeed f fd) (B : Blt mg) (DTk : Def P w K mg base "_law_take" 1 ["_law_bag_here", "_law_many"] spTake) (DNm : Def P w K mg base "_law_name" 2 ["_law_bag_here"] spName) (DTh : Def P w K mg base "_law_thing" 4 ["_law_bag_here", "_law_many"] (spThing C))
    (Gs : FnOk P w K mg base CX0 (2 * m + 4) fs fds ["_law_bag_here", "_law_left", "_law_deep"] (spDeeds K C m)) (mgs : mg "_law_deeds" = some (.ref fs)) (ks : PySem.W.keepIn K (.ref fs) = true) (bs : Binds K fds ["_law_bag_here", "_law_left", "_law_deep"] []) : FnOk P w K mg base CX0 (2 * m + 5) f fd ["_law_bag_here", "_law_left", "_law_deep"] (spDeed K C m) := by
  refine F.ok scDe (fun vs H Q E h => ?_) (fun cdv A outer s H vs Q E hr h => ?_)
  · obtain ⟨p, f, dp, l, rfl, _⟩ := h
    rfl
  · obtain ⟨p, f, dp, l, rfl, hb, hl, hpf, hdm, hll, k⟩ := h
    have hr1 : Room 1 _ := hr.mono (by omega)
    have hr2 : Room 2 _ := hr.mono (by omega)
    have hr4 : Room 4 _ := hr.mono (by omega)
    refine ⟨_, pss_cons (ps_set (i := 3) scDe.nd rfl (Or.inl rfl) (pe_def DTk hr1 rfl (pa_cons (pv 0) (pa_cons pe_int pa_nil)))) (pss_cons (ps_par3 (i := 4) (j := 5) (l := 6) (by rfl) scDe.nd rfl rfl rfl (by decide) (by decide) (by decide) rfl rfl rfl (pa_cons (pe_def DNm hr2 rfl (pa_cons (pv 0) pa_nil)) (pa_cons (pe_def DNm hr2 rfl (pa_cons (pv 0) pa_nil)) (pa_cons (pe_def DNm hr2 rfl (pa_cons (pv 0) pa_nil)) pa_nil))) (by rfl)) (pss_cons (ps_if (pt_cmpR op_lt (pv 3) pe_int (nomark _)) (pss_one (ps_ret (pe_tup (pa_cons pe_str (pa_cons (pv 4) (pa_cons (pe_def DTh hr4 rfl (pa_cons (pv 0) (pa_cons (pe_def DTk hr1 rfl (pa_cons (pv 0) (pa_cons pe_int pa_nil))) pa_nil))) pa_nil)))))) pss_nil) (pss_cons (ps_if (PW.pt (pw_or (pt_cmpR op_lt (pv 3) pe_int (nomark _)) (pw_or1 (pt_cmpR op_gt (pv 2) pe_int (nomark _))))) (pss_cons (ps_set (i := 7) scDe.nd rfl (Or.inl rfl) (pe_ix (r := rIxL K) ix_list (pe_lst (pa_cons pe_str (pa_cons pe_str (pa_cons pe_str (pa_cons pe_str (pa_cons pe_str (pa_cons pe_str pa_nil))))))) (pe_op op_mod (pv 3) pe_int) (fun _ _ => rfl))) (pss_one (ps_ret (pe_slice sl_tupA (pe_tup (pa_cons (pv 7) (pa_cons (pv 4) (pa_cons (pv 5) (pa_cons (pv 6) pa_nil))))) po_none (po_some (pe_op op_add pe_int (pe_callTy call_int1 (by rfl) B.int PyProof.Rows.boot_int (pa_cons (pe_cmpR op_in_seq (pv 7) (pe_tup (pa_cons pe_str (pa_cons pe_str pa_nil))) rfl) pa_nil)))))))) pss_nil) (pss_cons (ps_set (i := 8) scDe.nd rfl (Or.inl rfl) (pe_call Gs hr rfl mgs ks bs .nil pass0 (pa_cons (pv 0) (pa_cons (pv 1) (pa_cons (pe_op op_add (pv 2) pe_int) pa_nil))))) (pss_cons (ps_if (pt_cmpR op_lt (pv 3) pe_int (nomark _)) (pss_cons (ps_if (pt_cmpR op_gt (pe_def DTk hr1 rfl (pa_cons (pv 0) (pa_cons pe_int pa_nil))) pe_int (nomark _)) (pss_one (ps_set (i := 8) scDe.nd rfl (Or.inl rfl) (pe_op op_catA (pv 8) (pe_tup (pa_cons (pe_tup (pa_cons pe_str (pa_cons (pv 4) (pa_cons (pv 4) pa_nil)))) pa_nil))))) pss_nil) (pss_one (ps_ret (pe_tup (pa_cons pe_str (pa_cons (pv 4) (pa_cons (pv 8) pa_nil))))))) pss_nil) (pss_one (ps_ret (pe_tup (pa_cons pe_str (pa_cons (pv 4) (pa_cons (pv 8) (pa_cons (pe_call Gs hr rfl mgs ks bs .nil pass0 (pa_cons (pv 0) (pa_cons (pv 1) (pa_cons (pe_op op_add (pv 2) pe_int) pa_nil)))) pa_nil)))))))))))), ?_⟩
    have hsl := line4
    refine ⟨_, rfl, p, 12, rfl, hb, by decide, by decide, fun wy H1 k1 b1 h0 h1 => ?_⟩
    refine ⟨_, rfl, p, rfl, b1, fun a H2 k2 b2 ha => ?_⟩
    refine ⟨_, rfl, p, rfl, b2, fun bb H3 k3 b3 hbb => ?_⟩
    refine ⟨_, rfl, p, rfl, b3, fun c H4 k4 b4 hc => ?_⟩
    refine ⟨_, _, _, rfl, ?_⟩
    have kb4 : KB p H H4 := ((k1.trans k2).trans k3).trans k4
    have l4 : Lf H4 f l := kb4 _ _ (Ne.symm hpf) hl
    refine ⟨_, rfl, _, _, rfl, rfl, _, rfl, ?_⟩
    by_cases w2 : wy < 2
    · rw [decide_eq_true w2]
      refine iteT ?_
      refine ⟨_, rfl, _, rfl, _, rfl, p, 4, rfl, b4, by decide, by decide, fun tz H5 k5 b5 t0 t1 => ?_⟩
      obtain ⟨n, rfl⟩ := Int.eq_ofNat_of_zero_le t0
      refine ⟨p, n, rfl, b5, by omega, fun x t H6 k6 b6 hx hxs => ?_⟩
      refine ⟨by show 3 ≤ sizeLine; decide, fun T nT => ?_⟩
      have sT := Same.new nT (o := .tup [.str "told", .int (a : Nat), .ref x])
      have kb6 : KB p H4 H6 := k5.trans k6
      refine k (.ref T) (.told a t) l _ ((KC.kb (kb4.trans kb6)).trans (KC.of sT)) (b6.same sT) (sT _ _ (kb6 _ _ (Ne.symm hpf) l4)) (Nat.le_refl _) ⟨T, x, rfl, SqT.of upd_same, ha, hx.same sT, by omega⟩ (Nat.zero_le _) (by rw [many_told]; omega) (by show t.size ≤ 3; omega)
    · rw [decide_eq_false w2]
      refine iteF ?_
      refine ⟨_, rfl, _, _, rfl, rfl, _, rfl, ?_⟩
      by_cases w8 : wy < 8
      · rw [decide_eq_true w8]
        refine iteT (iteT ?_)
        obtain ⟨kk, hkk, hk2⟩ := kind_at (wy % 6) (by omega) (by omega)
        refine ⟨by show 6 ≤ sizeLine; decide, fun L nL => ?_⟩
        have sL := Same.new nL (o := .lst [V.str "first", V.str "second", V.str "second", V.str "pair", V.str "pair", V.str "same"])
        refine ⟨_, rfl, _, _, rfl, rfl, (show (0 : Int) < 6 by decide), L, _, _, _, rfl, rfl, SqL.of upd_same, hkk, ?_⟩
        revert sL
        generalize upd H4 L (.lst [V.str "first", V.str "second", V.str "second", V.str "pair", V.str "pair", V.str "same"]) = H5
        intro sL
        refine ⟨_, rfl, _, rfl, _, rfl, _, rfl, by show 4 ≤ sizeLine; decide, fun T nT => ?_⟩
        have sT := Same.new nT (o := .tup [.str kk, .int (a : Nat), .int (bb : Nat), .int (c : Nat)])
        have hT : (upd H5 T (.tup [.str kk, .int (a : Nat), .int (bb : Nat), .int (c : Nat)])) T = some (.tup [.str kk, .int (a : Nat), .int (bb : Nat), .int (c : Nat)]) := upd_same
        revert sT hT
        generalize upd H5 T (.tup [.str kk, .int (a : Nat), .int (bb : Nat), .int (c : Nat)]) = H6
        intro sT hT
        refine ⟨_, rfl, by show 2 ≤ sizeLine; decide, fun U nU => ?_⟩
        have sU := Same.new nU (o := .tup [V.str "pair", V.str "same"])
        refine ⟨U, _, rfl, .inr (SqT.of upd_same), rfl, rfl, .inr ⟨_, rfl, _, _, rfl, rfl, _, rfl, T, _, rfl, SqT.of (sU _ _ hT), ?_⟩⟩
        have s47 := (sL.trans sT).trans sU
        have kc7 : KC p f H (upd H6 U (.tup [V.str "pair", V.str "same"])) := (KC.kb kb4).trans (KC.of s47)
        have l7 := s47 _ _ l4
        have b7 := b4.same s47
        rcases hk2 with ⟨s, rfl⟩ | ⟨s, rfl⟩
        · rw [show (if false = true then !inV (.str (takeS s)) [V.str "pair", V.str "same"] else inV (.str (takeS s)) [V.str "pair", V.str "same"]) = false from in_take s]
          refine ⟨fun ⟨_, h2⟩ => absurd h2 (show ¬ ((3 : Nat) = 4) by decide), fun _ z nz => ?_⟩
          have sz := Same.new nz (o := .tup [.str (takeS s), .int (a : Nat), .int (bb : Nat)])
          exact k (.ref z) (.take s a bb) l _ (kc7.trans (KC.of sz)) (b7.same sz) (sz _ _ l7) (Nat.le_refl _) ⟨z, rfl, SqT.of upd_same, ha, hbb⟩ (Nat.zero_le _) (by rw [many_take]; omega) trivial
        · rw [show (if false = true then !inV (.str (twoS s)) [V.str "pair", V.str "same"] else inV (.str (twoS s)) [V.str "pair", V.str "same"]) = true from in_two s]
          refine ⟨fun _ => ?_, fun hn => absurd ⟨rfl, rfl⟩ hn⟩
          exact k (.ref T) (.two s a bb c) l _ kc7 b7 l7 (Nat.le_refl _) ⟨T, rfl, SqT.of (sU _ _ hT), ha, hbb, hc⟩ (Nat.zero_le _) (by rw [many_two]; omega) trivial
      · rw [decide_eq_false w8]
        refine iteF ?_
        refine ⟨_, rfl, _, _, rfl, rfl, _, rfl, ?_⟩
        by_cases w4 : 4 < dp
        · rw [decide_eq_true (show (4 : Int) < ((dp : Nat) : Int) by omega)]
          refine iteT ?_
          obtain ⟨kk, hkk, hk2⟩ := kind_at (wy % 6) (by omega) (by omega)
          refine ⟨by show 6 ≤ sizeLine; decide, fun L nL => ?_⟩
          have sL := Same.new nL (o := .lst [V.str "first", V.str "second", V.str "second", V.str "pair", V.str "pair", V.str "same"])
          refine ⟨_, rfl, _, _, rfl, rfl, (show (0 : Int) < 6 by decide), L, _, _, _, rfl, rfl, SqL.of upd_same, hkk, ?_⟩
          revert sL
          generalize upd H4 L (.lst [V.str "first", V.str "second", V.str "second", V.str "pair", V.str "pair", V.str "same"]) = H5
          intro sL
          refine ⟨_, rfl, _, rfl, _, rfl, _, rfl, by show 4 ≤ sizeLine; decide, fun T nT => ?_⟩
          have sT := Same.new nT (o := .tup [.str kk, .int (a : Nat), .int (bb : Nat), .int (c : Nat)])
          have hT : (upd H5 T (.tup [.str kk, .int (a : Nat), .int (bb : Nat), .int (c : Nat)])) T = some (.tup [.str kk, .int (a : Nat), .int (bb : Nat), .int (c : Nat)]) := upd_same
          revert sT hT
          generalize upd H5 T (.tup [.str kk, .int (a : Nat), .int (bb : Nat), .int (c : Nat)]) = H6
          intro sT hT
          refine ⟨_, rfl, by show 2 ≤ sizeLine; decide, fun U nU => ?_⟩
          have sU := Same.new nU (o := .tup [V.str "pair", V.str "same"])
          refine ⟨U, _, rfl, .inr (SqT.of upd_same), rfl, rfl, .inr ⟨_, rfl, _, _, rfl, rfl, _, rfl, T, _, rfl, SqT.of (sU _ _ hT), ?_⟩⟩
          have s47 := (sL.trans sT).trans sU
          have kc7 : KC p f H (upd H6 U (.tup [V.str "pair", V.str "same"])) := (KC.kb kb4).trans (KC.of s47)
          have l7 := s47 _ _ l4
          have b7 := b4.same s47
          rcases hk2 with ⟨s, rfl⟩ | ⟨s, rfl⟩
          · rw [show (if false = true then !inV (.str (takeS s)) [V.str "pair", V.str "same"] else inV (.str (takeS s)) [V.str "pair", V.str "same"]) = false from in_take s]
            refine ⟨fun ⟨_, h2⟩ => absurd h2 (show ¬ ((3 : Nat) = 4) by decide), fun _ z nz => ?_⟩
            have sz := Same.new nz (o := .tup [.str (takeS s), .int (a : Nat), .int (bb : Nat)])
            exact k (.ref z) (.take s a bb) l _ (kc7.trans (KC.of sz)) (b7.same sz) (sz _ _ l7) (Nat.le_refl _) ⟨z, rfl, SqT.of upd_same, ha, hbb⟩ (Nat.zero_le _) (by rw [many_take]; omega) trivial
          · rw [show (if false = true then !inV (.str (twoS s)) [V.str "pair", V.str "same"] else inV (.str (twoS s)) [V.str "pair", V.str "same"]) = true from in_two s]
            refine ⟨fun _ => ?_, fun hn => absurd ⟨rfl, rfl⟩ hn⟩
            exact k (.ref T) (.two s a bb c) l _ kc7 b7 l7 (Nat.le_refl _) ⟨T, rfl, SqT.of (sU _ _ hT), ha, hbb, hc⟩ (Nat.zero_le _) (by rw [many_two]; omega) trivial
        · rw [decide_eq_false (show ¬ (4 : Int) < ((dp : Nat) : Int) by omega)]
          refine iteF ?_
          refine ⟨_, rfl, _, rfl, _, rfl, _, _, rfl, rfl, p, f, dp + 1, l, rfl, b4, l4, hpf, by omega, by omega, hll, fun q r l1 H5 kc5 b5 lf5 hl5 hr5 hd5 hm5 hs5 => ?_⟩
          have kc45 : KC p f H H5 := (KC.kb kb4).trans kc5
          refine ⟨_, rfl, _, _, rfl, rfl, _, rfl, ?_⟩
          by_cases w10 : wy < 10
          · rw [decide_eq_true w10]
            refine iteT ?_
            refine ⟨_, rfl, p, 5, rfl, b5, by decide, by decide, fun d5 H6 k6 b6 d50 d51 => ?_⟩
            refine ⟨_, _, rfl, rfl, _, rfl, ?_⟩
            obtain ⟨bx, hbx⟩ := b5.some
            have hr6 : RAt K C H6 q r := hr5.kt (k6.kt hbx)
            have lf6 : Lf H6 f l1 := k6 _ _ (Ne.symm hpf) lf5
            have kc6 : KC p f H H6 := kc45.trans (KC.kb k6)
            by_cases h5 : 0 < d5
            · rw [decide_eq_true h5]
              refine iteT ?_
              obtain ⟨vs, hq, hvs⟩ := hr6
              refine ⟨_, rfl, _, rfl, _, rfl, by show 3 ≤ sizeLine; decide, fun T1 n1 => ?_⟩
              have s7 := Same.new n1 (o := .tup [V.str "second", .int (a : Nat), .int (a : Nat)])
              have hT1 : (upd H6 T1 (.tup [V.str "second", .int (a : Nat), .int (a : Nat)])) T1 = some (.tup [V.str "second", .int (a : Nat), .int (a : Nat)]) := upd_same
              revert s7 hT1
              generalize upd H6 T1 (.tup [V.str "second", .int (a : Nat), .int (a : Nat)]) = H7
              intro s7 hT1
              refine ⟨by show 1 ≤ sizeLine; decide, fun T2 n2 => ?_⟩
              have s8 := Same.new n2 (o := .tup [V.ref T1])
              have hT2 : (upd H7 T2 (.tup [V.ref T1])) T2 = some (.tup [V.ref T1]) := upd_same
              revert s8 hT2
              generalize upd H7 T2 (.tup [V.ref T1]) = H8
              intro s8 hT2
              have s68 := s7.trans s8
              have dsec : DAt K C H8 (.ref T1) (.take true a a) := ⟨T1, rfl, SqT.of (s8 _ _ hT1), ha, ha⟩
              have hvs8 := DsAt_kt (KT.of s68) r vs hvs
              have hq8 := sqt_kt (KT.of s68) hq
              have lr := len_many r
              have lv := DsAt.length r vs hvs
              have cont : ∀ (q2 : Addr) (H9 : Hp), Same H8 H9 → RAt K C H9 q2 (r ++ [.take true a a]) → (tRet (tTup (tCons (tC (.str "while")) (tCons (tVar 4) (tCons (tVar 8) tNil)))) { nx := fun _ H' => Q .non H', rt := Q } [some (.ref p), some (.ref f), some (.int (dp : Nat)), some (.int wy), some (.int (a : Nat)), some (.int (bb : Nat)), some (.int (c : Nat)), none, some (.ref q2)] H9) := by
                intro q2 H9 s9 hr9
                refine ⟨_, rfl, _, rfl, by show 3 ≤ sizeLine; decide, fun T3 n3 => ?_⟩
                have sT := Same.new n3 (o := .tup [V.str "while", .int (a : Nat), .ref q2])
                have s69 := (s68.trans s9).trans sT
                obtain ⟨vs9, h91, h92⟩ := hr9.same sT
                refine k (.ref T3) (.wh a (r ++ [.take true a a])) l1 _ (kc6.trans (KC.of s69)) (b6.same s69) (s69 _ _ lf6) hl5 ⟨T3, q2, vs9, rfl, SqT.of upd_same, ha, h91, h92⟩ ?_ ?_ (by exact smR_app r [.take true a a] hs5 ⟨trivial, trivial⟩)
                · rw [Dd.deep, deepR_app, deepR_one]
                  have : max (deepR r) (Dd.take true a a).deep = deepR r := Nat.max_eq_left (Nat.zero_le _)
                  omega
                · rw [many_wh, manyR_app, manyR_one, many_take]
                  omega
              refine ⟨q, T2, vs, _, rfl, rfl, hq8, SqT.of hT2, by simp only [List.length_cons, List.length_nil]; omega, fun e0 => ?_, fun _ e1 => (by cases e1), fun _ _ U nU => ?_⟩
              · subst e0
                have er : r = [] := List.length_eq_zero_iff.mp lv.symm
                refine cont T2 H8 (Same.refl H8) ?_
                rw [er]
                exact ⟨_, SqT.of hT2, _, _, rfl, dsec, rfl⟩
              · have sU := Same.new nU (o := .tup (vs ++ [V.ref T1]))
                exact cont U _ sU ⟨_, SqT.of upd_same, DsAt_snoc (DAt_kt (KT.of sU) _ _ dsec) r vs (DsAt_kt (KT.of sU) r vs hvs8)⟩
            · rw [decide_eq_false h5]
              refine iteF ?_
              refine ⟨_, rfl, _, rfl, by show 3 ≤ sizeLine; decide, fun T3 n3 => ?_⟩
              have sT := Same.new n3 (o := .tup [V.str "while", .int (a : Nat), .ref q])
              obtain ⟨vs9, h91, h92⟩ := hr6.same sT
              refine k (.ref T3) (.wh a r) l1 _ (kc6.trans (KC.of sT)) (b6.same sT) (sT _ _ lf6) hl5 ⟨T3, q, vs9, rfl, SqT.of upd_same, ha, h91, h92⟩ (by rw [Dd.deep]; omega) (by rw [many_wh]; omega) hs5
          · rw [decide_eq_false w10]
            refine iteF ?_
            refine ⟨_, rfl, _, rfl, _, rfl, _, rfl, _, rfl, _, _, rfl, rfl, p, f, dp + 1, l1, rfl, b5, lf5, hpf, by omega, by omega, by omega, fun q2 r2 l2 H6 kc6 b6 lf6 hl6 hr6 hd6 hm6 hs6 => ?_⟩
            refine ⟨by show 4 ≤ sizeLine; decide, fun T3 n3 => ?_⟩
            have sT := Same.new n3 (o := .tup [V.str "if", .int (a : Nat), .ref q, .ref q2])
            obtain ⟨bx, hbx⟩ := b5.some
            obtain ⟨vs9, h91, h92⟩ := (hr5.kt (kc6.kt hbx lf5)).same sT
            obtain ⟨vs8, h81, h82⟩ := hr6.same sT
            refine k (.ref T3) (.iff a r r2) l2 _ ((kc45.trans kc6).trans (KC.of sT)) (b6.same sT) (sT _ _ lf6) (Nat.le_trans hl6 hl5) ⟨T3, q, vs9, q2, vs8, rfl, SqT.of upd_same, ha, h91, h92, h81, h82⟩ ?_ ?_ ⟨hs5, hs6⟩
            · rw [Dd.deep]
              have : max (deepR r) (deepR r2) ≤ m - 1 := Nat.max_le.mpr ⟨by omega, by omega⟩
              omega
            · rw [many_iff]
              omega
theorem scDs : FnScope ["_law_bag_here", "_law_left", "_law_deep", "_law_found", "_law_turn"] ["_law_bag_here", "_law_left", "_law_deep"] (defScope sDeeds) := ⟨rfl, rfl, rfl, by decide +kernel, rfl, by decide +kernel, by decide +kernel⟩
theorem ok_deedsS {f fe : Addr} {fd fde : FuncData} {m : Nat} (F : Fun K "_law_deeds" "_law_deeds" sDeeds f fd) (B : Blt mg) (G : FrmC K w mg) (DTk : Def P w K mg base "_law_take" 1 ["_law_bag_here", "_law_many"] spTake)
    (Gd : FnOk P w K mg base CX0 (2 * m + 5) fe fde ["_law_bag_here", "_law_left", "_law_deep"] (spDeed K C m)) (mgd : mg "_law_deed" = some (.ref fe)) (kd : PySem.W.keepIn K (.ref fe) = true) (bd : Binds K fde ["_law_bag_here", "_law_left", "_law_deep"] []) : FnOk P w K mg base CX0 (2 * m + 6) f fd ["_law_bag_here", "_law_left", "_law_deep"] (spDeeds K C (m + 1)) := by
  refine F.ok scDs (fun vs H Q E h => ?_) (fun cdv A outer s H vs Q E hr h => ?_)
  · obtain ⟨p, f, dp, l, rfl, _⟩ := h
    rfl
  · obtain ⟨p, f, dp, l, rfl, hb, hl, hpf, hdm, _, hll, k⟩ := h
    have hr1 : Room 1 _ := hr.mono (by omega)
    refine ⟨_, pss_cons (ps_set (i := 3) scDs.nd rfl (Or.inl rfl) (pe_lst pa_nil)) (pss_cons (ps_for PassesOwn.never rfl (pi_range1 rfl B.range (pa_cons (pe_def DTk hr1 rfl (pa_cons (pv 0) (pa_cons pe_int pa_nil))) pa_nil)) (pg_name (i := 4) scDs.nd rfl (Or.inl rfl)) (pss_one (ps_if (pt_cmpR op_gt (pe_ix (r := rIxL K) ix_list (pv 1) pe_int (fun _ _ => rfl)) pe_int (nomark _)) (pss_cons (ps_asg (pe_op op_sub (pe_ix (r := rIxL K) ix_list (pv 1) pe_int (fun _ _ => rfl)) pe_int) (pg_sub (pv 1) pe_int set_list)) (pss_one (ps_expr (pe_bm PySem.F.plainAttrs_list PySem.F.slot_list_append PySem.F.type_list_append mt_append (pv 3) (pa_cons (pe_call Gd hr rfl mgd kd bd .nil pass0 (pa_cons (pv 0) (pa_cons (pv 1) (pa_cons (pv 2) pa_nil)))) pa_nil))))) pss_nil))) (pss_one (ps_ret (pe_callTy call_tuple_of (by rfl) G.mt PyProof.Rows.boot_tuple (pa_cons (pv 3) pa_nil))))), ?_⟩
    have hsl := line4
    refine ⟨Nat.zero_le _, fun fl nfl => ?_⟩
    have s1 : Same H (upd H fl (.lst [])) := Same.new nfl
    have hfl1 : (upd H fl (.lst [])) fl = some (.lst []) := upd_same
    have hflp : fl ≠ p := fun z => by
      obtain ⟨bx, hbx⟩ := hb.some
      rw [z, hbx] at nfl
      cases nfl
    have hflf : fl ≠ f := fun z => by
      rw [z] at nfl
      have := nfl.symm.trans hl
      cases this
    revert s1 hfl1
    generalize upd H fl (.lst []) = H1
    intro s1 hfl1
    refine ⟨_, rfl, p, 6, rfl, hb.same s1, by decide, by decide, fun n6 H2 k2 b2 n0 n1 => ?_⟩
    have kc2 : KC p f H H2 := (KC.of s1).trans (KC.kb k2)
    refine ⟨n6, rfl, by omega, by omega, for_range (n := n6.toNat) (fun i σ H' => ∃ (x4 : Option V) (us : List V) (r : List Dd) (l' : Nat), σ = [some (.ref p), some (.ref f), some (.int (dp : Nat)), some (.ref fl), x4] ∧ KC p f H H' ∧ BagOk H' p ∧ Lf H' f l' ∧ l' ≤ l ∧ H' fl = some (.lst us) ∧ DsAt K C H' us r ∧ deepR r ≤ m ∧ manyR r ≤ 2 * (l - l') ∧ r.length ≤ i ∧ smR r)
      ⟨none, [], [], l, rfl, kc2, b2, k2 _ _ (Ne.symm hpf) (s1 _ _ hl), Nat.le_refl _, k2 _ _ hflp hfl1, rfl, Nat.zero_le _, by rw [many_nil]; omega, Nat.le_refl _, trivial⟩ ?_ ?_⟩
    · rintro i σ H3 hi ⟨x4, us, r, l1, rfl, kc3, b3, lf3, hl3, hfl3, hus, hdr, hmr, hri, hsm⟩
      refine ⟨_, rfl, f, _, _, _, rfl, rfl, SqL.of lf3, at0 _ _, _, _, rfl, rfl, _, rfl, ?_⟩
      by_cases h1 : 0 < l1
      · rw [decide_eq_true (show (0 : Int) < ((l1 : Nat) : Int) by omega)]
        refine iteT ?_
        refine ⟨_, rfl, f, _, _, _, rfl, rfl, SqL.of lf3, at0 _ _, _, _, rfl, rfl, _, rfl, f, _, _, 0, rfl, rfl, lf3, rfl, ?_⟩
        have e4 : [V.int ((l1 : Nat) : Int)].set 0 (V.int (((l1 : Nat) : Int) - 1)) = [V.int (((l1 - 1 : Nat)) : Int)] := by
          rw [show (((l1 - 1 : Nat)) : Int) = ((l1 : Nat) : Int) - 1 by omega]
          rfl
        rw [e4]
        have lf4 : Lf (upd H3 f (.lst [V.int (((l1 - 1 : Nat)) : Int)])) f (l1 - 1) := upd_same
        have kc4 : KC p f H3 (upd H3 f (.lst [V.int (((l1 - 1 : Nat)) : Int)])) := KC.set
        obtain ⟨bx, hbx⟩ := b3.some
        have kt4 : KT H3 (upd H3 f (.lst [V.int (((l1 - 1 : Nat)) : Int)])) := kc4.kt hbx lf3
        have b4 : BagOk (upd H3 f (.lst [V.int (((l1 - 1 : Nat)) : Int)])) p := by
          obtain ⟨x0, x1', pr, x3', hx, rest⟩ := b3.ex
          exact ⟨⟨x0, x1', pr, x3', by rw [upd_ne hpf]; exact hx, rest⟩⟩
        have hfl4 : (upd H3 f (.lst [V.int (((l1 - 1 : Nat)) : Int)])) fl = some (.lst us) := by rw [upd_ne hflf]; exact hfl3
        revert lf4 kc4 kt4 b4 hfl4
        generalize upd H3 f (.lst [V.int (((l1 - 1 : Nat)) : Int)]) = H4
        intro lf4 kc4 kt4 b4 hfl4
        refine ⟨_, rfl, .inl ⟨rfl, _, SqL.of hfl4⟩, _, rfl, _, rfl, _, rfl, p, f, dp, l1 - 1, rfl, b4, lf4, hpf, by omega, by omega, fun v d l2 H5 kc5 b5 lf5 hl5 hdv hdd hdm2 hds => ?_⟩
        have hfl5 := kc5 _ _ hflp hflf hfl4
        have lus := DsAt.length r us hus
        refine ⟨fl, _, _, rfl, rfl, hfl5, by omega, ?_⟩
        obtain ⟨by_, hby⟩ := b4.some
        have kt5 : KT H4 H5 := kc5.kt hby lf4
        have kt6 : KT H5 (upd H5 fl (.lst (us ++ [v]))) := KT.lst hfl5
        refine ⟨_, us ++ [v], r ++ [d], l2, rfl, fun a o na nf ha => ?_, ?_, ?_, by omega, upd_same, DsAt_snoc (DAt_kt kt6 d v hdv) r us (DsAt_kt kt6 r us (DsAt_kt kt5 r us (DsAt_kt kt4 r us hus))), ?_, ?_, (by rw [List.length_append]; simp only [List.length_cons, List.length_nil]; omega), smR_app r [d] hsm ⟨hds, trivial⟩⟩
        · rw [upd_ne (ne_of_none ha nfl)]
          exact kc5 _ _ na nf (kc4 _ _ na nf (kc3 _ _ na nf ha))
        · obtain ⟨x0, x1', pr, x3', hx, rest⟩ := b5.ex
          exact ⟨⟨x0, x1', pr, x3', by rw [upd_ne (Ne.symm hflp)]; exact hx, rest⟩⟩
        · show (upd H5 fl (.lst (us ++ [v]))) f = _
          rw [upd_ne (Ne.symm hflf)]
          exact lf5
        · rw [deepR_app, deepR_one]
          exact Nat.max_le.mpr ⟨hdr, hdd⟩
        · rw [manyR_app, manyR_one]
          omega
      · rw [decide_eq_false (show ¬ (0 : Int) < ((l1 : Nat) : Int) by omega)]
        refine iteF ?_
        exact ⟨_, us, r, l1, rfl, kc3, b3, lf3, hl3, hfl3, hus, hdr, hmr, by omega, hsm⟩
    · rintro σ H3 ⟨x4, us, r, l1, rfl, kc3, b3, lf3, hl3, hfl3, hus, hdr, hmr, hri, hsm⟩
      refine ⟨_, rfl, fl, _, rfl, .inl ⟨SqL.of hfl3, fun q nq => ?_⟩⟩
      have sq := Same.new nq (o := .tup us)
      exact k q r l1 _ (kc3.trans (KC.of sq)) (b3.same sq) (sq _ _ lf3) hl3 ⟨us, SqT.of upd_same, DsAt_kt (KT.of sq) r us hus⟩ (by omega) hmr hsm
theorem ok_deeds0 {f : Addr} {fd : FuncData} (F : Fun K "_law_deeds" "_law_deeds" sDeeds f fd) : FnOk P w K mg base CX0 4 f fd ["_law_bag_here", "_law_left", "_law_deep"] (spDeeds K C 0) := by
  refine F.ok scDs (fun vs H Q E h => ?_) (fun cdv A outer s H vs Q E hr h => ?_)
  · obtain ⟨p, f, dp, l, rfl, _⟩ := h
    rfl
  · obtain ⟨p, f, dp, l, _, _, _, _, _, h, _⟩ := h
    exact absurd h (Nat.not_succ_le_zero _)
theorem ok_deeds {f fe : Addr} {fd fde : FuncData} (F : Fun K "_law_deeds" "_law_deeds" sDeeds f fd) (Fe : Fun K "_law_deed" "_law_deed" sDeed fe fde) (B : Blt mg) (G : FrmC K w mg) (DTk : Def P w K mg base "_law_take" 1 ["_law_bag_here", "_law_many"] spTake) (DNm : Def P w K mg base "_law_name" 2 ["_law_bag_here"] spName) (DTh : Def P w K mg base "_law_thing" 4 ["_law_bag_here", "_law_many"] (spThing C))
    (mgf : mg "_law_deeds" = some (.ref f)) (bf : Binds K fd ["_law_bag_here", "_law_left", "_law_deep"] []) (mge : mg "_law_deed" = some (.ref fe)) (be : Binds K fde ["_law_bag_here", "_law_left", "_law_deep"] []) : ∀ m, FnOk P w K mg base CX0 (2 * m + 4) f fd ["_law_bag_here", "_law_left", "_law_deep"] (spDeeds K C m)
  | 0 => ok_deeds0 F
  | m + 1 => ok_deedsS F B G DTk (ok_deed Fe B DTk DNm DTh (ok_deeds F Fe B G DTk DNm DTh mgf bf mge be m) mgf F.kp bf) mge Fe.kp be
def spTop (K : PySem.W.Frag) (C : Addr) : Sp := fun vs H Q _ => ∃ (p : Addr) (n : Nat), vs = [.ref p, .int (n : Nat)] ∧ BagOk H p ∧ n ≤ 1000 ∧ ∀ q r H', KB p H H' → BagOk H' p → RAt K C H' q r → deepR r ≤ 4 → manyR r ≤ 2 * n → smR r → Q (.ref q) H'
theorem scTo : FnScope ["_law_bag_here", "_law_many", "_law_left"] ["_law_bag_here", "_law_many"] (defScope sTop) := ⟨rfl, rfl, rfl, by decide +kernel, rfl, by decide +kernel, by decide +kernel⟩
theorem ok_top {f : Addr} {fd : FuncData} (F : Fun K "_law_top" "_law_top" sTop f fd) (DDs : Def P w K mg base "_law_deeds" 14 ["_law_bag_here", "_law_left", "_law_deep"] (spDeeds K C 5)) : FnOk P w K mg base CX0 15 f fd ["_law_bag_here", "_law_many"] (spTop K C) := by
  refine F.ok scTo (fun vs H Q E h => ?_) (fun cdv A outer s H vs Q E hr h => ?_)
  · obtain ⟨p, n, rfl, _⟩ := h
    rfl
  · obtain ⟨p, n, rfl, hb, hn, k⟩ := h
    refine ⟨_, pss_cons (ps_set (i := 2) scTo.nd rfl (Or.inl rfl) (pe_lst (pa_cons (pv 1) pa_nil))) (pss_one (ps_ret (pe_op op_catA (pe_def (k := 14) DDs hr rfl (pa_cons (pv 0) (pa_cons (pv 2) (pa_cons pe_int pa_nil)))) (pe_def (k := 14) DDs hr rfl (pa_cons (pv 0) (pa_cons (pv 2) (pa_cons pe_int pa_nil))))))), ?_⟩
    have hsl := line4
    refine ⟨_, rfl, by show 1 ≤ sizeLine; decide, fun f nf => ?_⟩
    have hpf : p ≠ f := fun z => by
      obtain ⟨bx, hbx⟩ := hb.some
      rw [← z, hbx] at nf
      cases nf
    have s1 : Same H (upd H f (.lst [.int (n : Nat)])) := Same.new nf
    have l1 : Lf (upd H f (.lst [.int (n : Nat)])) f n := upd_same
    revert s1 l1
    generalize upd H f (.lst [.int (n : Nat)]) = H1
    intro s1 l1
    refine ⟨_, rfl, _, rfl, p, f, 1, n, rfl, hb.same s1, l1, hpf, rfl, by decide, hn, fun q r m1 H2 kc2 b2 l2 hl2 hr2 hd2 hm2 hs2 => ?_⟩
    refine ⟨_, rfl, _, rfl, p, f, 1, m1, rfl, b2, l2, hpf, rfl, by decide, by omega, fun q2 r2 m2 H3 kc3 b3 l3 hl3 hr3 hd3 hm3 hs3 => ?_⟩
    obtain ⟨bx, hbx⟩ := b2.some
    obtain ⟨vs, h1, h2⟩ := hr2.kt (kc3.kt hbx l2)
    obtain ⟨us, g1, g2⟩ := hr3
    have kb3 : KB p H H3 := fun a o na ha => kc3 _ _ na (ne_of_none ha nf) (kc2 _ _ na (ne_of_none ha nf) (s1 _ _ ha))
    have lv := DsAt.length r vs h2
    have lu := DsAt.length r2 us g2
    have lr := len_many r
    have lr2 := len_many r2
    have hdd : deepR (r ++ r2) ≤ 4 := by
      rw [deepR_app]
      exact Nat.max_le.mpr ⟨by omega, by omega⟩
    have hmm : manyR (r ++ r2) ≤ 2 * n := by
      rw [manyR_app]
      omega
    refine ⟨q, q2, vs, us, rfl, rfl, h1, g1, by omega, fun e0 => ?_, fun _ e1 => ?_, fun _ _ U nU => ?_⟩
    · subst e0
      have er : r = [] := List.length_eq_zero_iff.mp lv.symm
      subst er
      exact k q2 r2 H3 kb3 b3 ⟨us, g1, g2⟩ (by simpa using hdd) (by simpa using hmm) hs3
    · subst e1
      have er : r2 = [] := List.length_eq_zero_iff.mp lu.symm
      subst er
      exact k q r H3 kb3 b3 ⟨vs, h1, h2⟩ (by simpa using hdd) (by simpa using hmm) hs2
    · have sU := Same.new nU (o := .tup (vs ++ us))
      exact k U (r ++ r2) _ (kb3.trans (KB.of sU)) (b3.same sU) ⟨_, SqT.of upd_same, DsAt_app r r2 vs us (DsAt_kt (KT.of sU) r vs h2) (DsAt_kt (KT.of sU) r2 us g2)⟩ hdd hmm (smR_app r r2 hs2 hs3)
end
end Js
set_option Elab.async false
set_option linter.all false
set_option maxRecDepth 100000
set_option maxHeartbeats 2000000
namespace Js
open PySem L2
def lenW (ws : List Str) : Nat := (ws.map (·.length)).sum + ws.length
theorem lenW_app (a b : List Str) : lenW (a ++ b) = lenW a + lenW b := by
  unfold lenW
  rw [List.map_append, List.sum_append, List.length_append]
  omega
theorem lenW_cons (a : Str) (b : List Str) : lenW (a :: b) = a.length + 1 + lenW b := by
  unfold lenW
  rw [List.map_cons, List.sum_cons, List.length_cons]
  omega
theorem lenW_nil : lenW [] = 0 := rfl
theorem lenW_drop (ws : List Str) : lenW (ws.drop 1) ≤ lenW ws := by
  cases ws with
  | nil => exact Nat.le_refl _
  | cons a b =>
    rw [List.drop_one, List.tail_cons, lenW_cons]
    omega
theorem letS_len1 (a : Nat) : (letS a).length = 1 := by
  match a with
  | 0 => rfl
  | 1 => rfl
  | 2 => rfl
  | 3 => rfl
  | 4 => rfl
  | 5 => rfl
  | 6 => rfl
  | 7 => rfl
  | 8 => rfl
  | n + 9 => rfl
theorem kd_len : (("=" : Str)).length = 1 ∧ ((";" : Str)).length = 1 ∧ (("[" : Str)).length = 1 ∧ (("]" : Str)).length = 1 ∧ (("while" : Str)).length = 5 ∧ (("if" : Str)).length = 2 := by decide +kernel
theorem takeS_lenS (s : Bool) : (takeS s).length ≤ 6 := by cases s <;> decide +kernel
theorem twoS_lenS (s : Bool) : (twoS s).length ≤ 6 := by cases s <;> decide +kernel
mutual
theorem lenW_d : ∀ d : Dd, d.sm → lenW d.words + 2 ≤ 42 * d.many
  | .told a t, h => by
    have h : t.size ≤ 3 := h
    have ht : t.text.length = 3 * t.size + 1 := Tr.text_len t
    obtain ⟨e1, _⟩ := kd_len
    rw [many_told, Dd.words, lenW_cons, lenW_cons, lenW_cons, lenW_nil, letS_len1, e1]
    omega
  | .take s a b, h => by
    have ht := takeS_lenS s
    obtain ⟨e1, _⟩ := kd_len
    rw [many_take, Dd.words, lenW_cons, lenW_cons, lenW_cons, lenW_cons, lenW_nil, letS_len1, letS_len1, e1]
    omega
  | .two s a b c, h => by
    have ht := twoS_lenS s
    obtain ⟨e1, _⟩ := kd_len
    rw [many_two, Dd.words, lenW_cons, lenW_cons, lenW_cons, lenW_cons, lenW_cons, lenW_nil, letS_len1, letS_len1, letS_len1, e1]
    omega
  | .wh a r, h => by
    have h : smR r := h
    have ih := lenW_t r h
    have hd := lenW_drop (wordsT r)
    obtain ⟨e1, e2, e3, e4, e5, e6⟩ := kd_len
    rw [many_wh, Dd.words, lenW_app, lenW_cons, lenW_cons, lenW_nil, lenW_cons, lenW_app, lenW_cons, lenW_nil, letS_len1, e3, e4, e5]
    omega
  | .iff a r o, h => by
    have h : smR r ∧ smR o := h
    have ih := lenW_t r h.1
    have ih2 := lenW_t o h.2
    have hd := lenW_drop (wordsT r)
    have hd2 := lenW_drop (wordsT o)
    obtain ⟨e1, e2, e3, e4, e5, e6⟩ := kd_len
    rw [many_iff, Dd.words, lenW_app, lenW_app, lenW_cons, lenW_cons, lenW_nil, lenW_cons, lenW_app, lenW_cons, lenW_nil, lenW_cons, lenW_app, lenW_cons, lenW_nil, letS_len1, e3, e4, e6]
    omega
theorem lenW_t : ∀ r : List Dd, smR r → lenW (wordsT r) ≤ 42 * manyR r
  | [], _ => by
    rw [wordsT, lenW_nil]
    omega
  | d :: r, h => by
    have h : d.sm ∧ smR r := h
    have h1 := lenW_d d h.1
    have h2 := lenW_t r h.2
    obtain ⟨e1, e2, _⟩ := kd_len
    rw [wordsT, lenW_cons, lenW_app, many_cons, e2]
    omega
end
theorem sumR_sm {r : List Dd} (h : smR r) : sumR r ≤ 42 * manyR r := by
  have h1 := lenW_t r h
  have h2 := lenW_drop (wordsT r)
  show lenW (wordsR r) ≤ _
  rw [wordsR]
  omega
end Js
set_option Elab.async false
set_option linter.all false
set_option maxRecDepth 100000
set_option maxHeartbeats 2000000
namespace Js
open PySem L2
open PySem PySem.Spec PyProof.Rows L2
abbrev sSp10 : Stmt := top 62
def spSp10 : Sp := fun vs H Q _ => ∃ (p wl : Addr) (ws : List Str), vs = [.ref p, .ref wl] ∧ BagOk H p ∧ H wl = some (.lst (strV ws)) ∧ wl ≠ p ∧ ws ≠ [] ∧ lenW ws ≤ 9000 ∧ ∀ q ws' H', KB p H H' → BagOk H' p → H' q = some (.lst (strV ws')) → lenW ws' ≤ 2 * lenW ws + 10 → Q (.ref q) H'
section
variable {X : Cx}
def rCatW : R2 := fun x y H Q => ∃ a b xs ys, x = .ref a ∧ y = .ref b ∧ H a = some (.lst (strV xs)) ∧ H b = some (.lst (strV ys)) ∧ xs.length + ys.length ≤ 100000 ∧ ∀ q H', Same H H' → H' q = some (.lst (strV (xs ++ ys))) → Q (.ref q) H'
theorem op_catW : OpR X (binaryOp .Add) rCatW :=
  OpR.imp op_cat fun x y H Q h => by
    obtain ⟨a, b, xs, ys, rfl, rfl, h1, h2, h3, k⟩ := h
    have hs := sizeLine_eq
    refine ⟨a, b, _, _, rfl, rfl, h1, h2, by rw [strV_len, strV_len]; omega, fun p np => k p _ (Same.new np) ?_⟩
    rw [upd_same, strV_app]
theorem cut_tk (xs : List V) (n : Nat) : cutV xs none (some (n : Int)) = xs.take n := by
  have eh : HT.sIx xs.length xs.length (some (n : Int)) = min n xs.length := HT.sIx_nat _ _ _
  unfold cutV
  rw [eh, HT.sIx_none, Nat.sub_zero, List.drop_zero, List.take_eq_take_iff]
  omega
theorem cut_dr (xs : List V) (n : Nat) : cutV xs (some (n : Int)) none = xs.drop n := by
  have eh : HT.sIx xs.length 0 (some (n : Int)) = min n xs.length := HT.sIx_nat _ _ _
  unfold cutV
  rw [eh, HT.sIx_none]
  by_cases hn : n ≤ xs.length
  · rw [Nat.min_eq_left hn, List.take_of_length_le (by rw [List.length_drop]; omega)]
  · rw [Nat.min_eq_right (by omega), List.drop_eq_nil_of_le (Nat.le_refl _), List.drop_eq_nil_of_le (by omega), List.take_nil]
def rTkW : V → Option Int → Option Int → Hp → VK → Prop := fun x lo hi H Q => ∃ a ws, ∃ n : Nat, x = .ref a ∧ lo = none ∧ hi = some (n : Int) ∧ H a = some (.lst (strV ws)) ∧ ∀ q H', Same H H' → H' q = some (.lst (strV (ws.take n))) → Q (.ref q) H'
theorem sl_tkW : SlR X rTkW := by
  intro pins s σ H x v vl vu lo hi sl Q I rx hs pl pu h
  obtain ⟨a, ws, n, rfl, rfl, rfl, h1, k⟩ := h
  refine sl_list pins s σ H _ v vl vu _ _ sl Q I rx hs pl pu ⟨a, _, rfl, SqL.of h1, fun p np => k p _ (Same.new np) ?_⟩
  rw [upd_same, cut_tk]
  unfold strV
  rw [List.map_take]
def rDrW : V → Option Int → Option Int → Hp → VK → Prop := fun x lo hi H Q => ∃ a ws, ∃ n : Nat, x = .ref a ∧ lo = some (n : Int) ∧ hi = none ∧ H a = some (.lst (strV ws)) ∧ ∀ q H', Same H H' → H' q = some (.lst (strV (ws.drop n))) → Q (.ref q) H'
theorem sl_drW : SlR X rDrW := by
  intro pins s σ H x v vl vu lo hi sl Q I rx hs pl pu h
  obtain ⟨a, ws, n, rfl, rfl, rfl, h1, k⟩ := h
  refine sl_list pins s σ H _ v vl vu _ _ sl Q I rx hs pl pu ⟨a, _, rfl, SqL.of h1, fun p np => k p _ (Same.new np) ?_⟩
  rw [upd_same, cut_dr]
  unfold strV
  rw [List.map_drop]
end
theorem lenW_take (ws : List Str) (n : Nat) : lenW (ws.take n) + lenW (ws.drop n) = lenW ws := by rw [← lenW_app, List.take_append_drop]
theorem lenW_at {ws : List Str} {n : Nat} {z : Str} (h : ws[n]? = some z) : lenW (ws.drop n) = z.length + 1 + lenW (ws.drop (n + 1)) ∧ lenW (ws.take (n + 1)) + lenW (ws.drop (n + 1)) = lenW ws := by
  refine ⟨?_, lenW_take ws (n + 1)⟩
  obtain ⟨h1, h2⟩ := List.getElem?_eq_some_iff.mp h
  rw [List.drop_eq_getElem_cons h1, lenW_cons, h2]
theorem lenW_len (ws : List Str) : ws.length ≤ lenW ws := by unfold lenW; omega
theorem some10 : ∀ (n : Nat), n < 17 → ∃ z : Str, [V.str "a", .str "j", .str "k", .str "=", .str ";", .str "[", .str "]", .str "first", .str "pair", .str "while", .str "if", .str ".", .str "(..)", .str "", .str "(.", .str "told", .str "ab"][n]? = some (.str z) ∧ z.length ≤ 5
  | 0, _ => ⟨_, rfl, by decide +kernel⟩
  | 1, _ => ⟨_, rfl, by decide +kernel⟩
  | 2, _ => ⟨_, rfl, by decide +kernel⟩
  | 3, _ => ⟨_, rfl, by decide +kernel⟩
  | 4, _ => ⟨_, rfl, by decide +kernel⟩
  | 5, _ => ⟨_, rfl, by decide +kernel⟩
  | 6, _ => ⟨_, rfl, by decide +kernel⟩
  | 7, _ => ⟨_, rfl, by decide +kernel⟩
  | 8, _ => ⟨_, rfl, by decide +kernel⟩
  | 9, _ => ⟨_, rfl, by decide +kernel⟩
  | 10, _ => ⟨_, rfl, by decide +kernel⟩
  | 11, _ => ⟨_, rfl, by decide +kernel⟩
  | 12, _ => ⟨_, rfl, by decide +kernel⟩
  | 13, _ => ⟨_, rfl, by decide +kernel⟩
  | 14, _ => ⟨_, rfl, by decide +kernel⟩
  | 15, _ => ⟨_, rfl, by decide +kernel⟩
  | 16, _ => ⟨_, rfl, by decide +kernel⟩
  | n + 17, h => by omega
theorem cutS_len (z : Str) (lo hi : Option Int) : (cutS z lo hi).length ≤ z.length := by
  have e : (cutS z lo hi).length = ((z.cps.toList.drop (HT.sIx z.length 0 lo)).take (HT.sIx z.length z.length hi - HT.sIx z.length 0 lo)).length := tx_len _
  have e2 : z.cps.toList.length = z.length := Array.length_toList
  rw [e, List.length_take, List.length_drop]
  omega
theorem add_len (x y : Str) : (x ++ y).length = x.length + y.length := Array.size_append
theorem odd10 {n : Nat} (h : n < 9) : ∃ c, ((" .()[];=a" : Str)).cps.toList[n]? = some c := by
  have e : ((" .()[];=a" : Str)).cps.toList.length = 9 := by decide +kernel
  exact ⟨_, List.getElem?_eq_getElem (by omega)⟩
theorem odd_len10 : ((" .()[];=a" : Str)).length = 9 := by decide +kernel
section
variable {P : Program} {w : World} {K : PySem.W.Frag} {mg : Str → Option Value} {base : Heap} {C CP : Addr}
theorem scSp10 : FnScope ["_law_bag_here", "_law_words", "_law_at", "_law_some", "_law_word", "_law_way", "_law_place"] ["_law_bag_here", "_law_words"] (defScope sSp10) := ⟨rfl, rfl, rfl, by decide +kernel, rfl, by decide +kernel, by decide +kernel⟩
theorem ok_sp10 {f : Addr} {fd : FuncData} (F : Fun K "_law_spoilt" "_law_spoilt" sSp10 f fd) (B : Blt mg) (T : Txt K mg C) (DTk : Def P w K mg base "_law_take" 1 ["_law_bag_here", "_law_many"] spTake) : FnOk P w K mg base CX0 2 f fd ["_law_bag_here", "_law_words"] (spSp10) := by
  refine F.ok scSp10 (fun vs H Q E h => ?_) (fun cdv A outer s H vs Q E hr h => ?_)
  · obtain ⟨p, wl, ws, rfl, _⟩ := h
    rfl
  · obtain ⟨p, wl, ws, rfl, hb, hwl, hnp, hne, hsm, k⟩ := h
    have hr1 : Room 1 _ := hr
    refine ⟨_, pss_cons (ps_set (i := 2) scSp10.nd rfl (Or.inl rfl) (pe_def DTk hr1 rfl (pa_cons (pv 0) (pa_cons (pe_callB call_len_seq (by rfl) B.len PySem.boot_len (pa_cons (pv 1) pa_nil)) pa_nil)))) (pss_cons (ps_set (i := 3) scSp10.nd rfl (Or.inl rfl) (pe_lst (pa_cons pe_str (pa_cons pe_str (pa_cons pe_str (pa_cons pe_str (pa_cons pe_str (pa_cons pe_str (pa_cons pe_str (pa_cons pe_str (pa_cons pe_str (pa_cons pe_str (pa_cons pe_str (pa_cons pe_str (pa_cons pe_str (pa_cons pe_str (pa_cons pe_str (pa_cons pe_str (pa_cons pe_str pa_nil))))))))))))))))))) (pss_cons (ps_set (i := 4) scSp10.nd rfl (Or.inl rfl) (pe_ix (r := rIxL K) ix_list (pv 3) (pe_def DTk hr1 rfl (pa_cons (pv 0) (pa_cons pe_int pa_nil))) (fun _ _ => rfl))) (pss_cons (ps_set (i := 5) scSp10.nd rfl (Or.inl rfl) (pe_def DTk hr1 rfl (pa_cons (pv 0) (pa_cons pe_int pa_nil)))) (pss_cons (ps_if (pt_cmpR op_eq (pv 5) pe_int (nomark _)) (pss_cons (ps_set (i := 6) scSp10.nd rfl (Or.inl rfl) (pe_def DTk hr1 rfl (pa_cons (pv 0) (pa_cons (pe_op op_add (pe_callB call_len_str (by rfl) B.len PySem.boot_len (pa_cons (pe_ix (r := rIxL K) ix_list (pv 1) (pv 2) (fun _ _ => rfl)) pa_nil)) pe_int) pa_nil)))) (pss_cons (ps_set (i := 4) scSp10.nd rfl (Or.inl rfl) (pe_op op_add_str (pe_op op_add_str (pe_slice sl_str (pe_ix (r := rIxL K) ix_list (pv 1) (pv 2) (fun _ _ => rfl)) po_none (po_some (pv 6))) (pe_ix ix_str pe_str (pe_def DTk hr1 rfl (pa_cons (pv 0) (pa_cons pe_int pa_nil))) (fun _ _ => rfl))) (pe_slice sl_str (pe_ix (r := rIxL K) ix_list (pv 1) (pv 2) (fun _ _ => rfl)) (po_some (pv 6)) po_none))) (pss_one (ps_ret (pe_op op_catW (pe_op op_catW (pe_slice sl_tkW (pv 1) po_none (po_some (pv 2))) (pe_lst (pa_cons (pv 4) pa_nil))) (pe_slice sl_drW (pv 1) (po_some (pe_op op_add (pv 2) pe_int)) po_none)))))) pss_nil) (pss_one (ps_ret (pe_ix (r := rIxL K) ix_list (pe_lst (pa_cons (pe_op op_catW (pe_op op_catW (pe_slice sl_tkW (pv 1) po_none (po_some (pv 2))) (pe_lst (pa_cons (pv 4) pa_nil))) (pe_slice sl_drW (pv 1) (po_some (pv 2)) po_none)) (pa_cons (pe_op op_catW (pe_slice sl_tkW (pv 1) po_none (po_some (pv 2))) (pe_slice sl_drW (pv 1) (po_some (pe_op op_add (pv 2) pe_int)) po_none)) (pa_cons (pe_op op_catW (pe_op op_catW (pe_slice sl_tkW (pv 1) po_none (po_some (pv 2))) (pe_lst (pa_cons (pv 4) pa_nil))) (pe_slice sl_drW (pv 1) (po_some (pe_op op_add (pv 2) pe_int)) po_none)) (pa_cons (pe_slice sl_tkW (pv 1) po_none (po_some (pv 2))) (pa_cons (pe_op op_catW (pe_slice sl_tkW (pv 1) po_none (po_some (pe_op op_add (pv 2) pe_int))) (pe_slice sl_drW (pv 1) (po_some (pv 2)) po_none)) pa_nil)))))) (pv 5) (fun _ _ => rfl)))))))), ?_⟩
    have hsl := sizeLine_eq
    have hwn := lenW_len ws
    have hpos : 0 < ws.length := List.length_pos_iff.mpr hne
    dsimp only [gName]
    refine seq10 (a := tAsg _ _) (fun σ' H' => ∃ a : Nat, σ' = [some (.ref p), some (.ref wl), some (.int (a : Nat)), none, none, none, none] ∧ KB p H H' ∧ BagOk H' p ∧ a < ws.length) (fun D' hD _ => ?_) ?_
    · refine ⟨_, rfl, _, rfl, wl, _, rfl, .inl (SqL.of hwl), p, ((ws.length : Nat) : Int), by rw [strV_len]; rfl, hb, by omega, by omega, fun d H1 k1 b1 d0 d1 => ?_⟩
      obtain ⟨a, rfl⟩ := Int.eq_ofNat_of_zero_le d0
      exact hD _ _ ⟨a, rfl, k1, b1, by omega⟩
    rintro σ1 H1 ⟨a, rfl, k1, b1, ha⟩
    obtain ⟨w0, hw0⟩ : ∃ z, ws[a]? = some z := ⟨ws[a], List.getElem?_eq_getElem ha⟩
    obtain ⟨hd1, hd2⟩ := lenW_at hw0
    have hd0 := lenW_take ws a
    have hat : atI (strV ws) ((a : Nat) : Int) = some (.str w0) := atI_nat (by unfold strV; rw [List.getElem?_map, hw0]; rfl)
    refine ⟨by show 17 ≤ sizeLine; omega, fun T nT => ?_⟩
    have s2 := Same.new nT (o := .lst [V.str "a", V.str "j", V.str "k", V.str "=", V.str ";", V.str "[", V.str "]", V.str "first", V.str "pair", V.str "while", V.str "if", V.str ".", V.str "(..)", V.str "", V.str "(.", V.str "told", V.str "ab"])
    have e2 : (upd H1 T (.lst [V.str "a", V.str "j", V.str "k", V.str "=", V.str ";", V.str "[", V.str "]", V.str "first", V.str "pair", V.str "while", V.str "if", V.str ".", V.str "(..)", V.str "", V.str "(.", V.str "told", V.str "ab"])) T = some (.lst [V.str "a", V.str "j", V.str "k", V.str "=", V.str ";", V.str "[", V.str "]", V.str "first", V.str "pair", V.str "while", V.str "if", V.str ".", V.str "(..)", V.str "", V.str "(.", V.str "told", V.str "ab"]) := upd_same
    revert s2 e2
    generalize upd H1 T (.lst [V.str "a", V.str "j", V.str "k", V.str "=", V.str ";", V.str "[", V.str "]", V.str "first", V.str "pair", V.str "while", V.str "if", V.str ".", V.str "(..)", V.str "", V.str "(.", V.str "told", V.str "ab"]) = H2
    intro s2 e2
    have b2 := b1.same s2
    have hTp : T ≠ p := fun z => by
      obtain ⟨bx, hbx⟩ := b1.some
      rw [z, hbx] at nT
      cases nT
    refine ⟨_, rfl, _, rfl, p, 17, rfl, b2, by decide, by decide, fun d H3 k3 b3 d0 d1 => ?_⟩
    obtain ⟨n4, rfl⟩ := Int.eq_ofNat_of_zero_le d0
    obtain ⟨w4, hw4, hl4⟩ := some10 n4 (by omega)
    refine ⟨T, _, _, _, rfl, rfl, SqL.of (k3 _ _ hTp e2), atI_nat hw4, ?_⟩
    refine ⟨_, rfl, p, 6, rfl, b3, by decide, by decide, fun d H4 k4 b4 d0 d1 => ?_⟩
    obtain ⟨wy, rfl⟩ := Int.eq_ofNat_of_zero_le d0
    have k14 : KB p H H4 := ((k1.trans (KB.of s2)).trans k3).trans k4
    have hw : H4 wl = some (.lst (strV ws)) := k14 _ _ hnp hwl
    have htl : ∀ j, (ws.take j).length ≤ 9000 := fun j => by rw [List.length_take]; omega
    have hdl : ∀ j, (ws.drop j).length ≤ 9000 := fun j => by rw [List.length_drop]; omega
    have e1 : (((a : Nat) : Int) + 1) = ((a + 1 : Nat) : Int) := by omega
    dsimp only [gName]
    refine seq10 (a := tIfS _ _ _) (fun σ' H' => σ' = [some (.ref p), some (.ref wl), some (.int (a : Nat)), some (.ref T), some (.str w4), some (.int (wy : Nat)), none] ∧ H4 = H' ∧ wy ≠ 5) (fun D' hD hrt => ?_) ?_
    · refine ⟨_, rfl, rfl, _, rfl, ?_⟩
      by_cases h5 : wy = 5
      · refine iteT10 (decide_eq_true (by rw [h5]; rfl)) ?_
        refine ⟨_, rfl, _, rfl, _, rfl, wl, _, _, _, rfl, rfl, SqL.of hw, hat, w0, rfl, by omega, _, _, rfl, rfl, p, _, rfl, b4, by omega, by omega, fun d H5 k5 b5 d0 d1 => ?_⟩
        obtain ⟨pl, rfl⟩ := Int.eq_ofNat_of_zero_le d0
        have hw5 := k5 _ _ hnp hw
        refine ⟨_, rfl, _, rfl, wl, _, _, _, rfl, rfl, SqL.of hw5, hat, _, rfl, _, rfl, w0, rfl, by omega, ?_⟩
        refine ⟨_, rfl, p, 9, rfl, b5, by decide, by decide, fun d H6 k6 b6 d0 d1 => ?_⟩
        obtain ⟨o, rfl⟩ := Int.eq_ofNat_of_zero_le d0
        obtain ⟨c, hc⟩ := odd10 (n := o) (by omega)
        have hw6 := k6 _ _ hnp hw5
        have hq1 : (cutS w0 none (some ((pl : Nat) : Int))).length ≤ w0.length := cutS_len _ _ _
        have hq2 : (cutS w0 (some ((pl : Nat) : Int)) none).length ≤ w0.length := cutS_len _ _ _
        have hc1 : (⟨#[c]⟩ : Str).length = 1 := rfl
        refine ⟨_, _, _, rfl, rfl, by rw [odd_len10]; omega, atI_nat hc, _, _, rfl, rfl, by omega, ?_⟩
        refine ⟨_, rfl, _, rfl, wl, _, _, _, rfl, rfl, SqL.of hw6, hat, _, rfl, _, rfl, w0, rfl, by omega, _, _, rfl, rfl, by rw [add_len]; omega, ?_⟩
        generalize hwE : (cutS w0 none (some ((pl : Nat) : Int)) ++ (⟨#[c]⟩ : Str) ++ cutS w0 (some ((pl : Nat) : Int)) none) = w9
        have hl9 : w9.length ≤ 2 * w0.length + 1 := by
          rw [← hwE, add_len, add_len]
          omega
        refine ⟨_, rfl, _, rfl, _, rfl, wl, ws, a, rfl, rfl, rfl, hw6, fun A Ha sa ea => ?_⟩
        refine ⟨_, rfl, by show 1 ≤ sizeLine; omega, fun B nB => ?_⟩
        have sb := Same.new nB (o := .lst [V.str w9])
        have eb : (upd Ha B (.lst [V.str w9])) B = some (.lst [V.str w9]) := upd_same
        revert sb eb
        generalize upd Ha B (.lst [V.str w9]) = Hb
        intro sb eb
        have hwb := (sa.trans sb) _ _ hw6
        refine ⟨A, B, _, _, rfl, rfl, sb _ _ ea, (show Hb B = some (.lst (strV [w9])) from eb), by have := htl a; simp only [List.length_cons, List.length_nil]; omega, fun D Hd sd ed => ?_⟩
        refine ⟨_, rfl, _, rfl, _, _, rfl, rfl, _, rfl, wl, ws, a + 1, rfl, by rw [e1], rfl, sd _ _ hwb, fun G Hg sg eg => ?_⟩
        refine ⟨D, G, _, _, rfl, rfl, sg _ _ ed, eg, by have := htl a; have := hdl (a + 1); rw [List.length_append]; simp only [List.length_cons, List.length_nil]; omega, fun U Hu su eu => ?_⟩
        have s6u := (((sa.trans sb).trans sd).trans sg).trans su
        rw [hrt]
        refine k U _ Hu (((k14.trans k5).trans k6).trans (KB.of s6u)) (b6.same s6u) eu ?_
        rw [lenW_app, lenW_app, lenW_cons, lenW_nil]
        omega
      · exact iteF10 (decide_eq_false (fun e => h5 (by have := V.int.inj e; omega))) (hD _ _ ⟨rfl, rfl, h5⟩)
    rintro _ _ ⟨rfl, rfl, h5'⟩
    refine ⟨_, rfl, _, rfl, _, rfl, wl, ws, a, rfl, rfl, rfl, hw, fun AK1 K1 sK1 eK1 => ?_⟩
    have hK1 := sK1 _ _ hw
    refine ⟨_, rfl, by show 1 ≤ sizeLine; omega, fun AK2 nK2 => ?_⟩
    have sK2 := Same.new nK2 (o := .lst [V.str w4])
    have eK2 : (upd K1 AK2 (.lst [V.str w4])) AK2 = some (.lst [V.str w4]) := upd_same
    revert sK2 eK2
    generalize upd K1 AK2 (.lst [V.str w4]) = K2
    intro sK2 eK2
    have hK2 := sK2 _ _ hK1
    refine ⟨AK1, AK2, _, _, rfl, rfl, sK2 _ _ (eK1), (show K2 AK2 = some (.lst (strV [w4])) from eK2), by have := htl a; have := htl (a + 1); have := hdl a; have := hdl (a + 1); (try simp only [List.length_append, List.length_cons, List.length_nil]); omega, fun AK3 K3 sK3 eK3 => ?_⟩
    have hK3 := sK3 _ _ hK2
    refine ⟨_, rfl, _, rfl, _, rfl, wl, ws, a, rfl, rfl, rfl, hK3, fun AK4 K4 sK4 eK4 => ?_⟩
    have hK4 := sK4 _ _ hK3
    refine ⟨AK3, AK4, _, _, rfl, rfl, sK4 _ _ (eK3), eK4, by have := htl a; have := htl (a + 1); have := hdl a; have := hdl (a + 1); (try simp only [List.length_append, List.length_cons, List.length_nil]); omega, fun AK5 K5 sK5 eK5 => ?_⟩
    have hK5 := sK5 _ _ hK4
    refine ⟨_, rfl, _, rfl, _, rfl, wl, ws, a, rfl, rfl, rfl, hK5, fun AK6 K6 sK6 eK6 => ?_⟩
    have hK6 := sK6 _ _ hK5
    refine ⟨_, rfl, _, rfl, _, _, rfl, rfl, _, rfl, wl, ws, a + 1, rfl, by rw [e1], rfl, hK6, fun AK7 K7 sK7 eK7 => ?_⟩
    have hK7 := sK7 _ _ hK6
    refine ⟨AK6, AK7, _, _, rfl, rfl, sK7 _ _ (eK6), eK7, by have := htl a; have := htl (a + 1); have := hdl a; have := hdl (a + 1); (try simp only [List.length_append, List.length_cons, List.length_nil]); omega, fun AK8 K8 sK8 eK8 => ?_⟩
    have hK8 := sK8 _ _ hK7
    refine ⟨_, rfl, _, rfl, _, rfl, wl, ws, a, rfl, rfl, rfl, hK8, fun AK9 K9 sK9 eK9 => ?_⟩
    have hK9 := sK9 _ _ hK8
    refine ⟨_, rfl, by show 1 ≤ sizeLine; omega, fun AK10 nK10 => ?_⟩
    have sK10 := Same.new nK10 (o := .lst [V.str w4])
    have eK10 : (upd K9 AK10 (.lst [V.str w4])) AK10 = some (.lst [V.str w4]) := upd_same
    revert sK10 eK10
    generalize upd K9 AK10 (.lst [V.str w4]) = K10
    intro sK10 eK10
    have hK10 := sK10 _ _ hK9
    refine ⟨AK9, AK10, _, _, rfl, rfl, sK10 _ _ (eK9), (show K10 AK10 = some (.lst (strV [w4])) from eK10), by have := htl a; have := htl (a + 1); have := hdl a; have := hdl (a + 1); (try simp only [List.length_append, List.length_cons, List.length_nil]); omega, fun AK11 K11 sK11 eK11 => ?_⟩
    have hK11 := sK11 _ _ hK10
    refine ⟨_, rfl, _, rfl, _, _, rfl, rfl, _, rfl, wl, ws, a + 1, rfl, by rw [e1], rfl, hK11, fun AK12 K12 sK12 eK12 => ?_⟩
    have hK12 := sK12 _ _ hK11
    refine ⟨AK11, AK12, _, _, rfl, rfl, sK12 _ _ (eK11), eK12, by have := htl a; have := htl (a + 1); have := hdl a; have := hdl (a + 1); (try simp only [List.length_append, List.length_cons, List.length_nil]); omega, fun AK13 K13 sK13 eK13 => ?_⟩
    have hK13 := sK13 _ _ hK12
    refine ⟨_, rfl, _, rfl, _, rfl, wl, ws, a, rfl, rfl, rfl, hK13, fun AK14 K14 sK14 eK14 => ?_⟩
    have hK14 := sK14 _ _ hK13
    refine ⟨_, rfl, _, rfl, _, _, rfl, rfl, _, rfl, wl, ws, a + 1, rfl, rfl, by rw [e1], hK14, fun AK15 K15 sK15 eK15 => ?_⟩
    have hK15 := sK15 _ _ hK14
    refine ⟨_, rfl, _, rfl, _, rfl, wl, ws, a, rfl, rfl, rfl, hK15, fun AK16 K16 sK16 eK16 => ?_⟩
    have hK16 := sK16 _ _ hK15
    refine ⟨AK15, AK16, _, _, rfl, rfl, sK16 _ _ (eK15), eK16, by have := htl a; have := htl (a + 1); have := hdl a; have := hdl (a + 1); (try simp only [List.length_append, List.length_cons, List.length_nil]); omega, fun AK17 K17 sK17 eK17 => ?_⟩
    have hK17 := sK17 _ _ hK16
    have sT := ((((((((((((((((sK1.trans sK2).trans sK3).trans sK4).trans sK5).trans sK6).trans sK7).trans sK8).trans sK9).trans sK10).trans sK11).trans sK12).trans sK13).trans sK14).trans sK15).trans sK16).trans sK17)
    refine ⟨by show 5 ≤ sizeLine; omega, fun L nL => ?_⟩
    have sL := Same.new nL (o := .lst [V.ref AK5, V.ref AK8, V.ref AK13, V.ref AK14, V.ref AK17])
    have eL : (upd K17 L (.lst [V.ref AK5, V.ref AK8, V.ref AK13, V.ref AK14, V.ref AK17])) L = some (.lst [V.ref AK5, V.ref AK8, V.ref AK13, V.ref AK14, V.ref AK17]) := upd_same
    revert sL eL
    generalize upd K17 L (.lst [V.ref AK5, V.ref AK8, V.ref AK13, V.ref AK14, V.ref AK17]) = HL
    intro sL eL
    have sTL := sT.trans sL
    have kE : KB p H HL := k14.trans (KB.of sTL)
    have bE := b4.same sTL
    have r0 := sL _ _ (sK17 _ _ (sK16 _ _ (sK15 _ _ (sK14 _ _ (sK13 _ _ (sK12 _ _ (sK11 _ _ (sK10 _ _ (sK9 _ _ (sK8 _ _ (sK7 _ _ (sK6 _ _ (eK5)))))))))))))
    have r1 := sL _ _ (sK17 _ _ (sK16 _ _ (sK15 _ _ (sK14 _ _ (sK13 _ _ (sK12 _ _ (sK11 _ _ (sK10 _ _ (sK9 _ _ (eK8))))))))))
    have r2 := sL _ _ (sK17 _ _ (sK16 _ _ (sK15 _ _ (sK14 _ _ (eK13)))))
    have r3 := sL _ _ (sK17 _ _ (sK16 _ _ (sK15 _ _ (eK14))))
    have r4 := sL _ _ (eK17)
    obtain ⟨q, hq, hk⟩ : ∃ q, [V.ref AK5, V.ref AK8, V.ref AK13, V.ref AK14, V.ref AK17][wy]? = some (V.ref q) ∧ Q (V.ref q) HL := by
      have hwy : wy < 6 := by omega
      match wy, hwy, h5' with
      | 0, _, _ => exact ⟨_, rfl, k _ _ HL kE bE r0 (by rw [lenW_app, lenW_app, lenW_cons, lenW_nil]; omega)⟩
      | 1, _, _ => exact ⟨_, rfl, k _ _ HL kE bE r1 (by rw [lenW_app]; omega)⟩
      | 2, _, _ => exact ⟨_, rfl, k _ _ HL kE bE r2 (by rw [lenW_app, lenW_app, lenW_cons, lenW_nil]; omega)⟩
      | 3, _, _ => exact ⟨_, rfl, k _ _ HL kE bE r3 (by omega)⟩
      | 4, _, _ => exact ⟨_, rfl, k _ _ HL kE bE r4 (by rw [lenW_app]; omega)⟩
      | n + 5, h6, h5' => omega
    exact ⟨_, rfl, L, _, _, _, rfl, rfl, SqL.of eL, atI_nat hq, hk⟩
end
end Js
set_option Elab.async false
set_option linter.all false
set_option maxRecDepth 100000
set_option maxHeartbeats 2000000
set_option Elab.async false
set_option linter.all false
set_option maxRecDepth 100000
set_option maxHeartbeats 2000000
set_option Elab.async false
set_option linter.all false
set_option maxRecDepth 100000
set_option maxHeartbeats 2000000
set_option Elab.async false
set_option linter.all false
set_option maxRecDepth 100000
set_option maxHeartbeats 2000000
set_option Elab.async false
set_option linter.all false
set_option maxRecDepth 100000
set_option maxHeartbeats 2000000
namespace Js
open PySem PySem.Spec PyProof.Rows L2
section
variable {X : Cx} {C CP : Addr} {k : Nat}
theorem OpR.or {f : Value → Value → Sem Value} {r r' : R2} (h : OpR X f r) (h' : OpR X f r') : OpR X f (fun x y H Q => r x y H Q ∨ r' x y H Q) := fun pins s σ H x y v u Q I rx ry q => q.elim (h pins s σ H x y v u Q I rx ry) (h' pins s σ H x y v u Q I rx ry)
end
end Js
set_option Elab.async false
set_option linter.all false
set_option maxRecDepth 100000
set_option maxHeartbeats 2000000
namespace Js
open PySem L2
theorem in_look : ∀ d : Dd, inV (.str (kindOf d)) [V.str "while", V.str "if"] = decide (d.rows ≠ [])
  | .told _ _ => (by rw [decide_eq_false (by simp [Dd.rows])]; exact (by decide +kernel : inV (.str "told") [V.str "while", V.str "if"] = false))
  | .take false _ _ => (by rw [decide_eq_false (by simp [Dd.rows])]; exact (by decide +kernel : inV (.str "first") [V.str "while", V.str "if"] = false))
  | .take true _ _ => (by rw [decide_eq_false (by simp [Dd.rows])]; exact (by decide +kernel : inV (.str "second") [V.str "while", V.str "if"] = false))
  | .two false _ _ _ => (by rw [decide_eq_false (by simp [Dd.rows])]; exact (by decide +kernel : inV (.str "pair") [V.str "while", V.str "if"] = false))
  | .two true _ _ _ => (by rw [decide_eq_false (by simp [Dd.rows])]; exact (by decide +kernel : inV (.str "same") [V.str "while", V.str "if"] = false))
  | .wh _ _ => (by rw [decide_eq_true (by simp [Dd.rows])]; exact (by decide +kernel : inV (.str "while") [V.str "while", V.str "if"] = true))
  | .iff _ _ _ => (by rw [decide_eq_true (by simp [Dd.rows])]; exact (by decide +kernel : inV (.str "if") [V.str "while", V.str "if"] = true))
end Js
set_option Elab.async false
set_option linter.all false
set_option maxRecDepth 100000
set_option maxHeartbeats 2000000
namespace Js
open PySem L2
abbrev sShown : Stmt := top 56
abbrev sLText : Stmt := top 57
def spShown (K : PySem.W.Frag) (C : Addr) (n : Nat) : Sp := fun vs H Q _ => ∃ v d, vs = [v] ∧ DAt K C H v d ∧ d.deep < n ∧ d.shC.length ≤ 4000000 ∧ ∀ H', Same H H' → Q (.str (tx d.shC)) H'
def spLText (K : PySem.W.Frag) (C : Addr) (n : Nat) : Sp := fun vs H Q _ => ∃ q r, vs = [.ref q] ∧ RAt K C H q r ∧ deepR r < n ∧ (txC r).length ≤ 4000000 ∧ ∀ H', Same H H' → Q (.str (tx (txC r))) H'
theorem len_tl (x : Str) : x.cps.toList.length = x.length := by rw [Array.length_toList]; rfl
theorem c_eq : (((" = " : Str))) = tx [32, 61, 32] := by decide +kernel
theorem c_bl : (((" " : Str))) = tx [32] := by decide +kernel
theorem c_no : ((("" : Str))) = tx [] := by decide +kernel
theorem c_opn : (((" [ " : Str))) = tx [32, 91, 32] := by decide +kernel
theorem c_cls : ((("]" : Str))) = tx [93] := by decide +kernel
theorem c_semi : (((" ; " : Str))) = tx [32, 59, 32] := by decide +kernel
theorem letS_tx (a : Nat) : letS a = tx (lC a) := (tx_of (letS a)).symm
theorem join_tx (a : List Nat) (ys : List (List Nat)) : PySem.Txt.join (tx a) (ys.map tx) = tx (TL.joinL a ys) := by
  have e := TL.tl_join (tx a) (ys.map tx)
  have e1 : (ys.map tx).map TL.tl = ys := by
    rw [List.map_map]
    exact List.map_id' _ 
  rw [e1] at e
  exact TL.ext_tl ((congrArg TL.tl (TL.join_eq (tx a) (ys.map tx))).trans e)
theorem joinL0 : ∀ ys : List (List Nat), TL.joinL [] ys = ys.flatten
  | [] => rfl
  | [p] => by simp [TL.joinL]
  | p :: q :: r => by rw [TL.joinL, joinL0 (q :: r)]; simp
theorem rows_two : ∀ d : Dd, d.rows.length ≤ 2
  | .told _ _ => by simp [Dd.rows]
  | .take _ _ _ => by simp [Dd.rows]
  | .two _ _ _ _ => by simp [Dd.rows]
  | .wh _ _ => by simp [Dd.rows]
  | .iff _ _ _ => by simp [Dd.rows]
def rowC (r : List Dd) : List Nat := [32, 91, 32] ++ txC r ++ [93]
theorem shC_rows : ∀ d : Dd, d.rows ≠ [] → d.shC = (kindOf d).cps.toList ++ [32] ++ lC (d.names.headD 0) ++ (d.rows.map rowC).flatten
  | .told _ _, h => absurd rfl h
  | .take _ _ _, h => absurd rfl h
  | .two _ _ _ _, h => absurd rfl h
  | .wh a r, _ => by rw [Dd.shC, kindOf, k_wh]; simp [Dd.names, Dd.rows, rowC]
  | .iff a r o, _ => by rw [Dd.shC, kindOf, k_if]; simp [Dd.names, Dd.rows, rowC]
theorem shC_flat : ∀ d : Dd, d.rows = [] → kindOf d ≠ ("told" : Str) → d.shC = lC (d.names.headD 0) ++ [32, 61, 32] ++ (kindOf d).cps.toList ++ [32] ++ TL.joinL [32] ((d.names.drop 1).map lC)
  | .told _ _, _, h => absurd rfl h
  | .take s a b, _, _ => by rw [Dd.shC]; simp [Dd.names, kindOf, TL.joinL]
  | .two s a b c, _, _ => by rw [Dd.shC]; simp [Dd.names, kindOf, TL.joinL]
  | .wh a r, h, _ => by cases h
  | .iff a r o, h, _ => by cases h
theorem flat_len : ∀ rs : List (List Dd), ((rs.map rowC).flatten).length = ((rs.map rowC).map (·.length)).sum
  | [] => rfl
  | r :: rs => by simp
theorem nmsL_len : ∀ xs : List Pc, (nmsL xs).length ≤ xs.length
  | [] => Nat.zero_le _
  | x :: xs => by
    have := nmsL_len xs
    have e : nmsL (x :: xs) = x.nms ++ nmsL xs := by simp [nmsL]
    have h : x.nms.length ≤ 1 := by cases x <;> simp [Pc.nms]
    rw [e, List.length_append, List.length_cons]
    omega
theorem pcs_rows : ∀ d : Dd, d.rows ≠ [] → d.pcs = d.rows.map Pc.rw
  | .told _ _, h => absurd rfl h
  | .take _ _ _, h => absurd rfl h
  | .two _ _ _ _, h => absurd rfl h
  | .wh _ _, _ => rfl
  | .iff _ _ _, _ => rfl
theorem letS_len (a : Nat) : (letS a).length = 1 := by
  have := lC_len a
  rw [← len_tl]
  exact this
theorem l_eq : ((" = " : Str)).length = 3 := by decide +kernel
theorem l_bl : ((" " : Str)).length = 1 := by decide +kernel
theorem kind_len : ∀ d : Dd, (kindOf d).length ≤ 6
  | .told _ _ => by rw [kindOf]; decide +kernel
  | .take false _ _ => by rw [kindOf]; decide +kernel
  | .take true _ _ => by rw [kindOf]; decide +kernel
  | .two false _ _ _ => by rw [kindOf]; decide +kernel
  | .two true _ _ _ => by rw [kindOf]; decide +kernel
  | .wh _ _ => by rw [kindOf]; decide +kernel
  | .iff _ _ _ => by rw [kindOf]; decide +kernel
theorem flat_mem : ∀ (rs : List (List Dd)) (r : List Dd), r ∈ rs → (rowC r).length ≤ ((rs.map rowC).flatten).length
  | x :: rs, r, h => by
    rw [List.map_cons, List.flatten_cons, List.length_append]
    rcases List.mem_cons.mp h with rfl | h
    · omega
    · have := flat_mem rs r h
      omega
theorem ones_sum : ∀ l : List Nat, (l.map fun _ => 1).sum = l.length
  | [] => rfl
  | x :: l => by rw [List.map_cons, List.sum_cons, ones_sum l, List.length_cons]; omega
section
variable {P : Program} {w : World} {K : PySem.W.Frag} {mg : Str → Option Value} {base : Heap} {C : Addr}
theorem scSh : FnScope ["_law_deed_here", "_law_letters", "_law_name_here", "_law_inner"] ["_law_deed_here"] (defScope sShown) := ⟨rfl, rfl, rfl, by decide +kernel, rfl, by decide +kernel, by decide +kernel⟩
theorem ok_shown {f fT : Addr} {fd fdT : FuncData} (F : Fun K "_law_shown" "_law_shown" sShown f fd) (B : Blt mg) (T : Txt K mg C) (Fc : FrmC K w mg) (SS : Spc P w K mg base C "__str__" 2 ["self"] (spStr C)) (ti : PySem.W.kitOne K (.type "tuple") (.type "int") = some false) (Ci : PySem.W.kitOne K (.ref C) (.type "int") = some false)
    (m n : Nat) (hm : 4 ≤ m) (GT : FnOk P w K mg base CX0 m fT fdT ["_law_deeds_here"] (spLText K C n)) (mgt : mg "_law_text" = some (.ref fT)) (kt : PySem.W.keepIn K (.ref fT) = true) (bt : Binds K fdT ["_law_deeds_here"] []) : FnOk P w K mg base CX0 (m + 1) f fd ["_law_deed_here"] (spShown K C (n + 1)) := by
  refine F.ok scSh (fun vs H Q E h => ?_) (fun cdv A outer s H vs Q E hr h => ?_)
  · obtain ⟨v, d, rfl, _⟩ := h
    rfl
  · obtain ⟨v, d, rfl, hd, hdp, hlen, k⟩ := h
    have hr4 : Room 4 _ := hr.mono hm
    refine ⟨_, pss_cons (ps_setLc (i := 1) (own := [("_law_name_here", 2)]) (g := gName 2)  rfl scSh.nd rfl rfl (sw_true rfl rfl rfl (by decide +kernel)) (pi_tup (pe_slice sl_tup (pv 0) (po_some pe_int) po_none)) (blkOk_by (N := ["_law_deed_here", "_law_letters", "_law_name_here", "_law_inner"]) (sc := defScope sShown) (by decide +kernel)) (fun _ _ _ _ _ => (pg_name (i := 2) scSh.nd rfl (Or.inl rfl))) (fun _ _ _ _ _ => (pts_one (pt_val (pe_callB (r := rIsi K) call_isi (by rfl) T.isi PyProof.Rows.boot_isinstance (pa_cons (pv 2) (pa_cons (pe_bltn (v := .ty "int") rfl B.int PyProof.Rows.boot_int rfl) pa_nil)))))) (fun _ _ _ _ _ => (pe_ix ix_str pe_str (pv 2) (fun _ _ => rfl)))) (pss_cons (ps_if (pt_cmpR op_eq (pe_ix (r := rIxT K) ix_tup (pv 0) pe_int (fun _ _ => rfl)) pe_str (nomark _)) (pss_one (ps_ret (pe_op op_add_str (pe_op op_add_str (pe_ix (r := rIxL K) ix_list (pv 1) pe_int (fun _ _ => rfl)) pe_str) (pe_callTy (call_strT SS hr4) (by rfl) B.str PyProof.Rows.boot_str (pa_cons (pe_ix (r := rIxT K) ix_tup (pv 0) pe_int (fun _ _ => rfl)) pa_nil))))) pss_nil) (pss_cons (ps_if (pt_cmpR op_in_seq (pe_ix (r := rIxT K) ix_tup (pv 0) pe_int (fun _ _ => rfl)) (pe_tup (pa_cons pe_str (pa_cons pe_str pa_nil))) rfl) (pss_one (ps_ret (pe_op op_add_str (pe_op op_add_str (pe_op op_add_str (pe_ix (r := rIxT K) ix_tup (pv 0) pe_int (fun _ _ => rfl)) pe_str) (pe_ix (r := rIxL K) ix_list (pv 1) pe_int (fun _ _ => rfl))) (pe_join pe_str (pe_lc (own := [("_law_inner", 3)]) (g := gName 3) (tt := tYes) rfl scSh.nd (pi_tup (pe_slice sl_tup (pv 0) (po_some pe_int) po_none)) (blkOk_by (N := ["_law_deed_here", "_law_letters", "_law_name_here", "_law_inner"]) (sc := defScope sShown) (by decide +kernel)) (fun _ _ _ _ _ => (pg_name (i := 3) scSh.nd rfl (Or.inl rfl))) (fun _ _ _ _ _ => pts_nil) (fun _ _ _ _ _ => (pe_op op_add_str (pe_op op_add_str pe_str (pe_call GT hr rfl mgt kt bt .nil pass0 (pa_cons (pv 3) pa_nil))) pe_str))))))) pss_nil) (pss_one (ps_ret (pe_op op_add_str (pe_op op_add_str (pe_op op_add_str (pe_op op_add_str (pe_ix (r := rIxL K) ix_list (pv 1) pe_int (fun _ _ => rfl)) pe_str) (pe_ix (r := rIxT K) ix_tup (pv 0) pe_int (fun _ _ => rfl))) pe_str) (pe_join pe_str (pe_slice sl_list (pv 1) (po_some pe_int) po_none))))))), ?_⟩
    have hsl := sizeLine_eq
    obtain ⟨p, its, rfl, hp, hn1, hpcs, _⟩ := DAt_split d hd
    have hpc0 : Paired (PcAt K C H) (V.int ((d.nm1 : Nat) : Int) :: its) (Pc.nm d.nm1 :: d.pcs) := .cons ⟨hn1, rfl⟩ hpcs
    have hil := Paired.length hpcs
    have hpl := pcs_len d
    obtain ⟨a, ns, hns⟩ := names_cons d
    have hnf := names_few d
    have hkl := kind_len d
    refine ⟨_, rfl, _, rfl, p, _, rfl, hp, ?_, fun q nq => ?_⟩
    · rintro ⟨h0, _⟩
      have e : HT.sIx (its.length + 1 + 1) 0 (some 1) = 1 := by
        show min 1 (its.length + 1 + 1) = 1
        omega
      rw [List.length_cons, List.length_cons, e] at h0
      cases h0
    rw [cut1]
    have sq := Same.new nq (o := .tup (V.int ((d.nm1 : Nat) : Int) :: its))
    have hq : (upd H q (.tup (V.int ((d.nm1 : Nat) : Int) :: its))) q = some (.tup (V.int ((d.nm1 : Nat) : Int) :: its)) := upd_same
    revert sq hq
    generalize upd H q (.tup (V.int ((d.nm1 : Nat) : Int) :: its)) = H1
    intro sq hq
    refine ⟨q, rfl, ⟨_, SqT.of hq⟩, fun D nD => lc_tup (K := K) (a := q) (xs := V.int ((d.nm1 : Nat) : Int) :: its) (fun i H' => Same H1 H' ∧ H' D = some (.lst (strV ((nmsL ((Pc.nm d.nm1 :: d.pcs).take i)).map letS)))) ⟨Same.new nD, upd_same⟩ (fun i H' _ z => SqT.of (z.1 _ _ hq)) ?_ ?_⟩
    · rintro i x H2 hx ⟨s2, hD⟩
      obtain ⟨pc, hpc, hpx⟩ := paired_get hpc0 hx
      have hpx2 := hpx.kt (KT.of (sq.trans s2))
      have hbnd : (nmsL ((Pc.nm d.nm1 :: d.pcs).take i)).length ≤ 3 := by
        have h1 := nmsL_len ((Pc.nm d.nm1 :: d.pcs).take i)
        have h2 : ((Pc.nm d.nm1 :: d.pcs).take i).length ≤ 3 := by
          rw [List.length_take, List.length_cons]
          omega
        omega
      refine ⟨rfl, ?_⟩
      cases pc with
      | nm b =>
        obtain ⟨hb, rfl⟩ := hpx2
        obtain ⟨c, hc1, hc2⟩ := let_at b hb
        refine ⟨_, rfl, _, _, _, _, true, rfl, .ty "int", .base (.int _), Fc.ii, _, rfl, iteT ?_⟩
        refine ⟨_, rfl, _, _, c, rfl, rfl, (by decide +kernel), hc1, ?_⟩
        refine ⟨_, hD, by rw [strV_len, List.length_map]; omega, s2.set nD, ?_⟩
        rw [upd_same, take_snoc hpc, nmsL_snoc, ← hc2, List.map_append, strV_app]
        rfl
      | th t =>
        obtain ⟨htz, x1, rfl, hx1⟩ := hpx2
        obtain ⟨dx, f1, g1, h1⟩ := hx1.obj
        refine ⟨_, rfl, _, _, _, _, false, rfl, .ty "int", .base (.ins h1 T.cl T.ca T.cn T.ct T.cm), Ci, _, rfl, iteF ?_⟩
        refine ⟨s2, ?_⟩
        rw [take_snoc hpc, nmsL_snoc, show Pc.nms (Pc.th t) = [] from rfl, List.append_nil]
        exact hD
      | rw r6 =>
        obtain ⟨q6, rfl, vs6, hq6, _⟩ := hpx2
        refine ⟨_, rfl, _, _, _, _, false, rfl, .ty "int", sqt_ty hq6, ti, _, rfl, iteF ?_⟩
        refine ⟨s2, ?_⟩
        rw [take_snoc hpc, nmsL_snoc, show Pc.nms (Pc.rw r6) = [] from rfl, List.append_nil]
        exact hD
    · rintro H2 ⟨s2, hD⟩
      rw [show (V.int ((d.nm1 : Nat) : Int) :: its).length = (Pc.nm d.nm1 :: d.pcs).length from Paired.length hpc0, List.take_length, nms_names, hns] at hD
      have hp2 := sqt_kt (KT.of (sq.trans s2)) hp
      have sH2 := sq.trans s2
      refine ⟨_, rfl, p, _, 0, _, rfl, rfl, hp2, at0 _ _, rfl, _, rfl, ?_⟩
      by_cases hk : kindOf d = ("told" : Str)
      · obtain ⟨a', t, rfl⟩ := told_of d hk
        cases hns
        rw [decide_eq_true (show V.str (kindOf (Dd.told a t)) = V.str "told" by rfl)]
        refine iteT ?_
        obtain ⟨x, rfl, htz, x1, rfl, hx1⟩ := paired1 hpcs
        refine ⟨_, rfl, D, _, _, _, rfl, rfl, SqL.of hD, at0 _ _, _, _, rfl, rfl, ?_, _, rfl, p, _, _, _, rfl, rfl, hp2, atI_nat (j := 2) rfl, x1, t, rfl, hx1.same sH2, htz, fun H3 s3 => ?_⟩
        · rw [letS_len, l_eq]; omega
        refine ⟨_, _, rfl, rfl, ?_, ?_⟩
        · rw [PySem.Str.length_append, letS_len, l_eq, Tr.text_len]
          omega
        · have e : letS a ++ (" = " : Str) ++ t.text = tx (Dd.told a t).shC := by
            rw [c_eq, letS_tx, tx_text, tx_append, tx_append, Dd.shC]
          show Q (.str (letS a ++ (" = " : Str) ++ t.text)) H3
          rw [e]
          exact k H3 (sH2.trans s3)
      · rw [decide_eq_false (show ¬ V.str (kindOf d) = V.str "told" from fun z => hk (V.str.inj z))]
        refine iteF ?_
        refine ⟨_, rfl, p, _, 0, _, rfl, rfl, hp2, at0 _ _, by show 2 ≤ sizeLine; decide, fun U nU => ?_⟩
        have sU := Same.new nU (o := .tup [V.str "while", V.str "if"])
        refine ⟨U, _, rfl, .inr (SqT.of upd_same), rfl, rfl, _, rfl, ?_⟩
        rw [show (if false = true then !inV (.str (kindOf d)) [V.str "while", V.str "if"] else inV (.str (kindOf d)) [V.str "while", V.str "if"]) = decide (d.rows ≠ []) from in_look d]
        have hp3 := sqt_kt (KT.of sU) hp2
        have hD3 := sU _ _ hD
        have sH3 := sH2.trans sU
        revert hp3 hD3 sH3
        generalize upd H2 U (.tup [V.str "while", V.str "if"]) = H3
        intro hp3 hD3 sH3
        by_cases hrw : d.rows = []
        · rw [decide_eq_false (fun z => z hrw)]
          refine iteF ?_
          refine ⟨_, rfl, D, _, _, _, rfl, rfl, SqL.of hD3, at0 _ _, _, _, rfl, rfl, ?_, _, rfl, p, _, 0, _, rfl, rfl, hp3, at0 _ _, _, _, rfl, rfl, ?_, _, _, rfl, rfl, ?_, ⟨_, rfl⟩, _, rfl, _, rfl, D, _, rfl, SqL.of hD3, fun q4 nq4 => ?_⟩
          · rw [letS_len, l_eq]; omega
          · rw [PySem.Str.length_append, letS_len, l_eq]; omega
          · rw [PySem.Str.length_append, PySem.Str.length_append, letS_len, l_eq, l_bl]; omega
          have ecut : cutV (strV ((a :: ns).map letS)) (some 1) none = (ns.map letS).map V.str := cut1 _ _
          rw [ecut]
          have ens : ns = d.names.drop 1 := by rw [hns]; rfl
          have eh : d.names.headD 0 = a := by rw [hns]; rfl
          have esh := shC_flat d hrw hk
          rw [eh, ← ens] at esh
          have eall : letS a ++ (" = " : Str) ++ kindOf d ++ (" " : Str) ++ PySem.Txt.join (" " : Str) (ns.map letS) = tx d.shC := by
            have e1 : ns.map letS = (ns.map lC).map tx := by
              rw [List.map_map]
              exact List.map_congr_left fun x _ => letS_tx x
            rw [e1, c_eq, c_bl, join_tx, letS_tx, ← tx_of (kindOf d), tx_append, tx_append, tx_append, tx_append, esh]
          refine ⟨_, q4, ns.map letS, rfl, rfl, .inl (SqL.of upd_same), ?_, _, _, rfl, rfl, ?_, ?_⟩
          · have : (ns.map letS).map (·.length) = ns.map fun _ => 1 := by
              rw [List.map_map]
              exact List.map_congr_left fun x _ => letS_len x
            have h2 : ns.length ≤ 2 := by
              rw [hns, List.length_cons] at hnf
              omega
            have h3 := ones_sum ns
            rw [this, h3, List.length_map, l_bl]
            omega
          · have := congrArg PySem.Str.length eall
            rw [PySem.Str.length_append, tx_len] at this
            rw [this]
            omega
          · show Q (.str (letS a ++ (" = " : Str) ++ kindOf d ++ (" " : Str) ++ PySem.Txt.join (" " : Str) (ns.map letS))) _
            rw [eall]
            exact k _ (sH3.trans (Same.new nq4))
        · rw [decide_eq_true hrw]
          refine iteT ?_
          have eh : d.names.headD 0 = a := by rw [hns]; rfl
          have esh := shC_rows d hrw
          rw [eh] at esh
          have hpr := pcs_rows d hrw
          refine ⟨_, rfl, p, _, 0, _, rfl, rfl, hp3, at0 _ _, _, _, rfl, rfl, ?_, _, rfl, D, _, _, _, rfl, rfl, SqL.of hD3, at0 _ _, _, _, rfl, rfl, ?_, ⟨_, rfl⟩, _, rfl, _, rfl, p, _, rfl, hp3, ?_, fun q4 nq4 => ?_⟩
          · rw [l_bl]; omega
          · rw [PySem.Str.length_append, letS_len, l_bl]; omega
          · rintro ⟨h0, _⟩
            have e : HT.sIx (its.length + 1 + 1) 0 (some 2) = 2 := by
              show min 2 (its.length + 1 + 1) = 2
              omega
            rw [List.length_cons, List.length_cons, e] at h0
            cases h0
          rw [cut2]
          have s4 := Same.new nq4 (o := .tup its)
          have hq4 : (upd H3 q4 (.tup its)) q4 = some (.tup its) := upd_same
          revert s4 hq4
          generalize upd H3 q4 (.tup its) = H4
          intro s4 hq4
          have hsum := congrArg List.length esh
          simp only [List.length_append, List.length_cons, List.length_nil, lC_len, len_tl] at hsum
          have hro : ∀ (i : Nat) (x : V), its[i]? = some x → ∃ r6, d.rows[i]? = some r6 ∧ ∃ q6, x = .ref q6 ∧ RAt K C H q6 r6 := by
            intro i x hx
            obtain ⟨pc, hpc, hpx⟩ := paired_get hpcs hx
            rw [hpr, List.getElem?_map] at hpc
            cases hr6 : d.rows[i]? with
            | none => rw [hr6] at hpc; cases hpc
            | some r6 =>
              rw [hr6] at hpc
              cases Option.some.inj hpc
              exact ⟨r6, rfl, hpx⟩
          refine ⟨q4, rfl, ⟨_, SqT.of hq4⟩, fun D2 nD2 => lc_tup (K := K) (a := q4) (xs := its) (fun i H' => Same H4 H' ∧ H' D2 = some (.lst (strV ((((d.rows.take i).map rowC)).map tx)))) ⟨Same.new nD2, upd_same⟩ (fun i H' _ z => SqT.of (z.1 _ _ hq4)) ?_ ?_⟩
          · rintro i x H5 hx ⟨s5, hD5⟩
            obtain ⟨r6, hr6, q6, rfl, hq6⟩ := hro i x hx
            have hmem := List.mem_of_getElem? hr6
            have hfl := flat_mem d.rows r6 hmem
            have hdl := deepL_mem d.rows r6 hmem
            have hdr := deep_rows d hrw
            have hrc : (rowC r6).length = (txC r6).length + 4 := by
              unfold rowC
              simp only [List.length_append, List.length_cons, List.length_nil]
              omega
            have h2 := rows_two d
            refine ⟨rfl, lc_yes ?_⟩
            refine ⟨_, rfl, q6, r6, rfl, (hq6.same sH3).same (s4.trans s5), by omega, by omega, fun H6 s6 => ?_⟩
            refine ⟨_, _, rfl, rfl, ?_, _, _, rfl, rfl, ?_, ?_⟩
            · rw [c_opn, tx_len, tx_len]; simp only [List.length_cons, List.length_nil]; omega
            · rw [PySem.Str.length_append, c_opn, c_cls, tx_len, tx_len, tx_len]; simp only [List.length_cons, List.length_nil]; omega
            refine ⟨_, s6 _ _ hD5, by rw [strV_len, List.length_map, List.length_map, List.length_take]; omega, (s5.trans s6).set nD2, ?_⟩
            rw [upd_same, take_snoc hr6, List.map_append, List.map_append, strV_app]
            have e : (" [ " : Str) ++ tx (txC r6) ++ ("]" : Str) = tx (rowC r6) := by rw [c_opn, c_cls, tx_append, tx_append, rowC]
            show some (HO.lst (strV (((d.rows.take i).map rowC).map tx) ++ [V.str ((" [ " : Str) ++ tx (txC r6) ++ ("]" : Str))])) = _
            rw [e]
            rfl
          · rintro H5 ⟨s5, hD5⟩
            have hlr : its.length = d.rows.length := by rw [hil, hpr, List.length_map]
            rw [hlr, List.take_length] at hD5
            have eall : kindOf d ++ (" " : Str) ++ letS a ++ PySem.Txt.join ("" : Str) ((d.rows.map rowC).map tx) = tx d.shC := by
              rw [c_bl, c_no, join_tx, joinL0, letS_tx, ← tx_of (kindOf d), tx_append, tx_append, tx_append, esh]
            refine ⟨_, D2, (d.rows.map rowC).map tx, rfl, rfl, .inl (SqL.of hD5), ?_, _, _, rfl, rfl, ?_, ?_⟩
            · have e1 : ((d.rows.map rowC).map tx).map (·.length) = (d.rows.map rowC).map (·.length) := by
                rw [List.map_map]
                exact List.map_congr_left fun x _ => tx_len x
              have := flat_len (d.rows)
              have e0 : (("" : Str)).length = 0 := by decide +kernel
              rw [e1, e0, Nat.mul_zero]
              omega
            · have := congrArg PySem.Str.length eall
              rw [PySem.Str.length_append, tx_len] at this
              rw [this]
              omega
            · show Q (.str (kindOf d ++ (" " : Str) ++ letS a ++ PySem.Txt.join ("" : Str) ((d.rows.map rowC).map tx))) _
              rw [eall]
              exact k _ ((sH3.trans s4).trans s5)
theorem scLT : FnScope ["_law_deeds_here", "_law_deed_here"] ["_law_deeds_here"] (defScope sLText) := ⟨rfl, rfl, rfl, by decide +kernel, rfl, by decide +kernel, by decide +kernel⟩
theorem ok_ltext {f fS : Addr} {fd fdS : FuncData} (F : Fun K "_law_text" "_law_text" sLText f fd) (B : Blt mg) (SE : Spc P w K mg base C "__eq__" 2 ["self", "other"] (spEqT C))
    (m n : Nat) (hm : 20 ≤ m) (hn9 : n ≤ 9) (GS : FnOk P w K mg base CX0 m fS fdS ["_law_deed_here"] (spShown K C n)) (mgs : mg "_law_shown" = some (.ref fS)) (ks : PySem.W.keepIn K (.ref fS) = true) (bs : Binds K fdS ["_law_deed_here"] []) : FnOk P w K mg base CX0 (m + 1) f fd ["_law_deeds_here"] (spLText K C n) := by
  refine F.ok scLT (fun vs H Q E h => ?_) (fun cdv A outer s H vs Q E hr h => ?_)
  · obtain ⟨q, r, rfl, _⟩ := h
    rfl
  · obtain ⟨q, r, rfl, hq, hdp, hlen, k⟩ := h
    have hr0 : Room m _ := hr
    have hr20 : Room 20 _ := hr.mono hm
    refine ⟨_, pss_one (ps_ret (pe_op op_add_str (pe_join pe_str (pe_lc (own := [("_law_deed_here", 1)]) (g := gName 1) (tt := tYes) rfl scLT.nd (pi_tup (pv 0)) (blkOk_by (N := ["_law_deeds_here", "_law_deed_here"]) (sc := defScope sLText) (by decide +kernel)) (fun _ _ _ _ _ => (pg_name (i := 1) scLT.nd rfl (Or.inl rfl))) (fun _ _ _ _ _ => pts_nil) (fun _ _ _ _ _ => (pe_call GS hr0 rfl mgs ks bs .nil pass0 (pa_cons (pv 1) pa_nil))))) (pe_op op_mulS pe_str (pe_callTy call_int1 (by rfl) B.int PyProof.Rows.boot_int (pa_cons (pe_cmpR (op_neTl (eqT_rows SE 9).2.2 hr20) (pv 0) (pe_tup pa_nil) (nomark _)) pa_nil))))), ?_⟩
    have hsl := sizeLine_eq
    obtain ⟨vs, hqv, hvs⟩ := id hq
    have hvl := DsAt.length r vs hvs
    have hsum := txC_sum r
    have hrl : r.length ≤ (txC r).length := by omega
    refine ⟨⟨_, rfl⟩, _, rfl, q, rfl, ⟨_, hqv⟩, fun D nD => lc_tup (K := K) (a := q) (xs := vs) (fun i H' => Same H H' ∧ H' D = some (.lst (strV (((r.take i).map Dd.shC).map tx)))) ⟨Same.new nD, upd_same⟩ (fun i H' _ z => sqt_kt (KT.of z.1) hqv) ?_ ?_⟩
    · rintro i v H1 hv ⟨s1, hD⟩
      obtain ⟨d, hd, hdv⟩ := DsAt.get r vs i v hvs hv
      have hdm := List.mem_of_getElem? hd
      have hdd := deepR_mem r d hdm
      have htm := txC_mem r d hdm
      refine ⟨rfl, lc_yes ?_⟩
      refine ⟨_, rfl, v, d, rfl, DAt_kt (KT.of s1) d v hdv, by omega, by omega, fun H2 s2 => ?_⟩
      have hir := (List.getElem?_eq_some_iff.mp hd).1
      refine ⟨_, s2 _ _ hD, by rw [strV_len, List.length_map, List.length_map, List.length_take]; omega, (s1.trans s2).set nD, ?_⟩
      rw [upd_same, take_snoc hd, List.map_append, List.map_append, strV_app]
      rfl
    · rintro H1 ⟨s1, hD⟩
      rw [hvl, List.take_length] at hD
      have e1 : ((r.map Dd.shC).map tx).map (·.length) = r.map fun d => d.shC.length := by
        rw [List.map_map, List.map_map]
        exact List.map_congr_left fun x _ => tx_len _
      have e3 : ((" ; " : Str)).length = 3 := by decide +kernel
      refine ⟨_, D, (r.map Dd.shC).map tx, rfl, rfl, .inl (SqL.of hD), ?_, ?_⟩
      · rw [e1, List.length_map, List.length_map, e3]
        omega
      refine ⟨_, rfl, Nat.zero_le _, fun U nU => ?_⟩
      have sU := Same.new nU (o := .tup [])
      refine ⟨decide (r = []), ⟨q, U, r, [], rfl, rfl, (hq.same s1).same sU, ⟨[], SqT.of upd_same, rfl⟩, by omega, by rw [deepR]; omega, rfl⟩, fun H2 s2 => .inr ⟨_, rfl, ?_⟩⟩
      have hlt := law_text r
      have ejoin : PySem.Txt.join (" ; " : Str) ((r.map Dd.shC).map tx) = tx (TL.joinL [32, 59, 32] (r.map Dd.shC)) := by rw [c_semi, join_tx]
      have hlj := congrArg List.length hlt
      rw [List.length_append] at hlj
      by_cases h0 : r = []
      · rw [decide_eq_true h0]
        refine ⟨[32], 0, congrArg V.str c_bl, rfl, by simp, by omega, by simp, ?_⟩
        rw [if_pos h0] at hlt
        refine ⟨_, _, rfl, rfl, ?_, ?_⟩
        · rw [ejoin, tx_len, tx_len]
          simp [repl]
          omega
        · show Q (.str (PySem.Txt.join (" ; " : Str) ((r.map Dd.shC).map tx) ++ tx (repl 0 [32]))) _
          rw [ejoin, tx_append]
          have : repl 0 [32] = [] := rfl
          rw [this, hlt]
          exact k H2 ((s1.trans sU).trans s2)
      · rw [decide_eq_false h0]
        refine ⟨[32], 1, congrArg V.str c_bl, rfl, by simp, by omega, by simp, ?_⟩
        rw [if_neg h0] at hlt
        refine ⟨_, _, rfl, rfl, ?_, ?_⟩
        · rw [ejoin, tx_len, tx_len]
          simp [repl]
          omega
        · show Q (.str (PySem.Txt.join (" ; " : Str) ((r.map Dd.shC).map tx) ++ tx (repl 1 [32]))) _
          rw [ejoin, tx_append]
          have : repl 1 [32] = [32] := rfl
          rw [this, hlt]
          exact k H2 ((s1.trans sU).trans s2)
theorem ok_texts {f fS : Addr} {fd fdS : FuncData} (F : Fun K "_law_text" "_law_text" sLText f fd) (mgt : mg "_law_text" = some (.ref f)) (bt : Binds K fd ["_law_deeds_here"] []) (FS : Fun K "_law_shown" "_law_shown" sShown fS fdS) (mgs : mg "_law_shown" = some (.ref fS)) (bs : Binds K fdS ["_law_deed_here"] [])
    (B : Blt mg) (T : Txt K mg C) (Fc : FrmC K w mg) (SS : Spc P w K mg base C "__str__" 2 ["self"] (spStr C)) (SE : Spc P w K mg base C "__eq__" 2 ["self", "other"] (spEqT C)) (ti : PySem.W.kitOne K (.type "tuple") (.type "int") = some false) (Ci : PySem.W.kitOne K (.ref C) (.type "int") = some false) :
    ∀ n, n ≤ 9 → FnOk P w K mg base CX0 (2 * n + 21) fS fdS ["_law_deed_here"] (spShown K C n) ∧ FnOk P w K mg base CX0 (2 * n + 22) f fd ["_law_deeds_here"] (spLText K C n) := by
  intro n
  induction n with
  | zero =>
    intro hn
    have g : FnOk P w K mg base CX0 (2 * 0 + 21) fS fdS ["_law_deed_here"] (spShown K C 0) := by
      refine FS.ok scSh (fun vs H Q E h => ?_) (fun cdv A outer s H vs Q E hr h => ?_)
      · obtain ⟨v, d, rfl, _⟩ := h
        rfl
      · obtain ⟨v, d, _, _, h, _⟩ := h
        exact absurd h (Nat.not_lt_zero _)
    exact ⟨g, ok_ltext F B SE _ _ (by omega) (by omega) g mgs FS.kp bs⟩
  | succ n ih =>
    intro hn
    have g := ok_shown FS B T Fc SS ti Ci (2 * n + 22) n (by omega) (ih (by omega)).2 mgt F.kp bt
    exact ⟨g, ok_ltext F B SE _ _ (by omega) hn g mgs FS.kp bs⟩
end
end Js
set_option Elab.async false
set_option linter.all false
set_option maxRecDepth 100000
set_option maxHeartbeats 2000000
namespace Js
open PySem L2
def cntB (z : Str) : Nat := z.cps.toList.count 32
theorem cnt_le (z : Str) : cntB z ≤ z.length := by
  have e : z.cps.toList.length = z.length := Array.length_toList
  rw [← e]
  exact List.count_le_length
theorem joinL_cnt : ∀ ys : List (List Nat), ys.length ≤ (TL.joinL [32] ys).count 32 + 1
  | [] => by simp
  | [p] => by simp
  | p :: q :: r => by
    have ih := joinL_cnt (q :: r)
    rw [TL.joinL, List.count_append, List.count_append, show List.count 32 [32] = 1 from rfl]
    simp only [List.length_cons] at ih ⊢
    omega
theorem joinL_mem : ∀ (ys : List (List Nat)) (p : List Nat), p ∈ ys → p.length ≤ (TL.joinL [32] ys).length
  | [], p, h => by simp at h
  | [q], p, h => by
    rw [List.mem_singleton.mp h]
    exact Nat.le_refl _
  | q :: a :: r, p, h => by
    rw [TL.joinL, List.length_append, List.length_append]
    rcases List.mem_cons.mp h with rfl | h
    · omega
    · have := joinL_mem (a :: r) p h
      omega
theorem joinL_len : ∀ ys : List (List Nat), (TL.joinL [32] ys).length ≤ (ys.map (·.length)).sum + ys.length
  | [] => Nat.le_refl _
  | [p] => by
    show p.length ≤ p.length + 0 + 1
    omega
  | p :: q :: r => by
    have ih := joinL_len (q :: r)
    rw [TL.joinL, List.length_append, List.length_append, List.map_cons, List.sum_cons, List.length_cons (a := p)]
    show p.length + (1 + _) ≤ p.length + _ + (_ + 1)
    omega
theorem tl_bl : TL.tl (" " : Str) = [32] := by decide +kernel
theorem split_tl (z : Str) : TL.joinL [32] ((PySem.Txt.split z (" " : Str)).map TL.tl) = z.cps.toList := by
  have h := TL.tl_join (" " : Str) (PySem.Txt.split z (" " : Str))
  rw [tl_bl] at h
  rw [← h, PySem.StrLaws.join_split]
theorem ws_ok {z : Str} (h1 : z.length ≤ 100000) (h2 : cntB z ≤ 10999) : WsOk (Js.wordsOf z) := by
  unfold Js.wordsOf
  by_cases h0 : z.length = 0
  · rw [if_pos h0]
    exact ⟨Nat.zero_le _, fun x hx => by simp at hx⟩
  · rw [if_neg h0]
    have e := split_tl z
    have hz : z.cps.toList.length = z.length := Array.length_toList
    constructor
    · have := joinL_cnt ((PySem.Txt.split z (" " : Str)).map TL.tl)
      rw [e, List.length_map] at this
      unfold cntB at h2
      omega
    · intro x hx
      have := joinL_mem _ _ (List.mem_map_of_mem (f := TL.tl) hx)
      rw [e] at this
      have hx2 : (TL.tl x).length = x.length := Array.length_toList
      omega
theorem join_len (ws : List Str) : (PySem.Txt.join (" " : Str) ws).length ≤ lenW ws := by
  have e : (PySem.Txt.join (" " : Str) ws).cps.toList.length = (PySem.Txt.join (" " : Str) ws).length := Array.length_toList
  have h : TL.tl (PySem.Txt.join (" " : Str) ws) = TL.joinL [32] (ws.map TL.tl) := by
    have h := TL.tl_join (" " : Str) ws
    rw [tl_bl] at h
    rw [← h, ← TL.join_eq]
  have h2 := joinL_len (ws.map TL.tl)
  rw [← h] at h2
  have h3 : (ws.map TL.tl).map (·.length) = ws.map (·.length) := by
    rw [List.map_map]
    refine List.map_congr_left fun x _ => ?_
    show (TL.tl x).length = x.length
    exact Array.length_toList
  rw [h3, List.length_map] at h2
  rw [← e]
  exact h2
theorem text_of {z : Str} {r : List Dd} (h : Js.wordsOf z = wordsR r) : z = textR r := by
  unfold Js.wordsOf at h
  by_cases h0 : z.length = 0
  · rw [if_pos h0] at h
    have hr : r = [] := Classical.byContradiction fun hn => wordsR_ne r hn h.symm
    subst hr
    rw [textR_nil]
    obtain ⟨c⟩ := z
    have e : c.size = 0 := h0
    rw [Array.size_eq_zero_iff.mp e]
    rfl
  · rw [if_neg h0] at h
    by_cases hr : r = []
    · subst hr
      have e := split_tl z
      rw [h] at e
      have hz : z.cps.toList.length = z.length := Array.length_toList
      rw [← e] at hz
      exact (h0 (by rw [← hz]; rfl)).elim
    · have e1 := split_tl z
      have e2 := split_tl (textR r)
      rw [split_textR r hr, ← h, e1] at e2
      exact PyProof.Rows.ext_toList e2
theorem sum_text {z : Str} {r : List Dd} (h : Js.wordsOf z = wordsR r) : sumR r ≤ z.length + 1 := by
  have e := text_of h
  rw [e, textR_tx, tx_len, List.length_dropLast, sumR_eq]
  omega
end Js
set_option Elab.async false
set_option linter.all false
set_option maxRecDepth 100000
set_option maxHeartbeats 2000000
namespace Js
open PySem L2
abbrev sGood : Stmt := top 63
structure GdC (K : PySem.W.Frag) (mg : Str → Option Value) (N : Addr) : Prop where
  nt : NtC K mg N
  xf : XfC K N
  xc : XcC K N
  ex : PySem.W.exmOne K (.ref N) (.ref N) = some true
  mb : mg "bool" = none
  ve : PySem.W.kitOne K (.ref N) (.type "ValueError") = some true
  ib : PySem.W.kitOne K (.type "int") (.type "bool") = some false
  oth : ∃ n1 n2 n3 n4 n5 n6 : Addr, mg "NoName" = some (.ref n1) ∧ mg "NoProgram" = some (.ref n2) ∧ mg "NoRoom" = some (.ref n3) ∧ mg "NoSaying" = some (.ref n4) ∧ mg "NoStep" = some (.ref n5) ∧ mg "TooGreat" = some (.ref n6) ∧
    PySem.W.kitAny K (.ref N) [.ref n1, .ref n2, .ref n3, .ref n4, .ref n5, .ref n6] = some false
def spGd10 : Sp := fun vs H Q _ => ∃ z : Str, vs = [.str z] ∧ z.length ≤ 100000 ∧ cntB z ≤ 10999 ∧ ∀ H', Same H H' → Q (.bl true) H'
section
variable {P : Program} {w : World} {K : PySem.W.Frag} {mg : Str → Option Value} {base : Heap} {C CP N fR : Addr} {fdR : FuncData}
theorem scG : FnScope ["_law_text_here", "_law_due", "_law_found", "e", "_law_other"] ["_law_text_here"] (defScope sGood) := ⟨rfl, rfl, rfl, by decide +kernel, rfl, by decide +kernel, by decide +kernel⟩
theorem ok_good {f : Addr} {fd : FuncData} (F : Fun K "_law_good" "_law_good" sGood f fd) (B : Blt mg) (T : Txt K mg C) (SPS : Spc P w K mg base CP "__str__" 24 ["self"] (spPStr K C CP)) (DB : Def P w K mg base "_law_breaks" 3 ["_law_text_here"] spBr10)
    (GR : FnOk P w K mg base (L2.CX P w) 33 fR fdR ["text"] (spRdPH K C CP N)) (mR : mg "read_program" = some (.ref fR)) (kR : PySem.W.keepIn K (.ref fR) = true) (bR : Binds K fdR ["text"] []) (G : GdC K mg N) : FnOk P w K mg base CX0 34 f fd ["_law_text_here"] spGd10 := by
  obtain ⟨n1, n2, n3, n4, n5, n6, m1, m2, m3, m4, m5, m6, kA⟩ := G.oth
  refine F.ok scG (fun vs H Q E h => ?_) (fun cdv A outer s H vs Q E hr h => ?_)
  · obtain ⟨z, rfl, _⟩ := h
    rfl
  · obtain ⟨z, rfl, hz, hc, k⟩ := h
    have hr3 : Room 3 _ := hr.mono (by decide)
    have hr26 : Room 26 _ := hr.mono (by decide)
    have hr33 : Room 33 _ := hr
    have hws := ws_ok hz hc
    refine ⟨_, pss_cons (ps_set (i := 1) scG.nd rfl (Or.inl rfl) (pe_def DB hr3 rfl (pa_cons (pv 0) pa_nil))) (pss_cons (ps_try_as (i := 3) (tb := fun W => tAsg (tCallS (spRdPH K C CP N) (WE W) (tCons (tVar 0) tNil)) (gName 2)) (Wout := fun _ _ _ _ => False) rfl rfl scG.nd rfl rfl ⟨rfl, by decide, Or.inl G.nt.mgN⟩ takes0 (fun W pn xe tk _ => (pss_one (ps_set (i := 2) scG.nd rfl (Or.inl rfl) (by exact (pe_callS GR hr33 rfl mR kR bR (fun σ => passAt tk σ) (by exact (pa_cons (pv 0) pa_nil))))))) (fun a oe cls d pn hz hf => (pss_cons (ps_set (i := 4) scG.nd rfl (Or.inl rfl) (pe_callB (call_isXt G.xc hz hf) (by rfl) T.isi PyProof.Rows.boot_isinstance (pa_cons (pv 3) (pa_cons (pe_tup (pa_cons (pe_glob (v := .ref n1) rfl m1 rfl) (pa_cons (pe_glob (v := .ref n2) rfl m2 rfl) (pa_cons (pe_glob (v := .ref n3) rfl m3 rfl) (pa_cons (pe_glob (v := .ref n4) rfl m4 rfl) (pa_cons (pe_glob (v := .ref n5) rfl m5 rfl) (pa_cons (pe_glob (v := .ref n6) rfl m6 rfl) pa_nil))))))) pa_nil)))) (pss_one (ps_ret (pe_and (pe_cmpR op_eq (pe_xf G.xf G.nt.pl hz hf (pv 3)) (pv 1) (nomark _)) (pe_and (pe_not (pe_callB (r := rIsi K) call_isi (by rfl) T.isi PyProof.Rows.boot_isinstance (pa_cons (pe_xf G.xf G.nt.pl hz hf (pv 3)) (pa_cons (pe_bltn (v := .ty "bool") rfl G.mb PyProof.Rows.boot_bool rfl) pa_nil)))) (pe_and (pe_callB (call_isX G.xc hz hf) (by rfl) T.isi PyProof.Rows.boot_isinstance (pa_cons (pv 3) (pa_cons (pe_bltn (v := .ty "ValueError") rfl G.nt.mVE PyProof.Rows.Boot.«ValueError» rfl) pa_nil))) (pe_one (pe_not (pv 4))))))))))) (pss_one (ps_ret (pe_and (pe_cmpR op_isN (pv 1) pe_non (nomark _)) (pe_one (pe_cmpR op_eq (pe_callTy (call_strP SPS hr26) (by rfl) B.str PyProof.Rows.boot_str (pa_cons (pv 2) pa_nil)) (pv 0) (nomark _))))))), ?_⟩
    have hsl := line4
    have hsl2 := sizeLine_eq
    refine ⟨_, rfl, z, rfl, by omega, hws, fun hp H1 s1 => ?_, fun m hp H1 s1 => ?_⟩
    · refine ⟨_, rfl, z, rfl, by omega, hws, fun r _ hw hok a H' s2 ha => ?_, fun m hm => by rw [hp] at hm; cases hm⟩
      have hsum := sum_text hw
      refine ⟨_, rfl, rfl, _, rfl, ?_⟩
      refine iteT ?_
      refine ⟨_, rfl, a, r, rfl, ha, by omega, fun H3 s3 => ?_⟩
      refine ⟨_, rfl, rfl, ?_⟩
      have e : decide (V.str (textR r) = V.str z) = true := decide_eq_true (by rw [text_of hw])
      show Q (.bl (decide (V.str (textR r) = V.str z))) H3
      rw [e]
      exact k H3 ((s1.trans s2).trans s3)
    · refine ⟨_, rfl, z, rfl, by omega, hws, fun r hn => (by rw [hp] at hn; cases hn), fun m2 hm2 d H' s2 hd => ?_⟩
      have em : m2 = m := Option.some.inj (hm2.symm.trans hp)
      subst em
      refine ⟨true, G.ex, fun _ a0 _ => ?_, fun q => Bool.noConfusion q⟩
      refine ⟨_, rfl, by show 6 ≤ sizeLine; omega, fun tp ntp => ?_⟩
      have st : Same H' (upd H' tp (.tup [.ref n1, .ref n2, .ref n3, .ref n4, .ref n5, .ref n6])) := Same.new ntp
      have hd' := st _ _ hd
      refine ⟨tp, _, _, false, d, _, rfl, upd_same, .cons (.own _) (.cons (.own _) (.cons (.own _) (.cons (.own _) (.cons (.own _) (.cons (.own _) .nil))))), rfl, rfl, hd', kA, ?_⟩
      refine ⟨_, rfl, rfl, rfl, d, _, .int (m2 : Nat), rfl, hd', rfl, _, rfl, ?_⟩
      refine ⟨rfl, _, rfl, ?_⟩
      have e : decide (V.int ((m2 : Nat) : Int) = V.int ((m2 : Nat) : Int)) = true := decide_eq_true rfl
      rw [e]
      refine iteT ?_
      refine ⟨_, rfl, rfl, rfl, d, _, .int (m2 : Nat), rfl, hd', rfl, _, _, _, _, false, rfl, .ty "bool", .base (.int _), G.ib, _, rfl, _, rfl, ?_⟩
      refine iteT ?_
      refine ⟨_, rfl, _, _, true, d, _, rfl, .ty "ValueError", rfl, rfl, hd', G.ve, _, rfl, ?_⟩
      refine iteT ?_
      refine ⟨_, rfl, _, rfl, ?_⟩
      exact k _ ((s1.trans s2).trans st)
end
end Js
set_option Elab.async false
set_option linter.all false
set_option maxRecDepth 100000
set_option maxHeartbeats 2000000
namespace Js
open PySem L2
open PySem.Spec PyProof.Rows
section
variable {X : Cx} {e : Expr} {te : TE} {k : Nat} {p1 p2 p3 pos : Pos}
def rCatS (K : PySem.W.Frag) : R2 := fun x y H Q => ∃ a b xs ys, x = .ref a ∧ y = .ref b ∧ SqT K H a xs ∧ SqT K H b ys ∧ xs.length + ys.length ≤ 100000 ∧ ∀ q H', Same H H' → SqT K H' q (xs ++ ys) → Q (.ref q) H'
theorem op_catS : OpR X (binaryOp .Add) (rCatS X.K) :=
  OpR.imp op_catA fun x y H Q h => by
    obtain ⟨a, b, xs, ys, rfl, rfl, h1, h2, hl, k⟩ := h
    have hsl := line4
    refine ⟨a, b, xs, ys, rfl, rfl, h1, h2, by omega, fun e0 => ?_, fun _ e1 => ?_, fun _ _ U nU => ?_⟩
    · subst e0
      exact k b H (Same.refl H) h2
    · subst e1
      exact k a H (Same.refl H) (by rw [List.append_nil]; exact h1)
    · exact k U _ (Same.new nU) (SqT.of upd_same)
end
end Js
set_option Elab.async false
set_option linter.all false
set_option maxRecDepth 100000
set_option maxHeartbeats 2000000
namespace Js
open PySem L2
open PySem PySem.Spec PyProof.Rows L2
abbrev sLaw : Stmt := top 64
def spLaw (K : PySem.W.Frag) : Sp := fun vs H Q _ => ∃ (a : Addr) (ns : List Int), vs = [.ref a] ∧ SqL K H a (ns.map V.int) ∧ ns.length ≤ 63 ∧ ∀ H', Q (.bl true) H'
def Bd (z : Str) (a b : Nat) : Prop := z.length ≤ a ∧ cntB z ≤ b
theorem Bd.of (z : Str) {a : Nat} (h : z.length ≤ a) : Bd z a a := ⟨h, Nat.le_trans (cnt_le z) h⟩
theorem Bd.mono {z : Str} {a b c d : Nat} (h : Bd z a b) (h1 : a ≤ c) (h2 : b ≤ d) : Bd z c d := ⟨Nat.le_trans h.1 h1, Nat.le_trans h.2 h2⟩
theorem cnt_app (x y : Str) : cntB (x ++ y) = cntB x + cntB y := by
  unfold cntB
  rw [show (x ++ y).cps.toList = x.cps.toList ++ y.cps.toList from Array.toList_append, List.count_append]
theorem cnt_repl (cs : List Nat) : ∀ n : Nat, (repl n cs).length = n * cs.length ∧ (repl n cs).count 32 = n * cs.count 32
  | 0 => by simp [repl]
  | n + 1 => by
    obtain ⟨h1, h2⟩ := cnt_repl cs n
    rw [repl_succ, List.length_append, List.count_append, h1, h2, Nat.succ_mul, Nat.succ_mul]
    omega
section
variable {X : Cx}
def rAddB : R2 := fun x y H Q => ∃ i j a b c d, x = .str i ∧ y = .str j ∧ Bd i a b ∧ Bd j c d ∧ a + c ≤ 1000000 ∧ ∀ z, Bd z (a + c) (b + d) → Q (.str z) H
theorem op_addB : OpR X (binaryOp .Add) rAddB :=
  OpR.imp op_add_str fun x y H Q h => by
    obtain ⟨i, j, a, b, c, d, rfl, rfl, h1, h2, h3, k⟩ := h
    have hs := sizeLine_eq
    have h11 := h1.1
    have h12 := h1.2
    have h21 := h2.1
    have h22 := h2.2
    exact ⟨i, j, rfl, rfl, by omega, k _ ⟨by rw [add_len]; omega, by rw [cnt_app]; omega⟩⟩
def rMulB : R2 := fun x y H Q => ∃ z a b, ∃ n : Nat, x = .str z ∧ y = .int (n : Nat) ∧ Bd z a b ∧ n * a ≤ 1000000 ∧ n ≤ 1000000 ∧ a ≤ 1000000 ∧ ∀ z', Bd z' (n * a) (n * b) → Q (.str z') H
theorem op_mulB : OpR X (binaryOp .Mult) rMulB :=
  OpR.imp op_mulS fun x y H Q h => by
    obtain ⟨z, a, b, n, rfl, rfl, h1, h2, h3, h4, k⟩ := h
    have e : z.cps.toList.length = z.length := Array.length_toList
    have h11 := h1.1
    have hm : z.length * n ≤ n * a := by
      rw [Nat.mul_comm]
      exact Nat.mul_le_mul_left n h11
    refine ⟨z.cps.toList, n, by rw [tx_of], rfl, by rw [e]; omega, h3, by rw [e]; omega, k _ ?_⟩
    obtain ⟨r1, r2⟩ := cnt_repl z.cps.toList n
    refine ⟨?_, ?_⟩
    · rw [tx_len, r1, e]
      exact Nat.mul_le_mul_left n h11
    · show (tx (repl n z.cps.toList)).cps.toList.count 32 ≤ _
      rw [tx_list, r2]
      exact Nat.mul_le_mul_left n h1.2
end
def GdV (v : V) : Prop := ∃ z : Str, v = .str z ∧ z.length ≤ 100000 ∧ cntB z ≤ 10999
theorem GdV.of {z : Str} {a b : Nat} (h : Bd z a b) (h1 : a ≤ 100000) (h2 : b ≤ 10999) : GdV (.str z) := ⟨z, rfl, Nat.le_trans h.1 h1, Nat.le_trans h.2 h2⟩
theorem same_kb {H0 H H' : Hp} {p : Addr} (s : Same H0 H) (k : KB p H H') (hp : H0 p = none) : Same H0 H' := fun b o h => k _ _ (ne_of_none h hp) (s _ _ h)
theorem len_many10 : ∀ r : List Dd, r.length ≤ manyR r
  | [] => Nat.zero_le _
  | d :: r => by
    have := len_many10 r
    have := many_pos d
    rw [List.length_cons, many_cons]
    omega
theorem cut_last10 (cs : List Nat) : cutS (tx cs) none (some (-1 : Int)) = tx cs.dropLast := by
  unfold cutS
  have e : HT.sIx (tx cs).length (tx cs).length (some (-1 : Int)) = cs.length - 1 := by
    rw [tx_len]
    show (if (-1 : Int) < 0 then ((-1 : Int) + ((cs.length : Nat) : Int)).toNat else min (-1 : Int).toNat cs.length) = _
    rw [if_pos (by decide)]
    omega
  have e0 : HT.sIx (tx cs).length 0 none = 0 := rfl
  rw [e0, e, tx_list, List.drop_zero, Nat.sub_zero, List.dropLast_eq_take]
  rfl
theorem smR_app10 : ∀ {a b : List Dd}, smR a → smR b → smR (a ++ b)
  | [], _, _, h => h
  | _ :: _, _, h, h2 => ⟨h.1, smR_app10 h.2 h2⟩
theorem Bd.gd {z : Str} {a b : Nat} (h : Bd z a b) (h1 : a ≤ 100000) (h2 : b ≤ 10999) : GdV (.str z) := GdV.of h h1 h2
theorem bag_ne {H : Hp} {p q : Addr} {ws : List Str} (hb : BagOk H p) (h : H q = some (.lst (strV ws))) : q ≠ p := fun z => by
  subst z
  obtain ⟨x0, x1, x2, x3, e, _⟩ := hb.ex
  rw [e] at h
  cases ws with
  | nil => cases h
  | cons w ws => cases h
theorem bag_upd10 {H : Hp} {p L : Addr} {o : HO} (hb : BagOk H p) (h : L ≠ p) : BagOk (upd H L o) p := by
  obtain ⟨x0, x1, x2, x3, e, r⟩ := hb.ex
  exact ⟨⟨x0, x1, x2, x3, (upd_ne h.symm).trans e, r⟩⟩
def odds10 : List Str := [" ", ";", "[ ]", "a", "a =", "a = first", "while a", "while a [", "if a [ ] [", "a = . ", "if a [ ]", "a = b"]
theorem odds_at {n : Nat} (h : n < 12) : ∃ z : Str, (strV odds10)[n]? = some (.str z) ∧ z.length ≤ 100000 ∧ cntB z ≤ 10999 := by
  have hb : ∀ z ∈ odds10, z.length ≤ 20 := by decide +kernel
  have hl : n < odds10.length := h
  refine ⟨odds10[n], ?_, ?_, ?_⟩
  · unfold strV
    rw [List.getElem?_map, List.getElem?_eq_getElem hl]
    rfl
  · have := hb _ (List.getElem_mem hl)
    omega
  · have := hb _ (List.getElem_mem hl)
    have := cnt_le odds10[n]
    omega
theorem joinL_bd (S : List Nat) : ∀ ys : List (List Nat), (TL.joinL S ys).length ≤ (ys.map (·.length)).sum + ys.length * S.length ∧ (TL.joinL S ys).count 32 ≤ (ys.map (·.count 32)).sum + ys.length * S.count 32
  | [] => by simp [TL.joinL]
  | [p] => by simp [TL.joinL]
  | p :: q :: r => by
    obtain ⟨h1, h2⟩ := joinL_bd S (q :: r)
    rw [TL.joinL, List.length_append, List.length_append, List.count_append, List.count_append, List.map_cons, List.sum_cons, List.length_cons (a := p), Nat.succ_mul, Nat.succ_mul]
    rw [show ((p :: q :: r).map fun x => List.count 32 x).sum = List.count 32 p + ((q :: r).map fun x => List.count 32 x).sum from by rw [List.map_cons, List.sum_cons]]
    omega
theorem join_rep {s z : Str} {a b c d : Nat} (h1 : Bd s a b) (h2 : Bd z c d) (n : Nat) : Bd (PySem.Txt.join s (List.replicate n z)) (n * c + n * a) (n * d + n * b) := by
  have h := TL.tl_join s (List.replicate n z)
  have e : TL.tl (PySem.Txt.join s (List.replicate n z)) = TL.joinL (TL.tl s) (List.replicate n (TL.tl z)) := by
    rw [TL.join_eq, h, List.map_replicate]
  obtain ⟨g1, g2⟩ := joinL_bd (TL.tl s) (List.replicate n (TL.tl z))
  rw [← e, List.map_replicate, List.sum_replicate_nat, List.length_replicate] at g1
  rw [← e, List.map_replicate, List.sum_replicate_nat, List.length_replicate] at g2
  have hs : (TL.tl s).length = s.length := Array.length_toList
  have hz : (TL.tl z).length = z.length := Array.length_toList
  have hj : (TL.tl (PySem.Txt.join s (List.replicate n z))).length = (PySem.Txt.join s (List.replicate n z)).length := Array.length_toList
  rw [hs, hz, hj] at g1
  have m1 := Nat.mul_le_mul_left n h1.1
  have m2 := Nat.mul_le_mul_left n h1.2
  have m3 := Nat.mul_le_mul_left n h2.1
  have m4 := Nat.mul_le_mul_left n h2.2
  refine ⟨by omega, ?_⟩
  show (TL.tl (PySem.Txt.join s (List.replicate n z))).count 32 ≤ _
  have m2' : n * (TL.tl s).count 32 ≤ n * b := m2
  have m4' : n * (TL.tl z).count 32 ≤ n * d := m4
  omega
theorem flat_rep10 {α : Type} (v : α) : ∀ n : Nat, (List.replicate n [v]).flatten = List.replicate n v
  | 0 => rfl
  | n + 1 => by rw [List.replicate_succ, List.flatten_cons, flat_rep10 v n]; rfl
section
variable {P : Program} {w : World} {K : PySem.W.Frag} {mg : Str → Option Value} {base : Heap} {C : Addr}
theorem scL : FnScope ["_law_script", "_law_k", "_law_bag_here", "_law_turn", "_law_text_here", "_law_once", "_law_deep", "_law_some", "_law_odd", "_law_many", "_law_broad", "_law_line", "_law_one"] ["_law_script"] (defScope sLaw) := ⟨rfl, rfl, rfl, by decide +kernel, rfl, by decide +kernel, by decide +kernel⟩
theorem ok_law {f : Addr} {fd : FuncData} (F : Fun K "law" "law" sLaw f fd) (B : Blt mg) (DB : Def P w K mg base "_law_bag" 1 ["_law_script", "_law_at"] (spBag K)) (DTk : Def P w K mg base "_law_take" 1 ["_law_bag_here", "_law_many"] spTake) (DTo : Def P w K mg base "_law_top" 15 ["_law_bag_here", "_law_many"] (spTop K C)) (DTx : Def P w K mg base "_law_text" 40 ["_law_deeds_here"] (spLText K C 9)) (DSp : Def P w K mg base "_law_spoilt" 2 ["_law_bag_here", "_law_words"] spSp10) (DGd : Def P w K mg base "_law_good" 34 ["_law_text_here"] spGd10) : FnOk P w K mg base CX0 41 f fd ["_law_script"] (spLaw K) := by
  refine F.ok scL (fun vs H Q E h => ?_) (fun cdv A outer s H vs Q E hr h => ?_)
  · obtain ⟨a, ns, rfl, _⟩ := h
    rfl
  · obtain ⟨a, ns, rfl, hS, hlen, k⟩ := h
    have hr1 : Room 1 _ := hr.mono (by decide)
    have hr2 : Room 2 _ := hr.mono (by decide)
    have hr3 : Room 3 _ := hr.mono (by decide)
    have hr4 : Room 4 _ := hr.mono (by decide)
    have hr15 : Room 15 _ := hr.mono (by decide)
    have hr34 : Room 34 _ := hr.mono (by decide)
    have hr40 : Room 40 _ := hr
    refine ⟨_, pss_cons (ps_for PassesOwn.never rfl (pi_range1 rfl B.range (pa_cons (pe_callB (call_max2 rfl) (by rfl) B.max (by decide +kernel) (pa_cons pe_int (pa_cons (pe_callB (call_min2 rfl) (by rfl) B.min (by decide +kernel) (pa_cons pe_int (pa_cons (pe_callB call_len_seq (by rfl) B.len PySem.boot_len (pa_cons (pv 0) pa_nil)) pa_nil))) pa_nil))) pa_nil)) (pg_name (i := 1) scL.nd rfl (Or.inl rfl)) (pss_cons (ps_set (i := 2) scL.nd rfl (Or.inl rfl) (pe_def DB hr1 rfl (pa_cons (pv 0) (pa_cons (pv 1) pa_nil)))) (pss_cons (ps_for PassesOwn.never rfl (pi_range1 rfl B.range (pa_cons pe_int pa_nil)) (pg_name (i := 3) scL.nd rfl (Or.inl rfl)) (pss_cons (ps_set (i := 4) scL.nd rfl (Or.inl rfl) (pe_slice sl_str (pe_def DTx hr40 rfl (pa_cons (pe_op (r := rCatS K) op_catS (pe_def DTo hr15 rfl (pa_cons (pv 2) (pa_cons (pe_def DTk hr1 rfl (pa_cons (pv 2) (pa_cons pe_int pa_nil))) pa_nil))) (pe_tup (pa_cons (pe_tup (pa_cons pe_str (pa_cons pe_int (pa_cons pe_int (pa_cons pe_int pa_nil))))) pa_nil))) pa_nil)) po_none (po_some (pe_un un_neg pe_int)))) (pss_cons (ps_set (i := 5) scL.nd rfl (Or.inl rfl) (pe_def DSp hr2 rfl (pa_cons (pv 2) (pa_cons (pe_split (pv 4) pe_str) pa_nil)))) (pss_cons (ps_set (i := 6) scL.nd rfl (Or.inl rfl) (pe_op op_addB (pe_op op_mulB pe_str (pe_op op_add pe_int (pe_def DTk hr1 rfl (pa_cons (pv 2) (pa_cons pe_int pa_nil))))) (pv 4))) (pss_cons (ps_set (i := 7) scL.nd rfl (Or.inl rfl) (pe_lst (pa_cons (pv 4) (pa_cons (pe_join pe_str (pv 5)) (pa_cons (pv 6) (pa_cons (pe_op op_addB (pv 6) (pe_op op_mulB pe_str pe_int)) (pa_cons (pe_op op_addB (pv 4) pe_str) (pa_cons (pe_op op_addB (pe_op op_addB (pv 4) pe_str) (pv 4)) (pa_cons (pe_op op_addB pe_str (pv 4)) pa_nil))))))))) (pss_cons (ps_if (pt_cmpR (op_neTl (rcT_list_ne (D := TFlat) (fun _ _ _ _ _ _ d => d) eqT_flat) hr1) (pv 5) (pe_lst pa_nil) (nomark _)) (pss_one (ps_expr (pe_bm PySem.F.plainAttrs_list PySem.F.slot_list_append PySem.F.type_list_append mt_append (pv 7) (pa_cons (pe_join pe_str (pe_def DSp hr2 rfl (pa_cons (pv 2) (pa_cons (pv 5) pa_nil)))) pa_nil)))) pss_nil) (pss_one (ps_if (pt_not (pt_val (pe_callB (cr_all rfl) (by rfl) B.all (by decide +kernel) (pa_cons (pe_lc (own := [("_law_one", 12)]) (g := gName 12) (tt := tYes) rfl scL.nd (pi_list (pv 7)) (blkOk_by (N := ["_law_script", "_law_k", "_law_bag_here", "_law_turn", "_law_text_here", "_law_once", "_law_deep", "_law_some", "_law_odd", "_law_many", "_law_broad", "_law_line", "_law_one"]) (sc := defScope sLaw) (by decide +kernel)) (fun _ _ _ _ _ => (pg_name (i := 12) scL.nd rfl (Or.inl rfl))) (fun _ _ _ _ _ => pts_nil) (fun _ _ _ _ _ => (pe_def DGd hr34 rfl (pa_cons (pv 12) pa_nil)))) pa_nil)))) (pss_one (ps_ret pe_bl)) pss_nil)))))))) (pss_cons (ps_set (i := 8) scL.nd rfl (Or.inl rfl) (pe_lst (pa_cons pe_str (pa_cons pe_str (pa_cons pe_str (pa_cons pe_str (pa_cons pe_str (pa_cons pe_str (pa_cons pe_str (pa_cons pe_str (pa_cons pe_str (pa_cons pe_str (pa_cons pe_str pa_nil))))))))))))) (pss_cons (ps_expr (pe_bm PySem.F.plainAttrs_list PySem.F.slot_list_append PySem.F.type_list_append mt_append (pv 8) (pa_cons pe_str pa_nil))) (pss_one (ps_if (pt_not (pt_val (pe_def DGd hr34 rfl (pa_cons (pe_ix (r := rIxL K) ix_list (pv 8) (pe_def DTk hr1 rfl (pa_cons (pv 2) (pa_cons pe_int pa_nil))) (fun _ _ => rfl)) pa_nil)))) (pss_one (ps_ret pe_bl)) pss_nil))))))) (pss_cons (ps_for PassesOwn.never rfl (pi_tup (pe_tup (pa_cons pe_int (pa_cons pe_int pa_nil)))) (pg_name (i := 9) scL.nd rfl (Or.inl rfl)) (pss_one (ps_if (pt_not (pt_val (pe_def DGd hr34 rfl (pa_cons (pe_op op_addB (pe_op op_addB (pe_op op_addB pe_str (pe_op op_mulB pe_str (pv 9))) pe_str) (pe_op op_mulB pe_str (pv 9))) pa_nil)))) (pss_one (ps_ret pe_bl)) pss_nil))) (pss_cons (ps_set (i := 10) scL.nd rfl (Or.inl rfl) (pe_op op_addB (pe_op op_addB (pe_op op_mulB pe_str pe_int) pe_str) (pe_op op_mulB pe_str pe_int))) (pss_cons (ps_for PassesOwn.never rfl (pi_list (pe_lst (pa_cons (pe_op op_addB pe_str (pv 10)) (pa_cons (pe_op op_addB (pe_op op_addB pe_str (pv 10)) pe_str) (pa_cons (pe_join pe_str (pe_op op_rep (pe_lst (pa_cons pe_str pa_nil)) pe_int)) pa_nil))))) (pg_name (i := 11) scL.nd rfl (Or.inl rfl)) (pss_one (ps_if (PW.pt (pw_or (pt_not (pt_val (pe_def DGd hr34 rfl (pa_cons (pv 11) pa_nil)))) (pw_or1 (pt_not (pt_val (pe_def DGd hr34 rfl (pa_cons (pe_op op_addB (pv 11) pe_str) pa_nil))))))) (pss_one (ps_ret pe_bl)) pss_nil))) (pss_cons (ps_if (pt_not (pt_val (pe_def DGd hr34 rfl (pa_cons (pe_op op_addB (pe_join pe_str (pe_op op_rep (pe_lst (pa_cons pe_str pa_nil)) pe_int)) pe_str) pa_nil)))) (pss_one (ps_ret pe_bl)) pss_nil) (pss_one (ps_ret (pe_and (pe_def DGd hr34 rfl (pa_cons (pe_op op_addB (pe_op op_addB (pe_op op_mulB pe_str pe_int) pe_str) (pe_op op_mulB pe_str pe_int)) pa_nil)) (pe_one (pe_def DGd hr34 rfl (pa_cons (pe_op op_addB (pe_op op_addB (pe_op op_mulB pe_str pe_int) pe_str) (pe_op op_mulB pe_str pe_int)) pa_nil)))))))))), ?_⟩
    have hsl := sizeLine_eq
    dsimp only [gName]
    refine seq10 (a := tFor _ _ _) (fun σ' H' => ∃ x1 x2 x3 x4 x5 x6 x7 x8 : Option V, σ' = [some (.ref a), x1, x2, x3, x4, x5, x6, x7, x8, none, none, none, none] ∧ Same H H') (fun D' hD hrt => ?_) ?_
    · refine ⟨_, rfl, a, _, rfl, .inl hS, _, _, rfl, _, _, rfl, ?_⟩
      rw [List.length_map]
      have hj : 0 ≤ (if (if ((ns.length : Nat) : Int) < 4 then ((ns.length : Nat) : Int) else 4) > 2 then (if ((ns.length : Nat) : Int) < 4 then ((ns.length : Nat) : Int) else 4) else 2) ∧ (if (if ((ns.length : Nat) : Int) < 4 then ((ns.length : Nat) : Int) else 4) > 2 then (if ((ns.length : Nat) : Int) < 4 then ((ns.length : Nat) : Int) else 4) else 2) ≤ 4 := by
        constructor
        · split <;> omega
        · split <;> split <;> omega
      revert hj
      generalize (if (if ((ns.length : Nat) : Int) < 4 then ((ns.length : Nat) : Int) else 4) > 2 then (if ((ns.length : Nat) : Int) < 4 then ((ns.length : Nat) : Int) else 4) else 2) = j
      intro hj
      refine ⟨j, rfl, by omega, by omega, for_range (n := j.toNat) (fun i σ H' => ∃ x1 x2 x3 x4 x5 x6 x7 x8 : Option V, σ = [some (.ref a), x1, x2, x3, x4, x5, x6, x7, x8, none, none, none, none] ∧ Same H H') ⟨_, _, _, _, _, _, _, _, rfl, Same.refl H⟩ ?_ (fun σ H' z => hD _ _ z)⟩
      rintro i σ H0 hi ⟨x1, x2, x3, x4, x5, x6, x7, x8, rfl, s0⟩
      refine ⟨_, rfl, _, rfl, a, ns, i, by rw [Int.zero_add]; rfl, s0.seq hS, by omega, fun p H1 sb np hbag => ?_⟩
      have hp0 : H p = none := s0.free np
      refine ⟨4, rfl, by decide, by decide, for_range (n := 4) (fun m σ H' => ∃ x3 x4 x5 x6 x7 x8 : Option V, σ = [some (.ref a), some (.int (0 + ((i : Nat) : Int))), some (.ref p), x3, x4, x5, x6, x7, x8, none, none, none, none] ∧ KB p H1 H' ∧ BagOk H' p) ⟨_, _, _, _, _, _, rfl, KB.refl p H1, hbag⟩ ?_ ?_⟩
      · rintro m σ H2 hm ⟨x3, x4, x5, x6, x7, x8, rfl, k2, b2⟩
        dsimp only [gName]
        refine seq10 (a := tAsg _ _) (fun σ' H' => ∃ (r : List Dd), σ' = [some (.ref a), some (.int (0 + ((i : Nat) : Int))), some (.ref p), some (.int (0 + ((m : Nat) : Int))), some (.str (textR r)), x5, x6, x7, x8, none, none, none, none] ∧ r ≠ [] ∧ smR r ∧ manyR r ≤ 41 ∧ KB p H2 H' ∧ BagOk H' p) (fun D2 hD2 _ => ?_) ?_
        · refine ⟨_, rfl, _, rfl, p, 21, rfl, b2, by decide, by decide, fun d H3 k3 b3 d0 d1 => ?_⟩
          obtain ⟨n, rfl⟩ := Int.eq_ofNat_of_zero_le d0
          refine ⟨p, n, rfl, b3, by omega, fun q r H4 k4 b4 hq hd hm hs => ?_⟩
          refine ⟨by show 4 ≤ sizeLine; omega, fun T1 nT1 => ?_⟩
          have s5 := Same.new nT1 (o := .tup [V.str "pair", .int 0, .int 1, .int 2])
          have e5 : (upd H4 T1 (.tup [V.str "pair", .int 0, .int 1, .int 2])) T1 = some (.tup [V.str "pair", .int 0, .int 1, .int 2]) := upd_same
          revert s5 e5
          generalize upd H4 T1 (.tup [V.str "pair", .int 0, .int 1, .int 2]) = H5
          intro s5 e5
          refine ⟨by show 1 ≤ sizeLine; omega, fun T2 nT2 => ?_⟩
          have s6 := Same.new nT2 (o := .tup [V.ref T1])
          have e6 : (upd H5 T2 (.tup [V.ref T1])) T2 = some (.tup [V.ref T1]) := upd_same
          revert s6 e6
          generalize upd H5 T2 (.tup [V.ref T1]) = H6
          intro s6 e6
          obtain ⟨vs, hv, hds⟩ := id (hq.same (s5.trans s6))
          have hvl := DsAt.length r vs hds
          have hlm : r.length ≤ manyR r := len_many10 r
          refine ⟨q, T2, vs, _, rfl, rfl, hv, SqT.of e6, by show vs.length + 1 ≤ 100000; omega, fun q2 H7 s7 hq2 => ?_⟩
          have hone : DsAt K C H7 [V.ref T1] [Dd.two false 0 1 2] := ⟨_, _, rfl, ⟨T1, rfl, SqT.of (s7 _ _ (s6 _ _ e5)), by decide, by decide, by decide⟩, rfl⟩
          have hq7 : RAt K C H7 q2 (r ++ [Dd.two false 0 1 2]) := ⟨_, hq2, DsAt_app r _ vs _ (DsAt_kt (KT.of s7) r vs hds) hone⟩
          have hsm : smR (r ++ [Dd.two false 0 1 2]) := smR_app10 hs ⟨trivial, trivial⟩
          have hmy : manyR (r ++ [Dd.two false 0 1 2]) ≤ 41 := by
            rw [manyR_app, manyR_one, many_two]
            omega
          have hsum := sumR_sm hsm
          have htc := sumR_eq (r ++ [Dd.two false 0 1 2])
          refine ⟨q2, _, rfl, hq7, ?_, by omega, fun H8 s8 => ?_⟩
          · rw [deepR_app]
            exact Nat.lt_of_le_of_lt (Nat.max_le.mpr ⟨hd, by decide⟩) (by decide : 4 < 9)
          refine ⟨_, rfl, _, rfl, _, rfl, by rw [tx_len]; omega, ?_⟩
          rw [cut_last10, ← textR_tx]
          exact hD2 _ _ ⟨_, rfl, by simp, hsm, hmy, (k3.trans k4).trans (KB.of (((s5.trans s6).trans s7).trans s8)), ((b4.same (s5.trans s6)).same s7).same s8⟩
        rintro σ3 H3 ⟨r, rfl, hne, hsm, hmy, k3, b3⟩
        have hsum := sumR_sm hsm
        have htc := sumR_eq r
        have htl : (textR r).length ≤ 1722 := by
          rw [textR_tx, tx_len, List.length_dropLast]
          omega
        have hsp : lenW (wordsR r) ≤ 1722 := by
          show sumR r ≤ 1722
          omega
        refine seq10 (a := tAsg _ _) (fun σ' H' => ∃ (L5 : Addr) (ws : List Str), σ' = [some (.ref a), some (.int (0 + ((i : Nat) : Int))), some (.ref p), some (.int (0 + ((m : Nat) : Int))), some (.str (textR r)), some (.ref L5), x6, x7, x8, none, none, none, none] ∧ H' L5 = some (.lst (strV ws)) ∧ lenW ws ≤ 3454 ∧ KB p H3 H' ∧ BagOk H' p) (fun D2 hD2 _ => ?_) ?_
        · refine ⟨_, rfl, _, rfl, ⟨_, rfl⟩, _, _, rfl, rfl, by decide +kernel, by omega, fun W nW => ?_⟩
          rw [split_textR r hne]
          have s4 := Same.new nW (o := .lst ((wordsR r).map V.str))
          have e4 : (upd H3 W (.lst ((wordsR r).map V.str))) W = some (.lst ((wordsR r).map V.str)) := upd_same
          revert s4 e4
          generalize upd H3 W (.lst ((wordsR r).map V.str)) = H4
          intro s4 e4
          have b4 := b3.same s4
          refine ⟨p, W, wordsR r, rfl, b4, e4, bag_ne b4 (ws := wordsR r) e4, wordsR_ne r hne, by omega, fun q ws' H5 k5 b5 hq hl => ?_⟩
          exact hD2 _ _ ⟨q, ws', rfl, hq, by omega, (KB.of s4).trans k5, b5⟩
        rintro σ4 H4 ⟨L5, ws, rfl, hL5, hl5, k4, b4⟩
        have hLp5 : L5 ≠ p := bag_ne b4 hL5
        refine seq10 (a := tAsg _ _) (fun σ' H' => ∃ (z6 : Str), σ' = [some (.ref a), some (.int (0 + ((i : Nat) : Int))), some (.ref p), some (.int (0 + ((m : Nat) : Int))), some (.str (textR r)), some (.ref L5), some (.str z6), x7, x8, none, none, none, none] ∧ Bd z6 1900 1900 ∧ KB p H4 H' ∧ BagOk H' p) (fun D2 hD2 _ => ?_) ?_
        · refine ⟨_, rfl, p, 4, rfl, b4, by decide, by decide, fun d H5 k5 b5 d0 d1 => ?_⟩
          obtain ⟨n, rfl⟩ := Int.eq_ofNat_of_zero_le d0
          refine ⟨_, _, rfl, rfl, _, 10, 10, 6 + n, rfl, by rw [Int.natCast_add]; rfl, ⟨by decide +kernel, by decide +kernel⟩, by omega, by omega, by decide, fun z' hz' => ?_⟩
          refine ⟨_, rfl, _, _, _, _, _, _, rfl, rfl, hz', Bd.of _ htl, by omega, fun z hz => ?_⟩
          exact hD2 _ _ ⟨z, rfl, hz.mono (by omega) (by omega), k5, b5⟩
        rintro σ5 H5 ⟨z6, rfl, hz6, k5, b5⟩
        have hL55 := k5 _ _ hLp5 hL5
        refine seq10 (a := tAsg _ _) (fun σ' H' => ∃ (L7 : Addr) (vs : List V), σ' = [some (.ref a), some (.int (0 + ((i : Nat) : Int))), some (.ref p), some (.int (0 + ((m : Nat) : Int))), some (.str (textR r)), some (.ref L5), some (.str z6), some (.ref L7), x8, none, none, none, none] ∧ H' L7 = some (.lst vs) ∧ (∀ v ∈ vs, GdV v) ∧ vs.length ≤ 7 ∧ Same H5 H' ∧ H5 L7 = none) (fun D2 hD2 _ => ?_) ?_
        · have hb1 : ∀ {z : Str} {n : Nat}, z.length ≤ n → n ≤ 10999 → GdV (.str z) := fun h h1 => (Bd.of _ h).gd (by omega) h1
          refine ⟨_, rfl, ⟨_, rfl⟩, _, rfl, _, L5, ws, rfl, rfl, .inl (SqL.of hL55), ?_, ?_⟩
          · have := lenW_len ws
            have e1 : ((" " : Str)).length = 1 := by decide +kernel
            rw [e1]
            unfold lenW at hl5
            omega
          have hj := join_len ws
          refine ⟨_, rfl, _, rfl, _, 2, 2, 8, rfl, rfl, ⟨by decide +kernel, by decide +kernel⟩, by decide, by decide, by decide, fun z1 hz1 => ?_⟩
          refine ⟨_, _, _, _, _, _, rfl, rfl, hz6, hz1, by decide, fun z2 hz2 => ?_⟩
          refine ⟨_, rfl, _, _, _, _, 2, 2, rfl, rfl, Bd.of _ htl, ⟨by decide +kernel, by decide +kernel⟩, by decide, fun z3 hz3 => ?_⟩
          refine ⟨_, rfl, _, _, _, _, 3, 3, rfl, rfl, Bd.of _ htl, ⟨by decide +kernel, by decide +kernel⟩, by decide, fun z4 hz4 => ?_⟩
          refine ⟨_, rfl, _, _, _, _, _, _, rfl, rfl, hz4, Bd.of _ htl, by decide, fun z5 hz5 => ?_⟩
          refine ⟨_, rfl, _, _, 2, 2, _, _, rfl, rfl, ⟨by decide +kernel, by decide +kernel⟩, Bd.of _ htl, by decide, fun z7 hz7 => ?_⟩
          refine ⟨by show 7 ≤ sizeLine; omega, fun L nL => ?_⟩
          have s6 := Same.new nL (o := .lst [V.str (textR r), .str (PySem.Txt.join (" " : Str) ws), .str z6, .str z2, .str z3, .str z5, .str z7])
          have e6 : (upd H5 L (.lst [V.str (textR r), .str (PySem.Txt.join (" " : Str) ws), .str z6, .str z2, .str z3, .str z5, .str z7])) L = some (.lst [V.str (textR r), .str (PySem.Txt.join (" " : Str) ws), .str z6, .str z2, .str z3, .str z5, .str z7]) := upd_same
          revert s6 e6
          generalize upd H5 L (.lst [V.str (textR r), .str (PySem.Txt.join (" " : Str) ws), .str z6, .str z2, .str z3, .str z5, .str z7]) = H6
          intro s6 e6
          refine hD2 _ _ ⟨L, _, rfl, e6, fun v hv => ?_, Nat.le_refl 7, s6, nL⟩
          simp only [List.mem_cons, List.not_mem_nil, or_false] at hv
          rcases hv with rfl | rfl | rfl | rfl | rfl | rfl | rfl
          · exact hb1 htl (by decide)
          · exact hb1 (Nat.le_trans hj hl5) (by decide)
          · exact hz6.gd (by decide) (by decide)
          · exact hz2.gd (by decide) (by decide)
          · exact hz3.gd (by decide) (by decide)
          · exact hz5.gd (by decide) (by decide)
          · exact hz7.gd (by decide) (by decide)
        rintro σ6 H6 ⟨L7, vs, rfl, hL7, hvs, hvl, s6, nL7⟩
        have hL56 := s6 _ _ hL55
        have b6 := b5.same s6
        have hLp7 : L7 ≠ p := fun z => by
          obtain ⟨bx, hbx⟩ := b5.some
          rw [z, hbx] at nL7
          cases nL7
        have k26 : KB p H2 H6 := ((k3.trans k4).trans k5).trans (KB.of s6)
        have n27 : H2 L7 = none := by
          cases e : H2 L7 with
          | none => rfl
          | some o =>
            have := ((k3.trans k4).trans k5) _ _ hLp7 e
            rw [nL7] at this
            cases this
        refine seq10 (a := tIfS _ _ _) (fun σ' H' => ∃ (vs : List V), σ' = [some (.ref a), some (.int (0 + ((i : Nat) : Int))), some (.ref p), some (.int (0 + ((m : Nat) : Int))), some (.str (textR r)), some (.ref L5), some (.str z6), some (.ref L7), x8, none, none, none, none] ∧ H' L7 = some (.lst vs) ∧ (∀ v ∈ vs, GdV v) ∧ vs.length ≤ 8 ∧ KB p H2 H' ∧ BagOk H' p) (fun D2 hD2 _ => ?_) ?_
        · refine ⟨_, rfl, Nat.zero_le _, fun N nN => ?_⟩
          have s7 := Same.new nN (o := .lst [])
          have e7 : (upd H6 N (.lst [])) N = some (.lst []) := upd_same
          revert s7 e7
          generalize upd H6 N (.lst []) = H7
          intro s7 e7
          refine ⟨_, nil_tl (s7 _ _ hL56) e7, fun H8 s8 => ⟨_, rfl, ?_⟩⟩
          have s68 := s7.trans s8
          have b8 := b6.same s68
          have hL58 := s68 _ _ hL56
          have hL78 := s68 _ _ hL7
          by_cases hws : ws = []
          · rw [hws]
            exact iteF (hD2 _ _ ⟨vs, rfl, hL78, hvs, by omega, k26.trans (KB.of s68), b8⟩)
          rw [decide_eq_false (show ¬ strV ws = [] from fun z => hws (List.map_eq_nil_iff.mp z))]
          refine iteT ?_
          refine ⟨_, rfl, .inl ⟨rfl, _, SqL.of hL78⟩, ⟨_, rfl⟩, _, rfl, _, rfl, p, L5, ws, rfl, b8, hL58, hLp5, hws, by omega, fun q ws' H9 k9 b9 hq hl => ?_⟩
          have hL79 := k9 _ _ hLp7 hL78
          have hj := join_len ws'
          refine ⟨_, q, ws', rfl, rfl, .inl (SqL.of hq), ?_, L7, vs, _, rfl, rfl, hL79, by omega, ?_⟩
          · have e1 : ((" " : Str)).length = 1 := by decide +kernel
            rw [e1]
            unfold lenW at hl hl5
            omega
          refine hD2 _ _ ⟨_, rfl, upd_same, fun v hv => ?_, by rw [List.length_append]; show vs.length + 1 ≤ 8; omega, ?_, ?_⟩
          · rcases List.mem_append.mp hv with hv | hv
            · exact hvs v hv
            · rw [List.mem_singleton.mp hv]
              exact (Bd.of _ hj).gd (by omega) (by omega)
          · exact fun b o hb h => (upd_ne (fun z => by rw [z, n27] at h; cases h)).trans (((k26.trans (KB.of s68)).trans k9) _ _ hb h)
          · exact bag_upd10 b9 hLp7
        rintro σ7 H7 ⟨vs, rfl, hL7, hvs, hvl, k7, b7⟩
        refine ⟨_, rfl, L7, rfl, ⟨_, SqL.of hL7⟩, fun D nD => lc_list (K := K) (a := L7) (xs := vs) (fun i H' => Same H7 H' ∧ H' D = some (.lst ((List.replicate i true).map V.bl))) ⟨Same.new nD, upd_same⟩ (fun i H' _ z => SqL.of (z.1 _ _ hL7)) (fun i v HJ hv z => ?_) (fun HJ z => ?_)⟩
        · obtain ⟨sJ, hDJ⟩ := z
          have hil := (List.getElem?_eq_some_iff.mp hv).1
          obtain ⟨zz, rfl, hz1, hz2⟩ := hvs v (List.mem_of_getElem? hv)
          refine ⟨rfl, lc_yes ⟨_, rfl, zz, rfl, hz1, hz2, fun HL sL => ?_⟩⟩
          refine ⟨_, sL _ _ hDJ, by rw [List.length_map, List.length_replicate]; omega, (sJ.trans sL).set nD, ?_⟩
          rw [upd_same, List.replicate_succ', List.map_append]
          rfl
        · obtain ⟨sJ, hDJ⟩ := z
          refine ⟨D, _, rfl, SqL.of hDJ, ?_⟩
          rw [show (List.replicate vs.length true).all id = true by rw [List.all_eq_true]; intro w hw; rw [(List.mem_replicate.mp hw).2]; rfl]
          exact ⟨_, rfl, iteF ⟨_, _, _, _, _, _, rfl, k2.trans (k7.trans (KB.of sJ)), b7.same sJ⟩⟩
      · rintro σ H2 ⟨x3, x4, x5, x6, x7, x8, rfl, k2, b2⟩
        have s02 : Same H H2 := same_kb (s0.trans sb) k2 hp0
        dsimp only [gName]
        refine seq10 (a := tAsg _ _) (fun σ' H' => ∃ (L8 : Addr), σ' = [some (.ref a), some (.int (0 + ((i : Nat) : Int))), some (.ref p), x3, x4, x5, x6, x7, some (.ref L8), none, none, none, none] ∧ H' L8 = some (.lst (strV (odds10.take 11))) ∧ Same H2 H' ∧ H2 L8 = none) (fun D2 hD2 _ => ?_) ?_
        · refine ⟨by show 11 ≤ sizeLine; omega, fun L nL => ?_⟩
          have s3 := Same.new nL (o := .lst [V.str " ", .str ";", .str "[ ]", .str "a", .str "a =", .str "a = first", .str "while a", .str "while a [", .str "if a [ ] [", .str "a = . ", .str "if a [ ]"])
          have e3 : (upd H2 L (.lst [V.str " ", .str ";", .str "[ ]", .str "a", .str "a =", .str "a = first", .str "while a", .str "while a [", .str "if a [ ] [", .str "a = . ", .str "if a [ ]"])) L = some (.lst [V.str " ", .str ";", .str "[ ]", .str "a", .str "a =", .str "a = first", .str "while a", .str "while a [", .str "if a [ ] [", .str "a = . ", .str "if a [ ]"]) := upd_same
          revert s3 e3
          generalize upd H2 L (.lst [V.str " ", .str ";", .str "[ ]", .str "a", .str "a =", .str "a = first", .str "while a", .str "while a [", .str "if a [ ] [", .str "a = . ", .str "if a [ ]"]) = H3
          intro s3 e3
          exact hD2 _ _ ⟨L, rfl, e3, s3, nL⟩
        rintro σ3 H3 ⟨L8, rfl, hL8, s3, nL8⟩
        have b3 := b2.same s3
        have hLp8 : L8 ≠ p := fun z => by
          obtain ⟨bx, hbx⟩ := b2.some
          rw [z, hbx] at nL8
          cases nL8
        have nH8 : H L8 = none := s02.free nL8
        refine ⟨_, rfl, .inl ⟨rfl, _, SqL.of hL8⟩, L8, _, _, rfl, rfl, hL8, by show 11 < sizeLine; omega, ?_⟩
        rw [show strV (odds10.take 11) ++ [V.str "a = b"] = strV odds10 from rfl]
        have b4 := bag_upd10 (o := .lst (strV odds10)) b3 hLp8
        have s4 : Same H (upd H3 L8 (.lst (strV odds10))) := fun x o hx => (upd_ne (fun z => by rw [z, nH8] at hx; cases hx)).trans ((s02.trans s3) _ _ hx)
        have e4 : (upd H3 L8 (.lst (strV odds10))) L8 = some (.lst (strV odds10)) := upd_same
        revert b4 s4 e4
        generalize upd H3 L8 (.lst (strV odds10)) = H4
        intro b4 s4 e4
        refine ⟨_, rfl, _, rfl, p, 12, rfl, b4, by decide, by decide, fun d H5 k5 b5 d0 d1 => ?_⟩
        obtain ⟨n, rfl⟩ := Int.eq_ofNat_of_zero_le d0
        obtain ⟨zz, hz, hz1, hz2⟩ := odds_at (n := n) (by omega)
        refine ⟨L8, _, _, _, rfl, rfl, SqL.of (k5 _ _ hLp8 e4), atI_nat hz, zz, rfl, hz1, hz2, fun H6 s6 => ⟨_, rfl, iteF ?_⟩⟩
        exact ⟨_, _, _, _, _, _, _, _, rfl, (same_kb s4 k5 hp0).trans s6⟩
    rintro σ1 H1 ⟨x1, x2, x3, x4, x5, x6, x7, x8, rfl, s1⟩
    have kd : ∀ {s : Str} {a b : Nat}, s.length = a ∧ cntB s = b → Bd s a b := fun h => ⟨Nat.le_of_eq h.1, Nat.le_of_eq h.2⟩
    refine seq10 (a := tFor _ _ _) (fun σ' H' => ∃ x9 : Option V, σ' = [some (.ref a), x1, x2, x3, x4, x5, x6, x7, x8, x9, none, none, none]) (fun D' hD hrt => ?_) ?_
    · refine ⟨by show 2 ≤ sizeLine; omega, fun T nT => ?_⟩
      have s2 := Same.new nT (o := .tup [V.int ((4000 : Nat) : Int), V.int ((4001 : Nat) : Int)])
      have e2 : (upd H1 T (.tup [V.int ((4000 : Nat) : Int), V.int ((4001 : Nat) : Int)])) T = some (.tup [V.int ((4000 : Nat) : Int), V.int ((4001 : Nat) : Int)]) := upd_same
      revert s2 e2
      generalize upd H1 T (.tup [V.int ((4000 : Nat) : Int), V.int ((4001 : Nat) : Int)]) = H2
      intro s2 e2
      refine ⟨T, rfl, ⟨_, SqT.of e2⟩, for_tup (a := T) (xs := [V.int ((4000 : Nat) : Int), V.int ((4001 : Nat) : Int)]) (fun i σ H' => Same H2 H' ∧ ∃ x9 : Option V, σ = [some (.ref a), x1, x2, x3, x4, x5, x6, x7, x8, x9, none, none, none]) ⟨Same.refl _, _, rfl⟩ (fun i σ H' _ z => SqT.of (z.1 _ _ e2)) (fun i v σ H3 hv z => ?_) (fun σ H3 z => hD _ _ z.2)⟩
      obtain ⟨s3, x9, rfl⟩ := z
      obtain ⟨n, rfl, hn⟩ : ∃ n : Nat, v = .int ((n : Nat) : Int) ∧ n ≤ 4001 := by
        have hm := List.mem_of_getElem? hv
        simp only [List.mem_cons, List.not_mem_nil, or_false] at hm
        rcases hm with rfl | rfl
        · exact ⟨4000, rfl, by decide⟩
        · exact ⟨4001, rfl, by decide⟩
      dsimp only [gName]
      refine ⟨_, rfl, _, 2, 0, n, rfl, rfl, ⟨by decide +kernel, by decide +kernel⟩, by omega, by omega, by decide, fun z1 h1 => ?_⟩
      refine ⟨_, _, 18, 8, _, _, rfl, rfl, ⟨by decide +kernel, by decide +kernel⟩, h1, by omega, fun z2 h2 => ?_⟩
      refine ⟨_, _, _, _, 1, 0, rfl, rfl, h2, ⟨by decide +kernel, by decide +kernel⟩, by omega, fun z3 h3 => ?_⟩
      refine ⟨_, rfl, _, 1, 0, n, rfl, rfl, ⟨by decide +kernel, by decide +kernel⟩, by omega, by omega, by decide, fun z4 h4 => ?_⟩
      refine ⟨_, _, _, _, _, _, rfl, rfl, h3, h4, by omega, fun z5 h5 => ?_⟩
      exact ⟨z5, rfl, Nat.le_trans h5.1 (by omega), Nat.le_trans h5.2 (by omega), fun H4 s4 => ⟨_, rfl, iteF ⟨s3.trans s4, _, rfl⟩⟩⟩
    rintro σ2 H2 ⟨x9, rfl⟩
    refine seq10 (a := tAsg _ _) (fun σ' H' => ∃ z, σ' = [some (.ref a), x1, x2, x3, x4, x5, x6, x7, x8, x9, some (.str z), none, none] ∧ Bd z 12001 0) (fun D' hD hrt => ?_) ?_
    · refine ⟨_, 5, 0, 2000, rfl, rfl, ⟨by decide +kernel, by decide +kernel⟩, by decide, by decide, by decide, fun z1 h1 => ?_⟩
      refine ⟨_, _, _, _, 1, 0, rfl, rfl, h1, ⟨by decide +kernel, by decide +kernel⟩, by decide, fun z2 h2 => ?_⟩
      refine ⟨_, 1, 0, 2000, rfl, rfl, ⟨by decide +kernel, by decide +kernel⟩, by decide, by decide, by decide, fun z3 h3 => ?_⟩
      refine ⟨_, _, _, _, _, _, rfl, rfl, h2, h3, by decide, fun z4 h4 => ?_⟩
      exact hD _ _ ⟨z4, rfl, h4.mono (by decide) (by decide)⟩
    rintro σ3 H3 ⟨z10, rfl, h10⟩
    refine seq10 (a := tFor _ _ _) (fun σ' H' => ∃ x11 : Option V, σ' = [some (.ref a), x1, x2, x3, x4, x5, x6, x7, x8, x9, some (.str z10), x11, none]) (fun D' hD hrt => ?_) ?_
    · refine ⟨_, rfl, _, _, 4, 3, _, _, rfl, rfl, ⟨by decide +kernel, by decide +kernel⟩, h10, by decide, fun z1 h1 => ?_⟩
      refine ⟨_, rfl, _, _, 14, 10, _, _, rfl, rfl, ⟨by decide +kernel, by decide +kernel⟩, h10, by decide, fun z2 h2 => ?_⟩
      refine ⟨_, _, _, _, 5, 2, rfl, rfl, h2, ⟨by decide +kernel, by decide +kernel⟩, by decide, fun z3 h3 => ?_⟩
      refine ⟨⟨_, rfl⟩, by show 1 ≤ sizeLine; omega, fun R nR => ?_⟩
      have s4 := Same.new nR (o := .lst [V.str "if a [ ] [ ]"])
      have e4 : (upd H3 R (.lst [V.str "if a [ ] [ ]"])) R = some (.lst [V.str "if a [ ] [ ]"]) := upd_same
      revert s4 e4
      generalize upd H3 R (.lst [V.str "if a [ ] [ ]"]) = H4
      intro s4 e4
      refine ⟨R, 300, _, rfl, rfl, e4, by decide, by decide, by show 1 * 300 ≤ sizeLine; omega, fun W nW => ?_⟩
      rw [show (List.replicate (300 : Int).toNat [V.str "if a [ ] [ ]"]).flatten = strV (List.replicate 300 ("if a [ ] [ ]" : Str)) from by rw [show (300 : Int).toNat = 300 from rfl, flat_rep10, strV, List.map_replicate]]
      have s5 := Same.new nW (o := .lst (strV (List.replicate 300 ("if a [ ] [ ]" : Str))))
      have e5 : (upd H4 W (.lst (strV (List.replicate 300 ("if a [ ] [ ]" : Str))))) W = some (.lst (strV (List.replicate 300 ("if a [ ] [ ]" : Str)))) := upd_same
      revert s5 e5
      generalize upd H4 W (.lst (strV (List.replicate 300 ("if a [ ] [ ]" : Str)))) = H5
      intro s5 e5
      refine ⟨_, W, List.replicate 300 ("if a [ ] [ ]" : Str), rfl, rfl, .inl (SqL.of e5), ?_, ?_⟩
      · rw [List.map_replicate, List.sum_replicate_nat, List.length_replicate, show (("if a [ ] [ ]" : Str)).length = 12 from by decide +kernel, show ((" ; " : Str)).length = 3 from by decide +kernel]
        decide
      have h5 : Bd (PySem.Txt.join (" ; " : Str) (List.replicate 300 ("if a [ ] [ ]" : Str))) (300 * 12 + 300 * 3) (300 * 5 + 300 * 2) := join_rep ⟨by decide +kernel, by decide +kernel⟩ ⟨by decide +kernel, by decide +kernel⟩ 300
      refine ⟨by show 3 ≤ sizeLine; omega, fun L nL => ?_⟩
      have s6 := Same.new nL (o := .lst [V.str z1, .str z3, .str (PySem.Txt.join (" ; " : Str) (List.replicate 300 ("if a [ ] [ ]" : Str)))])
      have e6 : (upd H5 L (.lst [V.str z1, .str z3, .str (PySem.Txt.join (" ; " : Str) (List.replicate 300 ("if a [ ] [ ]" : Str)))])) L = some (.lst [V.str z1, .str z3, .str (PySem.Txt.join (" ; " : Str) (List.replicate 300 ("if a [ ] [ ]" : Str)))]) := upd_same
      revert s6 e6
      generalize upd H5 L (.lst [V.str z1, .str z3, .str (PySem.Txt.join (" ; " : Str) (List.replicate 300 ("if a [ ] [ ]" : Str)))]) = H6
      intro s6 e6
      refine ⟨L, rfl, ⟨_, SqL.of e6⟩, for_list (a := L) (xs := [V.str z1, .str z3, .str (PySem.Txt.join (" ; " : Str) (List.replicate 300 ("if a [ ] [ ]" : Str)))]) (fun i σ H' => Same H6 H' ∧ ∃ x11 : Option V, σ = [some (.ref a), x1, x2, x3, x4, x5, x6, x7, x8, x9, some (.str z10), x11, none]) ⟨Same.refl _, _, rfl⟩ (fun i σ H' _ z => SqL.of (z.1 _ _ e6)) (fun i v σ H7 hv z => ?_) (fun σ H7 z => hD _ _ z.2)⟩
      obtain ⟨s7, x11, rfl⟩ := z
      obtain ⟨zz, rfl, hzz⟩ : ∃ zz : Str, v = .str zz ∧ Bd zz 20000 3000 := by
        have hm := List.mem_of_getElem? hv
        simp only [List.mem_cons, List.not_mem_nil, or_false] at hm
        rcases hm with rfl | rfl | rfl
        · exact ⟨_, rfl, h1.mono (by decide) (by decide)⟩
        · exact ⟨_, rfl, h3.mono (by decide) (by decide)⟩
        · exact ⟨_, rfl, h5.mono (by decide) (by decide)⟩
      dsimp only [gName]
      refine ⟨_, rfl, zz, rfl, Nat.le_trans hzz.1 (by decide), Nat.le_trans hzz.2 (by decide), fun H8 s8 => ⟨_, rfl, iteF ?_⟩⟩
      refine ⟨_, rfl, _, _, _, _, 8, 4, rfl, rfl, hzz, ⟨by decide +kernel, by decide +kernel⟩, by decide, fun z8 h8 => ?_⟩
      refine ⟨z8, rfl, Nat.le_trans h8.1 (by decide), Nat.le_trans h8.2 (by decide), fun H9 s9 => ⟨_, rfl, iteF ?_⟩⟩
      exact ⟨(s7.trans s8).trans s9, _, rfl⟩
    rintro σ4 H4 ⟨x11, rfl⟩
    refine seq10 (a := tIfS _ _ _) (fun σ' H' => True) (fun D' hD hrt => ?_) ?_
    · refine ⟨⟨_, rfl⟩, by show 1 ≤ sizeLine; omega, fun R nR => ?_⟩
      have s5 := Same.new nR (o := .lst [V.str "a = ."])
      have e5 : (upd H4 R (.lst [V.str "a = ."])) R = some (.lst [V.str "a = ."]) := upd_same
      revert s5 e5
      generalize upd H4 R (.lst [V.str "a = ."]) = H5
      intro s5 e5
      refine ⟨R, 2300, _, rfl, rfl, e5, by decide, by decide, by show 1 * 2300 ≤ sizeLine; omega, fun W nW => ?_⟩
      rw [show (List.replicate (2300 : Int).toNat [V.str "a = ."]).flatten = strV (List.replicate 2300 ("a = ." : Str)) from by rw [show (2300 : Int).toNat = 2300 from rfl, flat_rep10, strV, List.map_replicate]]
      have s6 := Same.new nW (o := .lst (strV (List.replicate 2300 ("a = ." : Str))))
      have e6 : (upd H5 W (.lst (strV (List.replicate 2300 ("a = ." : Str))))) W = some (.lst (strV (List.replicate 2300 ("a = ." : Str)))) := upd_same
      revert s6 e6
      generalize upd H5 W (.lst (strV (List.replicate 2300 ("a = ." : Str)))) = H6
      intro s6 e6
      refine ⟨_, W, List.replicate 2300 ("a = ." : Str), rfl, rfl, .inl (SqL.of e6), ?_, ?_⟩
      · rw [List.map_replicate, List.sum_replicate_nat, List.length_replicate, show (("a = ." : Str)).length = 5 from by decide +kernel, show ((" ; " : Str)).length = 3 from by decide +kernel]
        decide
      have h6 : Bd (PySem.Txt.join (" ; " : Str) (List.replicate 2300 ("a = ." : Str))) (2300 * 5 + 2300 * 3) (2300 * 2 + 2300 * 2) := join_rep ⟨by decide +kernel, by decide +kernel⟩ ⟨by decide +kernel, by decide +kernel⟩ 2300
      refine ⟨_, _, _, _, 4, 2, rfl, rfl, h6, ⟨by decide +kernel, by decide +kernel⟩, by decide, fun z7 h7 => ?_⟩
      exact ⟨z7, rfl, Nat.le_trans h7.1 (by decide), Nat.le_trans h7.2 (by decide), fun H8 s8 => ⟨_, rfl, iteF (hD _ _ trivial)⟩⟩
    rintro σ5 H5 _
    refine ⟨_, 10, 3, 8, rfl, rfl, ⟨by decide +kernel, by decide +kernel⟩, by decide, by decide, by decide, fun z1 h1 => ?_⟩
    refine ⟨_, _, _, _, 1, 0, rfl, rfl, h1, ⟨by decide +kernel, by decide +kernel⟩, by decide, fun z2 h2 => ?_⟩
    refine ⟨_, 2, 1, 7, rfl, rfl, ⟨by decide +kernel, by decide +kernel⟩, by decide, by decide, by decide, fun z3 h3 => ?_⟩
    refine ⟨_, _, _, _, _, _, rfl, rfl, h2, h3, by decide, fun z4 h4 => ?_⟩
    refine ⟨z4, rfl, Nat.le_trans h4.1 (by decide), Nat.le_trans h4.2 (by decide), fun H6 s6 => ⟨_, rfl, iteT ?_⟩⟩
    refine ⟨_, 11, 5, 9, rfl, rfl, ⟨by decide +kernel, by decide +kernel⟩, by decide, by decide, by decide, fun z1 h1 => ?_⟩
    refine ⟨_, _, _, _, 1, 0, rfl, rfl, h1, ⟨by decide +kernel, by decide +kernel⟩, by decide, fun z2 h2 => ?_⟩
    refine ⟨_, 2, 1, 8, rfl, rfl, ⟨by decide +kernel, by decide +kernel⟩, by decide, by decide, by decide, fun z3 h3 => ?_⟩
    refine ⟨_, _, _, _, _, _, rfl, rfl, h2, h3, by decide, fun z4 h4 => ?_⟩
    exact ⟨z4, rfl, Nat.le_trans h4.1 (by decide), Nat.le_trans h4.2 (by decide), fun H7 s7 => k H7⟩
end
end Js
set_option Elab.async false
set_option linter.all false
set_option maxRecDepth 100000
set_option maxHeartbeats 4000000
namespace Js
open PySem L2 PyProof.Rows
theorem all_mk {P : Program} {w : World} {K : PySem.W.Frag} {h : Heap} {mg : Str → Option Value} {fa C : Addr} (X : K.In h) (G : h.Ns mainGlobals mg) (hfa : mg "law" = some (.ref fa))
    {tM : Tok}
    {oI : Value} {odI anI odT : Option Addr} {slI slT : Array (Option Value)} {kVI dcI pmI cdI ctI ocT : Value} {fI TI : Addr} {nT : Nat}
    {fEq : Addr} {ocEq kVEq dcEq pmEq cdEq ctEq : Value} {odEq anEq : Option Addr} {slEq : Array (Option Value)}
    {fSt : Addr} {ocSt kVSt dcSt pmSt cdSt ctSt : Value} {odSt anSt : Option Addr} {slSt : Array (Option Value)}
    {fPa : Addr} {ocPa kVPa dcPa pmPa cdPa ctPa : Value} {odPa anPa : Option Addr} {slPa : Array (Option Value)}
    {fAl : Addr} {ocAl kVAl dcAl pmAl cdAl ctAl : Value} {odAl anAl : Option Addr} {slAl : Array (Option Value)}
    {fSg : Addr} {ocSg kVSg dcSg pmSg cdSg ctSg : Value} {odSg anSg : Option Addr} {slSg : Array (Option Value)}
    {fIn : Addr} {ocIn kVIn dcIn pmIn cdIn ctIn : Value} {odIn anIn : Option Addr} {slIn : Array (Option Value)}
    {fFt : Addr} {ocFt kVFt dcFt pmFt cdFt ctFt : Value} {odFt anFt : Option Addr} {slFt : Array (Option Value)}
    {fHf : Addr} {ocHf kVHf dcHf pmHf cdHf ctHf : Value} {odHf anHf : Option Addr} {slHf : Array (Option Value)}
    {fRi : Addr} {ocRi kVRi dcRi pmRi cdRi ctRi : Value} {odRi anRi : Option Addr} {slRi : Array (Option Value)}
    {fLk : Addr} {ocLk kVLk dcLk pmLk cdLk ctLk : Value} {odLk anLk : Option Addr} {slLk : Array (Option Value)}
    {fLy : Addr} {ocLy kVLy dcLy pmLy cdLy ctLy : Value} {odLy anLy : Option Addr} {slLy : Array (Option Value)}
    {fNi : Addr} {ocNi kVNi dcNi pmNi cdNi ctNi : Value} {odNi anNi : Option Addr} {slNi : Array (Option Value)}
    {fRw : Addr} {ocRw kVRw dcRw pmRw cdRw ctRw : Value} {odRw anRw : Option Addr} {slRw : Array (Option Value)}
    {fDw : Addr} {ocDw kVDw dcDw pmDw cdDw ctDw : Value} {odDw anDw : Option Addr} {slDw : Array (Option Value)}
    {fRp : Addr} {ocRp kVRp dcRp pmRp cdRp ctRp : Value} {odRp anRp : Option Addr} {slRp : Array (Option Value)}
    {fAh : Addr} {ocAh kVAh dcAh pmAh cdAh ctAh : Value} {odAh anAh : Option Addr} {slAh : Array (Option Value)}
    {fT2 : Addr} {ocT2 kVT2 dcT2 pmT2 cdT2 ctT2 : Value} {odT2 anT2 : Option Addr} {slT2 : Array (Option Value)}
    {fFw : Addr} {ocFw kVFw dcFw pmFw cdFw ctFw : Value} {odFw anFw : Option Addr} {slFw : Array (Option Value)}
    {fRr : Addr} {ocRr kVRr dcRr pmRr cdRr ctRr : Value} {odRr anRr : Option Addr} {slRr : Array (Option Value)}
    {fRd : Addr} {ocRd kVRd dcRd pmRd cdRd ctRd : Value} {odRd anRd : Option Addr} {slRd : Array (Option Value)}
    {fRl : Addr} {ocRl kVRl dcRl pmRl cdRl ctRl : Value} {odRl anRl : Option Addr} {slRl : Array (Option Value)}
    {fRn : Addr} {ocRn kVRn dcRn pmRn cdRn ctRn : Value} {odRn anRn : Option Addr} {slRn : Array (Option Value)}
    {fRt : Addr} {ocRt kVRt dcRt pmRt cdRt ctRt : Value} {odRt anRt : Option Addr} {slRt : Array (Option Value)}
    {fRe : Addr} {ocRe kVRe dcRe pmRe cdRe ctRe : Value} {odRe anRe : Option Addr} {slRe : Array (Option Value)}
    {fWh : Addr} {ocWh kVWh dcWh pmWh cdWh ctWh : Value} {odWh anWh : Option Addr} {slWh : Array (Option Value)}
    {fDu : Addr} {ocDu kVDu dcDu pmDu cdDu ctDu : Value} {odDu anDu : Option Addr} {slDu : Array (Option Value)}
    {fBa : Addr} {ocBa kVBa dcBa pmBa cdBa ctBa : Value} {odBa anBa : Option Addr} {slBa : Array (Option Value)}
    {fTa : Addr} {ocTa kVTa dcTa pmTa cdTa ctTa : Value} {odTa anTa : Option Addr} {slTa : Array (Option Value)}
    {fTh : Addr} {ocTh kVTh dcTh pmTh cdTh ctTh : Value} {odTh anTh : Option Addr} {slTh : Array (Option Value)}
    {fNa : Addr} {ocNa kVNa dcNa pmNa cdNa ctNa : Value} {odNa anNa : Option Addr} {slNa : Array (Option Value)}
    {fDe : Addr} {ocDe kVDe dcDe pmDe cdDe ctDe : Value} {odDe anDe : Option Addr} {slDe : Array (Option Value)}
    {fDs : Addr} {ocDs kVDs dcDs pmDs cdDs ctDs : Value} {odDs anDs : Option Addr} {slDs : Array (Option Value)}
    {fTo : Addr} {ocTo kVTo dcTo pmTo cdTo ctTo : Value} {odTo anTo : Option Addr} {slTo : Array (Option Value)}
    {fSh : Addr} {ocSh kVSh dcSh pmSh cdSh ctSh : Value} {odSh anSh : Option Addr} {slSh : Array (Option Value)}
    {fLt : Addr} {ocLt kVLt dcLt pmLt cdLt ctLt : Value} {odLt anLt : Option Addr} {slLt : Array (Option Value)}
    {fXit : Addr} {ocXit kVXit dcXit pmXit cdXit ctXit : Value} {odXit anXit : Option Addr} {slXit : Array (Option Value)}
    {fXlo : Addr} {ocXlo kVXlo dcXlo pmXlo cdXlo ctXlo : Value} {odXlo anXlo : Option Addr} {slXlo : Array (Option Value)}
    {fXme : Addr} {ocXme kVXme dcXme pmXme cdXme ctXme : Value} {odXme anXme : Option Addr} {slXme : Array (Option Value)}
    {fXbr : Addr} {ocXbr kVXbr dcXbr pmXbr cdXbr ctXbr : Value} {odXbr anXbr : Option Addr} {slXbr : Array (Option Value)}
    {fXsp : Addr} {ocXsp kVXsp dcXsp pmXsp cdXsp ctXsp : Value} {odXsp anXsp : Option Addr} {slXsp : Array (Option Value)}
    {fXgd : Addr} {ocXgd kVXgd dcXgd pmXgd cdXgd ctXgd : Value} {odXgd anXgd : Option Addr} {slXgd : Array (Option Value)}
    {fLaw : Addr} {ocLaw kVLaw dcLaw pmLaw cdLaw ctLaw : Value} {odLaw anLaw : Option Addr} {slLaw : Array (Option Value)}
    {CP dF : Addr} {esF : Array DictEntry} {nFm : Nat} {tN1 tN2 tN3 tf0 tf1 tf2 tf3 tf4 tf5 tf6 : Tok}
    {fPI : Addr} {ocPI kVPI dcPI pmPI cdPI ctPI : Value} {odPI anPI : Option Addr} {slPI : Array (Option Value)}
    {fPL : Addr} {ocPL kVPL dcPL pmPL cdPL ctPL : Value} {odPL anPL : Option Addr} {slPL : Array (Option Value)}
    {fPE : Addr} {ocPE kVPE dcPE pmPE cdPE ctPE : Value} {odPE anPE : Option Addr} {slPE : Array (Option Value)}
    {fPS : Addr} {ocPS kVPS dcPS pmPS cdPS ctPS : Value} {odPS anPS : Option Addr} {slPS : Array (Option Value)}
    {CD : Addr}
    {fDI : Addr} {ocDI kVDI dcDI pmDI cdDI ctDI : Value} {odDI anDI : Option Addr} {slDI : Array (Option Value)}
    {tL u1 u2 u3 u4 u5 u6 : Tok} {aLooA aTakA : Addr} {odLoo odTak : Option Addr} {nLoo nTak : Nat} {slLoo slTak : Array (Option Value)}
    {N fN : Addr} {nmN qN : Str} {NN : Addr} {bsN : List Value} {snN : List Str} {subN : List Value} {abN : Bool} {colN : Option Bool} {ddN : Option Addr} {m0N m1N m2N m3N m5N : Option Value}
    {ocN kVN dcN pmN cdN ctN : Value} {odN anN : Option Addr} {slN : Array (Option Value)}
    {n1 n2 n3 n4 n5 n6 : Addr}
    (aC : PySem.W.nsIn K mainGlobals "Thing" = some (some (.ref C)))
    (pg : PySem.W.plainGet K C Str.empty = true)
    (hd : PySem.W.hasDictIn K C = true)
    (po : PySem.W.plainOver K C = true)
    (sa : PySem.W.findIn K (.ref C) "__setattr__" = some (some (.builtin "object.__setattr__")))
    (mkC : PySem.W.makesIn K C = true)
    (kc : PySem.W.keepIn K (.ref C) = true)
    (nF : PySem.W.findIn K (.ref C) "first" = some none)
    (nS : PySem.W.findIn K (.ref C) "second" = some none)
    (nZ : PySem.W.findIn K (.ref C) "size" = some none)
    (ca : PySem.W.findIn K (.ref C) "__class__" = some (some (.builtin "object.__class__")))
    (cn : PySem.W.specialIn K (.builtin "object.__class__") "__get__" = some (some (.builtin "getset_descriptor.__get__")))
    (ct : PySem.W.takesIn K (.builtin "object.__class__") = some true)
    (cm : PySem.W.mroIn K C (.type "object") = some true)
    (neC : PySem.W.findIn K (.ref C) "__ne__" = some (some (.builtin "object.__ne__")))
    (aM : PySem.W.nsIn K mainGlobals "MOST_PAIRS" = some (some (.int 4000 tM)))
    (aI : PySem.W.findIn K (.ref C) "__init__" = some (some (.ref fI)))
    (iI : PySem.W.isFn K (.ref fI) = true)
    (lI : K.lookup fI = some ⟨oI, odI, .func (PySem.W.fnOf "__init__" "Thing.__init__" (defArgs sInit) (defBody sInit) (defScope sInit) (.ref TI) kVI dcI pmI anI cdI ctI), slI⟩)
    (cI : PySem.W.codeIn K cdI "Thing.__init__" = true)
    (kI : PySem.W.keepIn K (.ref fI) = true)
    (lT : K.lookup TI = some ⟨ocT, odT, .seq #[.none, .none] nT, slT⟩)
    (aEq : PySem.W.findIn K (.ref C) "__eq__" = some (some (.ref fEq)))
    (iEq : PySem.W.isFn K (.ref fEq) = true)
    (lEq : K.lookup fEq = some ⟨ocEq, odEq, .func (PySem.W.fnOf "__eq__" "Thing.__eq__" (defArgs sEq) (defBody sEq) (defScope sEq) .none kVEq dcEq pmEq anEq cdEq ctEq), slEq⟩)
    (cEq : PySem.W.codeIn K cdEq "Thing.__eq__" = true)
    (kEq : PySem.W.keepIn K (.ref fEq) = true)
    (aSt : PySem.W.findIn K (.ref C) "__str__" = some (some (.ref fSt)))
    (iSt : PySem.W.isFn K (.ref fSt) = true)
    (lSt : K.lookup fSt = some ⟨ocSt, odSt, .func (PySem.W.fnOf "__str__" "Thing.__str__" (defArgs sStr) (defBody sStr) (defScope sStr) .none kVSt dcSt pmSt anSt cdSt ctSt), slSt⟩)
    (cSt : PySem.W.codeIn K cdSt "Thing.__str__" = true)
    (kSt : PySem.W.keepIn K (.ref fSt) = true)
    (aPa : PySem.W.nsIn K mainGlobals "pairs_in" = some (some (.ref fPa)))
    (lPa : K.lookup fPa = some ⟨ocPa, odPa, .func (PySem.W.fnOf "pairs_in" "pairs_in" (defArgs sPairs) (defBody sPairs) (defScope sPairs) .none kVPa dcPa pmPa anPa cdPa ctPa), slPa⟩)
    (cPa : PySem.W.codeIn K cdPa "pairs_in" = true)
    (kPa : PySem.W.keepIn K (.ref fPa) = true)
    (aAl : PySem.W.nsIn K mainGlobals "alike" = some (some (.ref fAl)))
    (lAl : K.lookup fAl = some ⟨ocAl, odAl, .func (PySem.W.fnOf "alike" "alike" (defArgs sAlike) (defBody sAlike) (defScope sAlike) .none kVAl dcAl pmAl anAl cdAl ctAl), slAl⟩)
    (cAl : PySem.W.codeIn K cdAl "alike" = true)
    (kAl : PySem.W.keepIn K (.ref fAl) = true)
    (aSg : PySem.W.nsIn K mainGlobals "signs" = some (some (.ref fSg)))
    (lSg : K.lookup fSg = some ⟨ocSg, odSg, .func (PySem.W.fnOf "signs" "signs" (defArgs sSigns) (defBody sSigns) (defScope sSigns) .none kVSg dcSg pmSg anSg cdSg ctSg), slSg⟩)
    (cSg : PySem.W.codeIn K cdSg "signs" = true)
    (kSg : PySem.W.keepIn K (.ref fSg) = true)
    (aIn : PySem.W.nsIn K mainGlobals "is_name" = some (some (.ref fIn)))
    (lIn : K.lookup fIn = some ⟨ocIn, odIn, .func (PySem.W.fnOf "is_name" "is_name" (defArgs sIsName) (defBody sIsName) (defScope sIsName) .none kVIn dcIn pmIn anIn cdIn ctIn), slIn⟩)
    (cIn : PySem.W.codeIn K cdIn "is_name" = true)
    (kIn : PySem.W.keepIn K (.ref fIn) = true)
    (aFt : PySem.W.nsIn K mainGlobals "fits" = some (some (.ref fFt)))
    (lFt : K.lookup fFt = some ⟨ocFt, odFt, .func (PySem.W.fnOf "fits" "fits" (defArgs sFits) (defBody sFits) (defScope sFits) .none kVFt dcFt pmFt anFt cdFt ctFt), slFt⟩)
    (cFt : PySem.W.codeIn K cdFt "fits" = true)
    (kFt : PySem.W.keepIn K (.ref fFt) = true)
    (aHf : PySem.W.nsIn K mainGlobals "has_form" = some (some (.ref fHf)))
    (lHf : K.lookup fHf = some ⟨ocHf, odHf, .func (PySem.W.fnOf "has_form" "has_form" (defArgs sHasForm) (defBody sHasForm) (defScope sHasForm) .none kVHf dcHf pmHf anHf cdHf ctHf), slHf⟩)
    (cHf : PySem.W.codeIn K cdHf "has_form" = true)
    (kHf : PySem.W.keepIn K (.ref fHf) = true)
    (aRi : PySem.W.nsIn K mainGlobals "rows_in" = some (some (.ref fRi)))
    (lRi : K.lookup fRi = some ⟨ocRi, odRi, .func (PySem.W.fnOf "rows_in" "rows_in" (defArgs sRowsIn) (defBody sRowsIn) (defScope sRowsIn) .none kVRi dcRi pmRi anRi cdRi ctRi), slRi⟩)
    (cRi : PySem.W.codeIn K cdRi "rows_in" = true)
    (kRi : PySem.W.keepIn K (.ref fRi) = true)
    (aLk : PySem.W.nsIn K mainGlobals "look_through" = some (some (.ref fLk)))
    (lLk : K.lookup fLk = some ⟨ocLk, odLk, .func (PySem.W.fnOf "look_through" "look_through" (defArgs sLook) (defBody sLook) (defScope sLook) .none kVLk dcLk pmLk anLk cdLk ctLk), slLk⟩)
    (cLk : PySem.W.codeIn K cdLk "look_through" = true)
    (kLk : PySem.W.keepIn K (.ref fLk) = true)
    (aLy : PySem.W.nsIn K mainGlobals "lay_out" = some (some (.ref fLy)))
    (lLy : K.lookup fLy = some ⟨ocLy, odLy, .func (PySem.W.fnOf "lay_out" "lay_out" (defArgs sLay) (defBody sLay) (defScope sLay) .none kVLy dcLy pmLy anLy cdLy ctLy), slLy⟩)
    (cLy : PySem.W.codeIn K cdLy "lay_out" = true)
    (kLy : PySem.W.keepIn K (.ref fLy) = true)
    (aNi : PySem.W.nsIn K mainGlobals "names_in" = some (some (.ref fNi)))
    (lNi : K.lookup fNi = some ⟨ocNi, odNi, .func (PySem.W.fnOf "names_in" "names_in" (defArgs sNamesIn) (defBody sNamesIn) (defScope sNamesIn) .none kVNi dcNi pmNi anNi cdNi ctNi), slNi⟩)
    (cNi : PySem.W.codeIn K cdNi "names_in" = true)
    (kNi : PySem.W.keepIn K (.ref fNi) = true)
    (aRw : PySem.W.nsIn K mainGlobals "row_words" = some (some (.ref fRw)))
    (lRw : K.lookup fRw = some ⟨ocRw, odRw, .func (PySem.W.fnOf "row_words" "row_words" (defArgs sRowW) (defBody sRowW) (defScope sRowW) .none kVRw dcRw pmRw anRw cdRw ctRw), slRw⟩)
    (cRw : PySem.W.codeIn K cdRw "row_words" = true)
    (kRw : PySem.W.keepIn K (.ref fRw) = true)
    (aDw : PySem.W.nsIn K mainGlobals "deed_words" = some (some (.ref fDw)))
    (lDw : K.lookup fDw = some ⟨ocDw, odDw, .func (PySem.W.fnOf "deed_words" "deed_words" (defArgs sDeedW) (defBody sDeedW) (defScope sDeedW) .none kVDw dcDw pmDw anDw cdDw ctDw), slDw⟩)
    (cDw : PySem.W.codeIn K cdDw "deed_words" = true)
    (kDw : PySem.W.keepIn K (.ref fDw) = true)
    (aRp : PySem.W.nsIn K mainGlobals "read_program" = some (some (.ref fRp)))
    (lRp : K.lookup fRp = some ⟨ocRp, odRp, .func (PySem.W.fnOf "read_program" "read_program" (defArgs sRdP) (defBody sRdP) (defScope sRdP) .none kVRp dcRp pmRp anRp cdRp ctRp), slRp⟩)
    (cRp : PySem.W.codeIn K cdRp "read_program" = true)
    (kRp : PySem.W.keepIn K (.ref fRp) = true)
    (aAh : PySem.W.nsIn K mainGlobals "ahead" = some (some (.ref fAh)))
    (lAh : K.lookup fAh = some ⟨ocAh, odAh, .func (PySem.W.fnOf "ahead" "ahead" (defArgs sAhead) (defBody sAhead) (defScope sAhead) .none kVAh dcAh pmAh anAh cdAh ctAh), slAh⟩)
    (cAh : PySem.W.codeIn K cdAh "ahead" = true)
    (kAh : PySem.W.keepIn K (.ref fAh) = true)
    (aT2 : PySem.W.nsIn K mainGlobals "take" = some (some (.ref fT2)))
    (lT2 : K.lookup fT2 = some ⟨ocT2, odT2, .func (PySem.W.fnOf "take" "take" (defArgs sTk2) (defBody sTk2) (defScope sTk2) .none kVT2 dcT2 pmT2 anT2 cdT2 ctT2), slT2⟩)
    (cT2 : PySem.W.codeIn K cdT2 "take" = true)
    (kT2 : PySem.W.keepIn K (.ref fT2) = true)
    (aFw : PySem.W.nsIn K mainGlobals "first_words" = some (some (.ref fFw)))
    (lFw : K.lookup fFw = some ⟨ocFw, odFw, .func (PySem.W.fnOf "first_words" "first_words" (defArgs sFw) (defBody sFw) (defScope sFw) .none kVFw dcFw pmFw anFw cdFw ctFw), slFw⟩)
    (cFw : PySem.W.codeIn K cdFw "first_words" = true)
    (kFw : PySem.W.keepIn K (.ref fFw) = true)
    (aRr : PySem.W.nsIn K mainGlobals "read_row" = some (some (.ref fRr)))
    (lRr : K.lookup fRr = some ⟨ocRr, odRr, .func (PySem.W.fnOf "read_row" "read_row" (defArgs sRdR) (defBody sRdR) (defScope sRdR) .none kVRr dcRr pmRr anRr cdRr ctRr), slRr⟩)
    (cRr : PySem.W.codeIn K cdRr "read_row" = true)
    (kRr : PySem.W.keepIn K (.ref fRr) = true)
    (aRd : PySem.W.nsIn K mainGlobals "read_deed" = some (some (.ref fRd)))
    (lRd : K.lookup fRd = some ⟨ocRd, odRd, .func (PySem.W.fnOf "read_deed" "read_deed" (defArgs sRdD) (defBody sRdD) (defScope sRdD) .none kVRd dcRd pmRd anRd cdRd ctRd), slRd⟩)
    (cRd : PySem.W.codeIn K cdRd "read_deed" = true)
    (kRd : PySem.W.keepIn K (.ref fRd) = true)
    (aRl : PySem.W.nsIn K mainGlobals "read_look" = some (some (.ref fRl)))
    (lRl : K.lookup fRl = some ⟨ocRl, odRl, .func (PySem.W.fnOf "read_look" "read_look" (defArgs sRdL) (defBody sRdL) (defScope sRdL) .none kVRl dcRl pmRl anRl cdRl ctRl), slRl⟩)
    (cRl : PySem.W.codeIn K cdRl "read_look" = true)
    (kRl : PySem.W.keepIn K (.ref fRl) = true)
    (aRn : PySem.W.nsIn K mainGlobals "read_name" = some (some (.ref fRn)))
    (lRn : K.lookup fRn = some ⟨ocRn, odRn, .func (PySem.W.fnOf "read_name" "read_name" (defArgs sRdN) (defBody sRdN) (defScope sRdN) .none kVRn dcRn pmRn anRn cdRn ctRn), slRn⟩)
    (cRn : PySem.W.codeIn K cdRn "read_name" = true)
    (kRn : PySem.W.keepIn K (.ref fRn) = true)
    (aRt : PySem.W.nsIn K mainGlobals "read_told" = some (some (.ref fRt)))
    (lRt : K.lookup fRt = some ⟨ocRt, odRt, .func (PySem.W.fnOf "read_told" "read_told" (defArgs sRdT) (defBody sRdT) (defScope sRdT) .none kVRt dcRt pmRt anRt cdRt ctRt), slRt⟩)
    (cRt : PySem.W.codeIn K cdRt "read_told" = true)
    (kRt : PySem.W.keepIn K (.ref fRt) = true)
    (aRe : PySem.W.nsIn K mainGlobals "read_thing" = some (some (.ref fRe)))
    (lRe : K.lookup fRe = some ⟨ocRe, odRe, .func (PySem.W.fnOf "read_thing" "read_thing" (defArgs sRead) (defBody sRead) (defScope sRead) .none kVRe dcRe pmRe anRe cdRe ctRe), slRe⟩)
    (cRe : PySem.W.codeIn K cdRe "read_thing" = true)
    (kRe : PySem.W.keepIn K (.ref fRe) = true)
    (aWh : PySem.W.nsIn K mainGlobals "is_whole" = some (some (.ref fWh)))
    (lWh : K.lookup fWh = some ⟨ocWh, odWh, .func (PySem.W.fnOf "is_whole" "is_whole" (defArgs sWhole) (defBody sWhole) (defScope sWhole) .none kVWh dcWh pmWh anWh cdWh ctWh), slWh⟩)
    (cWh : PySem.W.codeIn K cdWh "is_whole" = true)
    (kWh : PySem.W.keepIn K (.ref fWh) = true)
    (aDu : PySem.W.nsIn K mainGlobals "signs_due" = some (some (.ref fDu)))
    (lDu : K.lookup fDu = some ⟨ocDu, odDu, .func (PySem.W.fnOf "signs_due" "signs_due" (defArgs sDue) (defBody sDue) (defScope sDue) .none kVDu dcDu pmDu anDu cdDu ctDu), slDu⟩)
    (cDu : PySem.W.codeIn K cdDu "signs_due" = true)
    (kDu : PySem.W.keepIn K (.ref fDu) = true)
    (aBa : PySem.W.nsIn K mainGlobals "_law_bag" = some (some (.ref fBa)))
    (lBa : K.lookup fBa = some ⟨ocBa, odBa, .func (PySem.W.fnOf "_law_bag" "_law_bag" (defArgs sBag) (defBody sBag) (defScope sBag) .none kVBa dcBa pmBa anBa cdBa ctBa), slBa⟩)
    (cBa : PySem.W.codeIn K cdBa "_law_bag" = true)
    (kBa : PySem.W.keepIn K (.ref fBa) = true)
    (aTa : PySem.W.nsIn K mainGlobals "_law_take" = some (some (.ref fTa)))
    (lTa : K.lookup fTa = some ⟨ocTa, odTa, .func (PySem.W.fnOf "_law_take" "_law_take" (defArgs sTake) (defBody sTake) (defScope sTake) .none kVTa dcTa pmTa anTa cdTa ctTa), slTa⟩)
    (cTa : PySem.W.codeIn K cdTa "_law_take" = true)
    (kTa : PySem.W.keepIn K (.ref fTa) = true)
    (aTh : PySem.W.nsIn K mainGlobals "_law_thing" = some (some (.ref fTh)))
    (lTh : K.lookup fTh = some ⟨ocTh, odTh, .func (PySem.W.fnOf "_law_thing" "_law_thing" (defArgs sThing) (defBody sThing) (defScope sThing) .none kVTh dcTh pmTh anTh cdTh ctTh), slTh⟩)
    (cTh : PySem.W.codeIn K cdTh "_law_thing" = true)
    (kTh : PySem.W.keepIn K (.ref fTh) = true)
    (aNa : PySem.W.nsIn K mainGlobals "_law_name" = some (some (.ref fNa)))
    (lNa : K.lookup fNa = some ⟨ocNa, odNa, .func (PySem.W.fnOf "_law_name" "_law_name" (defArgs sName) (defBody sName) (defScope sName) .none kVNa dcNa pmNa anNa cdNa ctNa), slNa⟩)
    (cNa : PySem.W.codeIn K cdNa "_law_name" = true)
    (kNa : PySem.W.keepIn K (.ref fNa) = true)
    (aDe : PySem.W.nsIn K mainGlobals "_law_deed" = some (some (.ref fDe)))
    (lDe : K.lookup fDe = some ⟨ocDe, odDe, .func (PySem.W.fnOf "_law_deed" "_law_deed" (defArgs sDeed) (defBody sDeed) (defScope sDeed) .none kVDe dcDe pmDe anDe cdDe ctDe), slDe⟩)
    (cDe : PySem.W.codeIn K cdDe "_law_deed" = true)
    (kDe : PySem.W.keepIn K (.ref fDe) = true)
    (aDs : PySem.W.nsIn K mainGlobals "_law_deeds" = some (some (.ref fDs)))
    (lDs : K.lookup fDs = some ⟨ocDs, odDs, .func (PySem.W.fnOf "_law_deeds" "_law_deeds" (defArgs sDeeds) (defBody sDeeds) (defScope sDeeds) .none kVDs dcDs pmDs anDs cdDs ctDs), slDs⟩)
    (cDs : PySem.W.codeIn K cdDs "_law_deeds" = true)
    (kDs : PySem.W.keepIn K (.ref fDs) = true)
    (aTo : PySem.W.nsIn K mainGlobals "_law_top" = some (some (.ref fTo)))
    (lTo : K.lookup fTo = some ⟨ocTo, odTo, .func (PySem.W.fnOf "_law_top" "_law_top" (defArgs sTop) (defBody sTop) (defScope sTop) .none kVTo dcTo pmTo anTo cdTo ctTo), slTo⟩)
    (cTo : PySem.W.codeIn K cdTo "_law_top" = true)
    (kTo : PySem.W.keepIn K (.ref fTo) = true)
    (aSh : PySem.W.nsIn K mainGlobals "_law_shown" = some (some (.ref fSh)))
    (lSh : K.lookup fSh = some ⟨ocSh, odSh, .func (PySem.W.fnOf "_law_shown" "_law_shown" (defArgs sShown) (defBody sShown) (defScope sShown) .none kVSh dcSh pmSh anSh cdSh ctSh), slSh⟩)
    (cSh : PySem.W.codeIn K cdSh "_law_shown" = true)
    (kSh : PySem.W.keepIn K (.ref fSh) = true)
    (aLt : PySem.W.nsIn K mainGlobals "_law_text" = some (some (.ref fLt)))
    (lLt : K.lookup fLt = some ⟨ocLt, odLt, .func (PySem.W.fnOf "_law_text" "_law_text" (defArgs sLText) (defBody sLText) (defScope sLText) .none kVLt dcLt pmLt anLt cdLt ctLt), slLt⟩)
    (cLt : PySem.W.codeIn K cdLt "_law_text" = true)
    (kLt : PySem.W.keepIn K (.ref fLt) = true)
    (aXit : PySem.W.nsIn K mainGlobals "_law_is_thing" = some (some (.ref fXit)))
    (lXit : K.lookup fXit = some ⟨ocXit, odXit, .func (PySem.W.fnOf "_law_is_thing" "_law_is_thing" (defArgs sIsTh) (defBody sIsTh) (defScope sIsTh) .none kVXit dcXit pmXit anXit cdXit ctXit), slXit⟩)
    (cXit : PySem.W.codeIn K cdXit "_law_is_thing" = true)
    (kXit : PySem.W.keepIn K (.ref fXit) = true)
    (aXlo : PySem.W.nsIn K mainGlobals "_law_looked" = some (some (.ref fXlo)))
    (lXlo : K.lookup fXlo = some ⟨ocXlo, odXlo, .func (PySem.W.fnOf "_law_looked" "_law_looked" (defArgs sLo10) (defBody sLo10) (defScope sLo10) .none kVXlo dcXlo pmXlo anXlo cdXlo ctXlo), slXlo⟩)
    (cXlo : PySem.W.codeIn K cdXlo "_law_looked" = true)
    (kXlo : PySem.W.keepIn K (.ref fXlo) = true)
    (aXme : PySem.W.nsIn K mainGlobals "_law_met" = some (some (.ref fXme)))
    (lXme : K.lookup fXme = some ⟨ocXme, odXme, .func (PySem.W.fnOf "_law_met" "_law_met" (defArgs sMe10) (defBody sMe10) (defScope sMe10) .none kVXme dcXme pmXme anXme cdXme ctXme), slXme⟩)
    (cXme : PySem.W.codeIn K cdXme "_law_met" = true)
    (kXme : PySem.W.keepIn K (.ref fXme) = true)
    (aXbr : PySem.W.nsIn K mainGlobals "_law_breaks" = some (some (.ref fXbr)))
    (lXbr : K.lookup fXbr = some ⟨ocXbr, odXbr, .func (PySem.W.fnOf "_law_breaks" "_law_breaks" (defArgs sBr10) (defBody sBr10) (defScope sBr10) .none kVXbr dcXbr pmXbr anXbr cdXbr ctXbr), slXbr⟩)
    (cXbr : PySem.W.codeIn K cdXbr "_law_breaks" = true)
    (kXbr : PySem.W.keepIn K (.ref fXbr) = true)
    (aXsp : PySem.W.nsIn K mainGlobals "_law_spoilt" = some (some (.ref fXsp)))
    (lXsp : K.lookup fXsp = some ⟨ocXsp, odXsp, .func (PySem.W.fnOf "_law_spoilt" "_law_spoilt" (defArgs sSp10) (defBody sSp10) (defScope sSp10) .none kVXsp dcXsp pmXsp anXsp cdXsp ctXsp), slXsp⟩)
    (cXsp : PySem.W.codeIn K cdXsp "_law_spoilt" = true)
    (kXsp : PySem.W.keepIn K (.ref fXsp) = true)
    (aXgd : PySem.W.nsIn K mainGlobals "_law_good" = some (some (.ref fXgd)))
    (lXgd : K.lookup fXgd = some ⟨ocXgd, odXgd, .func (PySem.W.fnOf "_law_good" "_law_good" (defArgs sGood) (defBody sGood) (defScope sGood) .none kVXgd dcXgd pmXgd anXgd cdXgd ctXgd), slXgd⟩)
    (cXgd : PySem.W.codeIn K cdXgd "_law_good" = true)
    (kXgd : PySem.W.keepIn K (.ref fXgd) = true)
    (aLaw : PySem.W.nsIn K mainGlobals "law" = some (some (.ref fLaw)))
    (lLaw : K.lookup fLaw = some ⟨ocLaw, odLaw, .func (PySem.W.fnOf "law" "law" (defArgs sLaw) (defBody sLaw) (defScope sLaw) .none kVLaw dcLaw pmLaw anLaw cdLaw ctLaw), slLaw⟩)
    (cLaw : PySem.W.codeIn K cdLaw "law" = true)
    (kLaw : PySem.W.keepIn K (.ref fLaw) = true)
    (aP : PySem.W.nsIn K mainGlobals "Program" = some (some (.ref CP)))
    (pgP : PySem.W.plainGet K CP Str.empty = true)
    (hdP : PySem.W.hasDictIn K CP = true)
    (poP : PySem.W.plainOver K CP = true)
    (saP : PySem.W.findIn K (.ref CP) "__setattr__" = some (some (.builtin "object.__setattr__")))
    (mkCP : PySem.W.makesIn K CP = true)
    (kcP : PySem.W.keepIn K (.ref CP) = true)
    (nDP : PySem.W.findIn K (.ref CP) "deeds" = some none)
    (nPP : PySem.W.findIn K (.ref CP) "plan" = some none)
    (caP : PySem.W.findIn K (.ref CP) "__class__" = some (some (.builtin "object.__class__")))
    (cmP : PySem.W.mroIn K CP (.type "object") = some true)
    (neP : PySem.W.findIn K (.ref CP) "__ne__" = some (some (.builtin "object.__ne__")))
    (aFm : PySem.W.nsIn K mainGlobals "FORMS" = some (some (.ref dF)))
    (lFm : K.lookup dF = some ⟨.type "dict", none, .dict esF nFm, #[]⟩)
    (litF : PySem.W.KeysLit w.params esF.toList)
    (lowF : (dF == sysModules) = false)
    (aN1 : PySem.W.nsIn K mainGlobals "MANY_NAMES" = some (some (.int 10 tN1)))
    (aN2 : PySem.W.nsIn K mainGlobals "MOST_DEEDS" = some (some (.int 4000 tN2)))
    (aN3 : PySem.W.nsIn K mainGlobals "MOST_FLOORS" = some (some (.int 8 tN3)))
    (kii : PySem.W.kitOne K (.type "int") (.type "int") = some true)
    (kib : PySem.W.kitOne K (.type "int") (.type "bool") = some false)
    (ktt : PySem.W.kitOne K (.type "tuple") (.type "tuple") = some true)
    (kss : PySem.W.kitOne K (.type "str") (.type "str") = some true)
    (fm0 : PySem.W.nsIn K dF "told" = some (some (.str "nt" tf0)))
    (fm1 : PySem.W.nsIn K dF "first" = some (some (.str "nn" tf1)))
    (fm2 : PySem.W.nsIn K dF "second" = some (some (.str "nn" tf2)))
    (fm3 : PySem.W.nsIn K dF "pair" = some (some (.str "nnn" tf3)))
    (fm4 : PySem.W.nsIn K dF "same" = some (some (.str "nnn" tf4)))
    (fm5 : PySem.W.nsIn K dF "while" = some (some (.str "nr" tf5)))
    (fm6 : PySem.W.nsIn K dF "if" = some (some (.str "nrr" tf6)))
    (aPI : PySem.W.findIn K (.ref CP) "__init__" = some (some (.ref fPI)))
    (iPI : PySem.W.isFn K (.ref fPI) = true)
    (lPI : K.lookup fPI = some ⟨ocPI, odPI, .func (PySem.W.fnOf "__init__" "Program.__init__" (defArgs sPInit) (defBody sPInit) (defScope sPInit) .none kVPI dcPI pmPI anPI cdPI ctPI), slPI⟩)
    (cPI : PySem.W.codeIn K cdPI "Program.__init__" = true)
    (kPI : PySem.W.keepIn K (.ref fPI) = true)
    (aPL : PySem.W.findIn K (.ref CP) "__len__" = some (some (.ref fPL)))
    (iPL : PySem.W.isFn K (.ref fPL) = true)
    (lPL : K.lookup fPL = some ⟨ocPL, odPL, .func (PySem.W.fnOf "__len__" "Program.__len__" (defArgs sPLen) (defBody sPLen) (defScope sPLen) .none kVPL dcPL pmPL anPL cdPL ctPL), slPL⟩)
    (cPL : PySem.W.codeIn K cdPL "Program.__len__" = true)
    (kPL : PySem.W.keepIn K (.ref fPL) = true)
    (aPE : PySem.W.findIn K (.ref CP) "__eq__" = some (some (.ref fPE)))
    (iPE : PySem.W.isFn K (.ref fPE) = true)
    (lPE : K.lookup fPE = some ⟨ocPE, odPE, .func (PySem.W.fnOf "__eq__" "Program.__eq__" (defArgs sPEq) (defBody sPEq) (defScope sPEq) .none kVPE dcPE pmPE anPE cdPE ctPE), slPE⟩)
    (cPE : PySem.W.codeIn K cdPE "Program.__eq__" = true)
    (kPE : PySem.W.keepIn K (.ref fPE) = true)
    (aPS : PySem.W.findIn K (.ref CP) "__str__" = some (some (.ref fPS)))
    (iPS : PySem.W.isFn K (.ref fPS) = true)
    (lPS : K.lookup fPS = some ⟨ocPS, odPS, .func (PySem.W.fnOf "__str__" "Program.__str__" (defArgs sPStr) (defBody sPStr) (defScope sPStr) .none kVPS dcPS pmPS anPS cdPS ctPS), slPS⟩)
    (cPS : PySem.W.codeIn K cdPS "Program.__str__" = true)
    (kPS : PySem.W.keepIn K (.ref fPS) = true)
    (aCD : PySem.W.nsIn K mainGlobals "Reader" = some (some (.ref CD)))
    (pgD : PySem.W.plainGet K CD Str.empty = true)
    (hdD : PySem.W.hasDictIn K CD = true)
    (poD : PySem.W.plainOver K CD = true)
    (saD : PySem.W.findIn K (.ref CD) "__setattr__" = some (some (.builtin "object.__setattr__")))
    (mkD : PySem.W.makesIn K CD = true)
    (kcD : PySem.W.keepIn K (.ref CD) = true)
    (caD : PySem.W.findIn K (.ref CD) "__class__" = some (some (.builtin "object.__class__")))
    (cmD : PySem.W.mroIn K CD (.type "object") = some true)
    (neD : PySem.W.findIn K (.ref CD) "__ne__" = some (some (.builtin "object.__ne__")))
    (n0D : PySem.W.findIn K (.ref CD) "words" = some none)
    (n1D : PySem.W.findIn K (.ref CD) "at" = some none)
    (n2D : PySem.W.findIn K (.ref CD) "begun" = some none)
    (aDI : PySem.W.findIn K (.ref CD) "__init__" = some (some (.ref fDI)))
    (iDI : PySem.W.isFn K (.ref fDI) = true)
    (lDI : K.lookup fDI = some ⟨ocDI, odDI, .func (PySem.W.fnOf "__init__" "Reader.__init__" (defArgs sRdI) (defBody sRdI) (defScope sRdI) .none kVDI dcDI pmDI anDI cdDI ctDI), slDI⟩)
    (cDI : PySem.W.codeIn K cdDI "Reader.__init__" = true)
    (kDI : PySem.W.keepIn K (.ref fDI) = true)
    (aL : PySem.W.nsIn K mainGlobals "LETTERS" = some (some (.str "abcdefghij" tL)))
    (aLoo : PySem.W.nsIn K mainGlobals "LOOKS" = some (some (.ref aLooA)))
    (lLoo : K.lookup aLooA = some ⟨.type "tuple", odLoo, .seq #[.str "while" u1, .str "if" u2] nLoo, slLoo⟩)
    (aTak : PySem.W.nsIn K mainGlobals "TAKERS" = some (some (.ref aTakA)))
    (lTak : K.lookup aTakA = some ⟨.type "tuple", odTak, .seq #[.str "first" u3, .str "second" u4, .str "pair" u5, .str "same" u6] nTak, slTak⟩)
    (nCD : C ≠ CD)
    (aN : PySem.W.nsIn K mainGlobals "NoText" = some (some (.ref N)))
    (xN : K.lookup N = some (excClassObj nmN qN N NN bsN [.type "ValueError", .type "Exception", .type "BaseException", .type "object"] true snN subN abN colN ddN m0N m1N m2N m3N m5N "ValueError.__new__"))
    (ovN : PySem.W.excOver K N [.type "ValueError", .type "Exception", .type "BaseException", .type "object"] = true)
    (saN : PySem.W.findIn K (.ref N) "__setattr__" = some (some (.builtin "object.__setattr__")))
    (exN : PySem.W.subIn K (.ref N) (.type "BaseException") = some true)
    (tyN : PySem.W.typeIn K (.ref N) = some (.type "type"))
    (kN : PySem.W.keepIn K (.ref N) = true)
    (plN : PySem.W.findIn K (.ref N) "place" = some none)
    (vV : PySem.W.findCls K (.type "ValueError") (.type "type") "__init__" = some (.val (.builtin "ValueError.__init__")))
    (iN : PySem.W.findIn K (.ref N) "__init__" = some (some (.ref fN)))
    (tfN : PySem.W.typeIn K (.ref fN) = some (.type "function"))
    (lN : K.lookup fN = some ⟨ocN, odN, .func (PySem.W.fnOf "__init__" "NoText.__init__" (defArgs sNt) (defBody sNt) (defScope sNt) .none kVN dcN pmN anN cdN ctN), slN⟩)
    (cN : PySem.W.codeIn K cdN "NoText.__init__" = true)
    (kfN : PySem.W.keepIn K (.ref fN) = true)
    (hdN : PySem.W.hasDictIn K N = true)
    (scN : PySem.W.subIn K (.ref N) (.ref N) = some true)
    (gaN : PySem.W.findIn K (.ref N) "__getattribute__" = some (some (.builtin "BaseException.__getattribute__")))
    (ggN : PySem.W.findIn K (.ref N) "__getattr__" = some none)
    (icN : PySem.W.isClsIn K N = true)
    (caN : PySem.W.findIn K (.ref N) "__class__" = some (some (.builtin "object.__class__")))
    (cmN : PySem.W.mroIn K N (.type "object") = some true)
    (veN : PySem.W.kitOne K (.ref N) (.type "ValueError") = some true)
    (o1 : PySem.W.nsIn K mainGlobals "NoName" = some (some (.ref n1)))
    (o2 : PySem.W.nsIn K mainGlobals "NoProgram" = some (some (.ref n2)))
    (o3 : PySem.W.nsIn K mainGlobals "NoRoom" = some (some (.ref n3)))
    (o4 : PySem.W.nsIn K mainGlobals "NoSaying" = some (some (.ref n4)))
    (o5 : PySem.W.nsIn K mainGlobals "NoStep" = some (some (.ref n5)))
    (o6 : PySem.W.nsIn K mainGlobals "TooGreat" = some (some (.ref n6)))
    (kaN : PySem.W.kitAny K (.ref N) [.ref n1, .ref n2, .ref n3, .ref n4, .ref n5, .ref n6] = some false)
    (kst : PySem.W.kitOne K (.type "str") (.type "tuple") = some false)
    (kti : PySem.W.kitOne K (.type "tuple") (.type "int") = some false)
    (kCi : PySem.W.kitOne K (.ref C) (.type "int") = some false)
    (z_len : PySem.W.nsIn K mainGlobals "len" = some none)
    (z_range : PySem.W.nsIn K mainGlobals "range" = some none)
    (z_isinstance : PySem.W.nsIn K mainGlobals "isinstance" = some none)
    (z_abs : PySem.W.nsIn K mainGlobals "abs" = some none)
    (z_int : PySem.W.nsIn K mainGlobals "int" = some none)
    (z_str : PySem.W.nsIn K mainGlobals "str" = some none)
    (z_max : PySem.W.nsIn K mainGlobals "max" = some none)
    (z_min : PySem.W.nsIn K mainGlobals "min" = some none)
    (z_all : PySem.W.nsIn K mainGlobals "all" = some none)
    (z_bool : PySem.W.nsIn K mainGlobals "bool" = some none)
    (z_tuple : PySem.W.nsIn K mainGlobals "tuple" = some none)
    (z_zip : PySem.W.nsIn K mainGlobals "zip" = some none)
    (z_enumerate : PySem.W.nsIn K mainGlobals "enumerate" = some none)
    (z_list : PySem.W.nsIn K mainGlobals "list" = some none)
    (z_ValueError : PySem.W.nsIn K mainGlobals "ValueError" = some none)
    : ∃ fd : FuncData, (∀ (s : Shared) (v : Value), BindsTo s fd ⟨[v], []⟩ [("_law_script", v)]) ∧ ∀ base : Heap, K.In base → base.Ns mainGlobals mg → FnOk P w K mg base CX0 41 fa fd ["_law_script"] (spLaw K) := by
  have e := hfa.symm.trans (PySem.W.mg_of X G aLaw)
  cases e
  have FEq := fun_mk (st := sEq) lEq cEq kEq
  have bEq := FEq.binds (ps := ["self", "other"]) fun _ _ _ _ _ _ us hl => match us, hl with | [_, _], _ => rfl
  have FSt := fun_mk (st := sStr) lSt cSt kSt
  have bSt := FSt.binds (ps := ["self"]) fun _ _ _ _ _ _ us hl => match us, hl with | [_], _ => rfl
  have FPa := fun_mk (st := sPairs) lPa cPa kPa
  have bPa := FPa.binds (ps := ["first", "second"]) fun _ _ _ _ _ _ us hl => match us, hl with | [_, _], _ => rfl
  have FAl := fun_mk (st := sAlike) lAl cAl kAl
  have bAl := FAl.binds (ps := ["one", "other"]) fun _ _ _ _ _ _ us hl => match us, hl with | [_, _], _ => rfl
  have FSg := fun_mk (st := sSigns) lSg cSg kSg
  have bSg := FSg.binds (ps := ["thing"]) fun _ _ _ _ _ _ us hl => match us, hl with | [_], _ => rfl
  have FIn := fun_mk (st := sIsName) lIn cIn kIn
  have bIn := FIn.binds (ps := ["part"]) fun _ _ _ _ _ _ us hl => match us, hl with | [_], _ => rfl
  have FFt := fun_mk (st := sFits) lFt cFt kFt
  have bFt := FFt.binds (ps := ["part", "sign"]) fun _ _ _ _ _ _ us hl => match us, hl with | [_, _], _ => rfl
  have FHf := fun_mk (st := sHasForm) lHf cHf kHf
  have bHf := FHf.binds (ps := ["deed"]) fun _ _ _ _ _ _ us hl => match us, hl with | [_], _ => rfl
  have FRi := fun_mk (st := sRowsIn) lRi cRi kRi
  have bRi := FRi.binds (ps := ["deed"]) fun _ _ _ _ _ _ us hl => match us, hl with | [_], _ => rfl
  have FLk := fun_mk (st := sLook) lLk cLk kLk
  have bLk := FLk.binds (ps := ["row", "floors", "ends"]) fun _ _ _ _ _ _ us hl => match us, hl with | [_, _, _], _ => rfl
  have FLy := fun_mk (st := sLay) lLy cLy kLy
  have bLy := FLy.binds (ps := ["row", "behind", "ends", "plan"]) fun _ _ _ _ _ _ us hl => match us, hl with | [_, _, _, _], _ => rfl
  have FNi := fun_mk (st := sNamesIn) lNi cNi kNi
  have bNi := FNi.binds (ps := ["deed"]) fun _ _ _ _ _ _ us hl => match us, hl with | [_], _ => rfl
  have FRw := fun_mk (st := sRowW) lRw cRw kRw
  have bRw := FRw.binds (ps := ["row"]) fun _ _ _ _ _ _ us hl => match us, hl with | [_], _ => rfl
  have FDw := fun_mk (st := sDeedW) lDw cDw kDw
  have bDw := FDw.binds (ps := ["deed"]) fun _ _ _ _ _ _ us hl => match us, hl with | [_], _ => rfl
  have FRp := fun_mk (st := sRdP) lRp cRp kRp
  have bRp := FRp.binds (ps := ["text"]) fun _ _ _ _ _ _ us hl => match us, hl with | [_], _ => rfl
  have FAh := fun_mk (st := sAhead) lAh cAh kAh
  have bAh := FAh.binds (ps := ["reader"]) fun _ _ _ _ _ _ us hl => match us, hl with | [_], _ => rfl
  have FT2 := fun_mk (st := sTk2) lT2 cT2 kT2
  have bT2 := FT2.binds (ps := ["reader", "right"]) fun _ _ _ _ _ _ us hl => match us, hl with | [_, _], _ => rfl
  have FFw := fun_mk (st := sFw) lFw cFw kFw
  have bFw := FFw.binds (ps := ["floors"]) fun _ _ _ _ _ _ us hl => match us, hl with | [_], _ => rfl
  have FRr := fun_mk (st := sRdR) lRr cRr kRr
  have bRr := FRr.binds (ps := ["reader", "floors"]) fun _ _ _ _ _ _ us hl => match us, hl with | [_, _], _ => rfl
  have FRd := fun_mk (st := sRdD) lRd cRd kRd
  have bRd := FRd.binds (ps := ["reader", "floors"]) fun _ _ _ _ _ _ us hl => match us, hl with | [_, _], _ => rfl
  have FRl := fun_mk (st := sRdL) lRl cRl kRl
  have bRl := FRl.binds (ps := ["reader", "kind", "floors"]) fun _ _ _ _ _ _ us hl => match us, hl with | [_, _, _], _ => rfl
  have FRn := fun_mk (st := sRdN) lRn cRn kRn
  have bRn := FRn.binds (ps := ["reader"]) fun _ _ _ _ _ _ us hl => match us, hl with | [_], _ => rfl
  have FRt := fun_mk (st := sRdT) lRt cRt kRt
  have bRt := FRt.binds (ps := ["reader"]) fun _ _ _ _ _ _ us hl => match us, hl with | [_], _ => rfl
  have FRe := fun_mk (st := sRead) lRe cRe kRe
  have bRe := FRe.binds (ps := ["text"]) fun _ _ _ _ _ _ us hl => match us, hl with | [_], _ => rfl
  have FWh := fun_mk (st := sWhole) lWh cWh kWh
  have bWh := FWh.binds (ps := ["levels"]) fun _ _ _ _ _ _ us hl => match us, hl with | [_], _ => rfl
  have FDu := fun_mk (st := sDue) lDu cDu kDu
  have bDu := FDu.binds (ps := ["levels", "begun"]) fun _ _ _ _ _ _ us hl => match us, hl with | [_, _], _ => rfl
  have FBa := fun_mk (st := sBag) lBa cBa kBa
  have bBa := FBa.binds (ps := ["_law_script", "_law_at"]) fun _ _ _ _ _ _ us hl => match us, hl with | [_, _], _ => rfl
  have FTa := fun_mk (st := sTake) lTa cTa kTa
  have bTa := FTa.binds (ps := ["_law_bag_here", "_law_many"]) fun _ _ _ _ _ _ us hl => match us, hl with | [_, _], _ => rfl
  have FTh := fun_mk (st := sThing) lTh cTh kTh
  have bTh := FTh.binds (ps := ["_law_bag_here", "_law_many"]) fun _ _ _ _ _ _ us hl => match us, hl with | [_, _], _ => rfl
  have FNa := fun_mk (st := sName) lNa cNa kNa
  have bNa := FNa.binds (ps := ["_law_bag_here"]) fun _ _ _ _ _ _ us hl => match us, hl with | [_], _ => rfl
  have FDe := fun_mk (st := sDeed) lDe cDe kDe
  have bDe := FDe.binds (ps := ["_law_bag_here", "_law_left", "_law_deep"]) fun _ _ _ _ _ _ us hl => match us, hl with | [_, _, _], _ => rfl
  have FDs := fun_mk (st := sDeeds) lDs cDs kDs
  have bDs := FDs.binds (ps := ["_law_bag_here", "_law_left", "_law_deep"]) fun _ _ _ _ _ _ us hl => match us, hl with | [_, _, _], _ => rfl
  have FTo := fun_mk (st := sTop) lTo cTo kTo
  have bTo := FTo.binds (ps := ["_law_bag_here", "_law_many"]) fun _ _ _ _ _ _ us hl => match us, hl with | [_, _], _ => rfl
  have FSh := fun_mk (st := sShown) lSh cSh kSh
  have bSh := FSh.binds (ps := ["_law_deed_here"]) fun _ _ _ _ _ _ us hl => match us, hl with | [_], _ => rfl
  have FLt := fun_mk (st := sLText) lLt cLt kLt
  have bLt := FLt.binds (ps := ["_law_deeds_here"]) fun _ _ _ _ _ _ us hl => match us, hl with | [_], _ => rfl
  have FXit := fun_mk (st := sIsTh) lXit cXit kXit
  have bXit := FXit.binds (ps := ["_law_word"]) fun _ _ _ _ _ _ us hl => match us, hl with | [_], _ => rfl
  have FXlo := fun_mk (st := sLo10) lXlo cXlo kXlo
  have bXlo := FXlo.binds (ps := ["_law_word", "_law_floor"]) fun _ _ _ _ _ _ us hl => match us, hl with | [_, _], _ => rfl
  have FXme := fun_mk (st := sMe10) lXme cXme kXme
  have bXme := FXme.binds (ps := ["_law_sign", "_law_word"]) fun _ _ _ _ _ _ us hl => match us, hl with | [_, _], _ => rfl
  have FXbr := fun_mk (st := sBr10) lXbr cXbr kXbr
  have bXbr := FXbr.binds (ps := ["_law_text_here"]) fun _ _ _ _ _ _ us hl => match us, hl with | [_], _ => rfl
  have FXsp := fun_mk (st := sSp10) lXsp cXsp kXsp
  have bXsp := FXsp.binds (ps := ["_law_bag_here", "_law_words"]) fun _ _ _ _ _ _ us hl => match us, hl with | [_, _], _ => rfl
  have FXgd := fun_mk (st := sGood) lXgd cXgd kXgd
  have bXgd := FXgd.binds (ps := ["_law_text_here"]) fun _ _ _ _ _ _ us hl => match us, hl with | [_], _ => rfl
  have FLaw := fun_mk (st := sLaw) lLaw cLaw kLaw
  have bLaw := FLaw.binds (ps := ["_law_script"]) fun _ _ _ _ _ _ us hl => match us, hl with | [_], _ => rfl
  have APa : At K mg "pairs_in" sPairs ["first", "second"] fPa _ := ⟨FPa, PySem.W.mg_of X G aPa, bPa⟩
  have AAl : At K mg "alike" sAlike ["one", "other"] fAl _ := ⟨FAl, PySem.W.mg_of X G aAl, bAl⟩
  have ASg : At K mg "signs" sSigns ["thing"] fSg _ := ⟨FSg, PySem.W.mg_of X G aSg, bSg⟩
  have AIn : At K mg "is_name" sIsName ["part"] fIn _ := ⟨FIn, PySem.W.mg_of X G aIn, bIn⟩
  have AFt : At K mg "fits" sFits ["part", "sign"] fFt _ := ⟨FFt, PySem.W.mg_of X G aFt, bFt⟩
  have AHf : At K mg "has_form" sHasForm ["deed"] fHf _ := ⟨FHf, PySem.W.mg_of X G aHf, bHf⟩
  have ARi : At K mg "rows_in" sRowsIn ["deed"] fRi _ := ⟨FRi, PySem.W.mg_of X G aRi, bRi⟩
  have ALk : At K mg "look_through" sLook ["row", "floors", "ends"] fLk _ := ⟨FLk, PySem.W.mg_of X G aLk, bLk⟩
  have ALy : At K mg "lay_out" sLay ["row", "behind", "ends", "plan"] fLy _ := ⟨FLy, PySem.W.mg_of X G aLy, bLy⟩
  have ANi : At K mg "names_in" sNamesIn ["deed"] fNi _ := ⟨FNi, PySem.W.mg_of X G aNi, bNi⟩
  have ARw : At K mg "row_words" sRowW ["row"] fRw _ := ⟨FRw, PySem.W.mg_of X G aRw, bRw⟩
  have ADw : At K mg "deed_words" sDeedW ["deed"] fDw _ := ⟨FDw, PySem.W.mg_of X G aDw, bDw⟩
  have ARp : At K mg "read_program" sRdP ["text"] fRp _ := ⟨FRp, PySem.W.mg_of X G aRp, bRp⟩
  have AAh : At K mg "ahead" sAhead ["reader"] fAh _ := ⟨FAh, PySem.W.mg_of X G aAh, bAh⟩
  have AT2 : At K mg "take" sTk2 ["reader", "right"] fT2 _ := ⟨FT2, PySem.W.mg_of X G aT2, bT2⟩
  have AFw : At K mg "first_words" sFw ["floors"] fFw _ := ⟨FFw, PySem.W.mg_of X G aFw, bFw⟩
  have ARr : At K mg "read_row" sRdR ["reader", "floors"] fRr _ := ⟨FRr, PySem.W.mg_of X G aRr, bRr⟩
  have ARd : At K mg "read_deed" sRdD ["reader", "floors"] fRd _ := ⟨FRd, PySem.W.mg_of X G aRd, bRd⟩
  have ARl : At K mg "read_look" sRdL ["reader", "kind", "floors"] fRl _ := ⟨FRl, PySem.W.mg_of X G aRl, bRl⟩
  have ARn : At K mg "read_name" sRdN ["reader"] fRn _ := ⟨FRn, PySem.W.mg_of X G aRn, bRn⟩
  have ARt : At K mg "read_told" sRdT ["reader"] fRt _ := ⟨FRt, PySem.W.mg_of X G aRt, bRt⟩
  have ARe : At K mg "read_thing" sRead ["text"] fRe _ := ⟨FRe, PySem.W.mg_of X G aRe, bRe⟩
  have AWh : At K mg "is_whole" sWhole ["levels"] fWh _ := ⟨FWh, PySem.W.mg_of X G aWh, bWh⟩
  have ADu : At K mg "signs_due" sDue ["levels", "begun"] fDu _ := ⟨FDu, PySem.W.mg_of X G aDu, bDu⟩
  have ABa : At K mg "_law_bag" sBag ["_law_script", "_law_at"] fBa _ := ⟨FBa, PySem.W.mg_of X G aBa, bBa⟩
  have ATa : At K mg "_law_take" sTake ["_law_bag_here", "_law_many"] fTa _ := ⟨FTa, PySem.W.mg_of X G aTa, bTa⟩
  have ATh : At K mg "_law_thing" sThing ["_law_bag_here", "_law_many"] fTh _ := ⟨FTh, PySem.W.mg_of X G aTh, bTh⟩
  have ANa : At K mg "_law_name" sName ["_law_bag_here"] fNa _ := ⟨FNa, PySem.W.mg_of X G aNa, bNa⟩
  have ADe : At K mg "_law_deed" sDeed ["_law_bag_here", "_law_left", "_law_deep"] fDe _ := ⟨FDe, PySem.W.mg_of X G aDe, bDe⟩
  have ADs : At K mg "_law_deeds" sDeeds ["_law_bag_here", "_law_left", "_law_deep"] fDs _ := ⟨FDs, PySem.W.mg_of X G aDs, bDs⟩
  have ATo : At K mg "_law_top" sTop ["_law_bag_here", "_law_many"] fTo _ := ⟨FTo, PySem.W.mg_of X G aTo, bTo⟩
  have ASh : At K mg "_law_shown" sShown ["_law_deed_here"] fSh _ := ⟨FSh, PySem.W.mg_of X G aSh, bSh⟩
  have ALt : At K mg "_law_text" sLText ["_law_deeds_here"] fLt _ := ⟨FLt, PySem.W.mg_of X G aLt, bLt⟩
  have AXit : At K mg "_law_is_thing" sIsTh ["_law_word"] fXit _ := ⟨FXit, PySem.W.mg_of X G aXit, bXit⟩
  have AXlo : At K mg "_law_looked" sLo10 ["_law_word", "_law_floor"] fXlo _ := ⟨FXlo, PySem.W.mg_of X G aXlo, bXlo⟩
  have AXme : At K mg "_law_met" sMe10 ["_law_sign", "_law_word"] fXme _ := ⟨FXme, PySem.W.mg_of X G aXme, bXme⟩
  have AXbr : At K mg "_law_breaks" sBr10 ["_law_text_here"] fXbr _ := ⟨FXbr, PySem.W.mg_of X G aXbr, bXbr⟩
  have AXsp : At K mg "_law_spoilt" sSp10 ["_law_bag_here", "_law_words"] fXsp _ := ⟨FXsp, PySem.W.mg_of X G aXsp, bXsp⟩
  have AXgd : At K mg "_law_good" sGood ["_law_text_here"] fXgd _ := ⟨FXgd, PySem.W.mg_of X G aXgd, bXgd⟩
  have DI : FunD K "__init__" "Thing.__init__" (defArgs sInit) (defBody sInit) (defScope sInit) [.non, .non] [] fI _ := ⟨⟨oI, odI, .ref TI, kVI, dcI, pmI, anI, cdI, ctI, slI, rfl, lI, cI, .inr ⟨by simp, TI, _, [.none, .none], nT, rfl, lT, rfl, .cons rfl (.cons rfl .nil)⟩, .inl rfl⟩, kI⟩
  have b0 := DI.binds1 (ps := ["self", "first", "second"]) 1 0 (by simp) rfl fun T kV doc pm an cdv ct us its h1 h2 => by
    match us, its, h1, h2 with
    | [a], [b, c], _, _ => exact ⟨_, rfl, rfl⟩
  have b3 := DI.binds1 (ps := ["self", "first", "second"]) 3 2 (by simp) rfl fun T kV doc pm an cdv ct us its h1 h2 => by
    match us, its, h1, h2 with
    | [a, b, c], [d, e], _, _ => exact ⟨_, rfl, rfl⟩
  obtain ⟨ds3, hv3, hb3⟩ := b3
  cases hv3
  have T : Txt K mg C := ⟨⟨pg, hd, po, sa⟩, nF, nS, nZ, PySem.W.mg_of X G aC, ⟨tM, PySem.W.mg_of X G aM⟩, PySem.W.mg_none_of X G z_len, PySem.W.mg_none_of X G z_range, PySem.W.mg_none_of X G z_isinstance, ca, cn, ct, cm, neC⟩
  have B : Blt mg := ⟨PySem.W.mg_none_of X G z_len, PySem.W.mg_none_of X G z_range, PySem.W.mg_none_of X G z_abs, PySem.W.mg_none_of X G z_int, PySem.W.mg_none_of X G z_str, PySem.W.mg_none_of X G z_max, PySem.W.mg_none_of X G z_min, PySem.W.mg_none_of X G z_all⟩
  have ml := PySem.W.mg_none_of X G z_list
  have frm : FrmC K w mg := ⟨⟨dF, esF, nFm, PySem.W.mg_of X G aFm, ⟨lFm, litF, lowF⟩, fun kf hkf => by
    simp only [forms, List.mem_cons, List.not_mem_nil, or_false] at hkf
    rcases hkf with rfl | rfl | rfl | rfl | rfl | rfl | rfl
    · exact ⟨_, fm0⟩
    · exact ⟨_, fm1⟩
    · exact ⟨_, fm2⟩
    · exact ⟨_, fm3⟩
    · exact ⟨_, fm4⟩
    · exact ⟨_, fm5⟩
    · exact ⟨_, fm6⟩⟩, ⟨tN1, PySem.W.mg_of X G aN1⟩, ⟨tN2, PySem.W.mg_of X G aN2⟩, ⟨tN3, PySem.W.mg_of X G aN3⟩, (PySem.W.mg_none_of X G z_bool), (PySem.W.mg_none_of X G z_tuple), (PySem.W.mg_none_of X G z_zip), (PySem.W.mg_none_of X G z_enumerate), kii, kib, ktt, kss⟩
  have TP : TxtP K mg CP := ⟨⟨pgP, hdP, poP, saP⟩, nDP, nPP, PySem.W.mg_of X G aP, caP, cn, ct, cmP, neP⟩
  have FPI := fun_mk (st := sPInit) lPI cPI kPI
  have FPL := fun_mk (st := sPLen) lPL cPL kPL
  have FPE := fun_mk (st := sPEq) lPE cPE kPE
  have bPI := FPI.binds (ps := ["self", "deeds"]) fun _ _ _ _ _ _ us hl => match us, hl with | [_, _], _ => rfl
  have bPL := FPL.binds (ps := ["self"]) fun _ _ _ _ _ _ us hl => match us, hl with | [_], _ => rfl
  have bPE := FPE.binds (ps := ["self", "other"]) fun _ _ _ _ _ _ us hl => match us, hl with | [_, _], _ => rfl
  have FPS := fun_mk (st := sPStr) lPS cPS kPS
  have bPS := FPS.binds (ps := ["self"]) fun _ _ _ _ _ _ us hl => match us, hl with | [_], _ => rfl
  have TD : TxtD K mg CD := ⟨⟨pgD, hdD, poD, saD⟩, n0D, n1D, n2D, PySem.W.mg_of X G aCD⟩
  have FDI := fun_mk (st := sRdI) lDI cDI kDI
  have bDI := FDI.binds (ps := ["self", "words"]) fun _ _ _ _ _ _ us hl => match us, hl with | [_, _], _ => rfl
  have RC0 : RdC K mg := ⟨PySem.W.mg_none_of X G z_list, ⟨_, PySem.W.mg_of X G aL⟩, ⟨aLooA, PySem.W.mg_of X G aLoo, fun H => .inr ⟨_, _, nLoo, lLoo, rfl, rfl, by show 2 ≤ sizeLine; decide, .cons ⟨_, rfl⟩ (.cons ⟨_, rfl⟩ .nil)⟩⟩, ⟨aTakA, PySem.W.mg_of X G aTak, fun H => .inr ⟨_, _, nTak, lTak, rfl, rfl, by show 4 ≤ sizeLine; decide, .cons ⟨_, rfl⟩ (.cons ⟨_, rfl⟩ (.cons ⟨_, rfl⟩ (.cons ⟨_, rfl⟩ .nil)))⟩⟩⟩
  refine ⟨PySem.W.fnOf "law" "law" (defArgs sLaw) (defBody sLaw) (defScope sLaw) .none kVLaw dcLaw pmLaw anLaw cdLaw ctLaw, fun s v => .of_eq rfl, fun base _ _ => ?_⟩
  have GI : FnOk P w K mg base CX0 2 fI _ ["self", "first", "second"] (spInit C) := ok_init DI T APa
  have M : Maker P w K mg base C fI _ := ⟨⟨mkC, aI, iI, kc⟩, GI, T.mgC, hb3, b0⟩
  have SE : Spc P w K mg base C "__eq__" 2 ["self", "other"] (spEqT C) := ⟨fEq, _, ⟨aEq, iEq⟩, ok_eq FEq T AAl, bEq⟩
  have SS : Spc P w K mg base C "__str__" 2 ["self"] (spStr C) := ⟨fSt, _, ⟨aSt, iSt⟩, ok_str FSt T ASg, bSt⟩
  have dIN : Def P w K mg base "is_name" 1 ["part"] spIsName := ⟨fIn, _, AIn.mgf, kIn, ok_isName FIn B T frm, bIn⟩
  have dFt : Def P w K mg base "fits" 2 ["part", "sign"] (spFits K C) := ⟨fFt, _, PySem.W.mg_of X G aFt, kFt, ok_fits FFt B T frm dIN, bFt⟩
  have dHF : Def P w K mg base "has_form" 3 ["deed"] (spHasForm K C) := ⟨fHf, _, PySem.W.mg_of X G aHf, kHf, ok_hasForm FHf B T frm dFt, bHf⟩
  have dRI : Def P w K mg base "rows_in" 1 ["deed"] (spRowsIn K C) := ⟨fRi, _, ARi.mgf, kRi, ok_rowsIn FRi frm, bRi⟩
  have dLk : Def P w K mg base "look_through" 13 ["row", "floors", "ends"] (spLook K C 9) := ⟨fLk, _, ALk.mgf, kLk, ok_look FLk ALk.mgf bLk B T frm dHF dRI 9, bLk⟩
  have dLy : Def P w K mg base "lay_out" 11 ["row", "behind", "ends", "plan"] (spLay K C 9) := ⟨fLy, _, ALy.mgf, kLy, ok_lay FLy ALy.mgf bLy B frm dRI 9, bLy⟩
  have MP : MakerP P w K mg base C CP fPI _ := ⟨⟨mkCP, aPI, iPI, kcP⟩, ok_pinit FPI B T frm TP dLk dLy, TP.mgP, bPI⟩
  have DNi : Def P w K mg base "names_in" 1 ["deed"] (spNamesIn K C) := ⟨fNi, _, ANi.mgf, kNi, ok_namesIn FNi frm, bNi⟩
  have gW := (ok_words (P := P) (w := w) (base := base) FRw ARw.mgf bRw FDw ADw.mgf bDw B frm (PySem.W.mg_of X G aL) SS DNi dRI 9).2
  have SPS : Spc P w K mg base CP "__str__" 24 ["self"] (spPStr K C CP) := ⟨fPS, _, ⟨aPS, iPS⟩, ok_pstr FPS TP FRw ARw.mgf bRw gW, bPS⟩
  have FN := fun_mk (st := sNt) lN cN kfN
  have bN := FN.binds (ps := ["self", "place"]) fun _ _ _ _ _ _ us hl => match us, hl with | [_, _], _ => rfl
  have ntC : NtC K mg N := ⟨PySem.W.mg_of X G aN, ⟨⟨nmN, qN, NN, bsN, _, snN, subN, abN, colN, ddN, m0N, m1N, m2N, m3N, m5N, xN, by decide +kernel⟩, saN, exN, tyN, kN⟩, plN, PySem.W.mg_none_of X G z_ValueError, vV⟩
  have NM : NtM P w K mg base N fN _ := ⟨ntC, iN, tfN, ok_nt FN ntC, bN⟩
  have HN := hot_nt (P := P) (w := w) (base := base) FN ntC
  have exm : PySem.W.exmOne K (.ref N) (.ref N) = some true := PySem.W.exm_ref exN hdN tyN scN
  have FG := fun_mk (st := sNtG) lN cN kfN
  have gT : GexT K N := ⟨PySem.F.excBase_ValueError, PySem.F.store_ValueError, ⟨nmN, qN, NN, bsN, _, snN, subN, abN, colN, ddN, m0N, m1N, m2N, m3N, m5N, xN, fun _ => rfl⟩, ovN, saN, exN, tyN, kN⟩
  have ntg : NtgC K mg N := ⟨PySem.W.mg_of X G aN, gT, plN, PySem.W.mg_none_of X G z_ValueError, vV⟩
  have GM : NtgM P w K mg base N fN _ := ⟨ntg, iN, tfN, ok_ntg FG ntg, bN⟩
  have gRe := ok_read4N (P := P) (w := w) (base := base) FRe T (PySem.W.mg_none_of X G z_enumerate) M GM AWh ADu
  have DAh : Def P w K mg base "ahead" 1 ["reader"] (spAhead CD) := ⟨fAh, _, AAh.mgf, kAh, ok_ahead FAh B TD, bAh⟩
  have DFw : Def P w K mg base "first_words" 1 ["floors"] spFw := ⟨fFw, _, AFw.mgf, kFw, ok_fw FFw RC0 frm, bFw⟩
  have H2 : DefH P w K mg base "take" 3 ["reader", "right"] (spTkH K CD N) fT2 _ := ⟨ok_takeH FT2 TD NM DAh, AT2.mgf, kT2, bT2⟩
  have HNm : DefH P w K mg base "read_name" 4 ["reader"] (spRdNH CD N) fRn _ := ⟨ok_rdNH FRn RC0 H2, ARn.mgf, kRn, bRn⟩
  have HRt : DefH P w K mg base "read_told" 5 ["reader"] (spRdTH C CD N) fRt _ := ⟨ok_rdTH FRt TD nCD NM HN exm DAh gRe ARe.mgf kRe bRe, ARt.mgf, kRt, bRt⟩
  have gRr := (ok_rdAllH (P := P) (w := w) (base := base) FRr FRd FRl RC0 frm TD nCD DAh DFw H2 HNm HRt ARr.mgf bRr ARd.mgf bRd ARl.mgf bRl 8).2
  have HRr : DefH P w K mg base "read_row" 32 ["reader", "floors"] (spRdRH K C CD N 8) fRr _ := ⟨gRr, ARr.mgf, kRr, bRr⟩
  have MD : MkO P w K mg base "Reader" CD fDI _ ["self", "words"] rdL 1 := ⟨⟨mkD, aDI, iDI, kcD⟩, ok_rdinit FDI TD, TD.mgD, bDI⟩
  have gRp := ok_rdPH (P := P) (w := w) (base := base) FRp B TD NM MD MP HRr
  have GC : GdC K mg N := ⟨ntC, ⟨gaN, ggN, exN, hdN⟩, ⟨icN, gaN, ggN, exN, caN, cn, ct, cmN⟩, exm, PySem.W.mg_none_of X G z_bool, veN, kib, ⟨n1, n2, n3, n4, n5, n6, PySem.W.mg_of X G o1, PySem.W.mg_of X G o2, PySem.W.mg_of X G o3, PySem.W.mg_of X G o4, PySem.W.mg_of X G o5, PySem.W.mg_of X G o6, kaN⟩⟩
  have mtu := PySem.W.mg_none_of X G z_tuple
  have DTk : Def P w K mg base "_law_take" 1 ["_law_bag_here", "_law_many"] spTake := ⟨fTa, _, ATa.mgf, kTa, ok_take FTa, bTa⟩
  have DTh : Def P w K mg base "_law_thing" 4 ["_law_bag_here", "_law_many"] (spThing C) := ⟨fTh, _, ATh.mgf, kTh, ok_thing FTh B M ATa, bTh⟩
  have DNm : Def P w K mg base "_law_name" 2 ["_law_bag_here"] spName := ⟨fNa, _, ANa.mgf, kNa, ok_name FNa DTk, bNa⟩
  have DDs : Def P w K mg base "_law_deeds" 14 ["_law_bag_here", "_law_left", "_law_deep"] (spDeeds K C 5) := ⟨fDs, _, ADs.mgf, kDs, ok_deeds FDs FDe B frm DTk DNm DTh ADs.mgf bDs ADe.mgf bDe 5, bDs⟩
  have DTo : Def P w K mg base "_law_top" 15 ["_law_bag_here", "_law_many"] (spTop K C) := ⟨fTo, _, ATo.mgf, kTo, ok_top FTo DDs, bTo⟩
  have DLt : Def P w K mg base "_law_text" 40 ["_law_deeds_here"] (spLText K C 9) := ⟨fLt, _, ALt.mgf, kLt, (ok_texts FLt ALt.mgf bLt FSh ASh.mgf bSh B T frm SS SE kti kCi 9 (Nat.le_refl _)).2, bLt⟩
  have DIt : Def P w K mg base "_law_is_thing" 1 ["_law_word"] spIt := ⟨fXit, _, AXit.mgf, kXit, ok_isTh FXit B, bXit⟩
  have DLo : Def P w K mg base "_law_looked" 1 ["_law_word", "_law_floor"] (spLo10 K) := ⟨fXlo, _, AXlo.mgf, kXlo, ok_lo10 FXlo B, bXlo⟩
  have DMe : Def P w K mg base "_law_met" 2 ["_law_sign", "_law_word"] (spMe10 K) := ⟨fXme, _, AXme.mgf, kXme, ok_me10 FXme B T mtu kst ktt DLo DIt, bXme⟩
  have DBr : Def P w K mg base "_law_breaks" 3 ["_law_text_here"] spBr10 := ⟨fXbr, _, AXbr.mgf, kXbr, ok_br10 FXbr B T mtu kst ktt DMe, bXbr⟩
  have DSp : Def P w K mg base "_law_spoilt" 2 ["_law_bag_here", "_law_words"] spSp10 := ⟨fXsp, _, AXsp.mgf, kXsp, ok_sp10 FXsp B T DTk, bXsp⟩
  have DGd : Def P w K mg base "_law_good" 34 ["_law_text_here"] spGd10 := ⟨fXgd, _, AXgd.mgf, kXgd, ok_good FXgd B T SPS DBr gRp ARp.mgf kRp bRp GC, bXgd⟩
  exact ok_law FLaw B ⟨fBa, _, ABa.mgf, kBa, ok_bag FBa B, bBa⟩ DTk DTo DLt DSp DGd
end Js
set_option Elab.async false
set_option linter.all false
set_option maxRecDepth 100000
set_option maxHeartbeats 0
namespace Js
open PySem PySem.Spec PyProof.Rows L2
theorem hfacts {P : Program} {w : World} {K : PySem.W.Frag} {h : Heap} {mg : Str → Option Value} {fa : Addr} (X : K.In h) (G : h.Ns mainGlobals mg) (hfa : mg "law" = some (.ref fa)) (cT : He.SaysT [] hfn hts w K) (cX : hexs K = true)
    : ∃ fd : FuncData, (∀ (s : Shared) (v : Value), BindsTo s fd ⟨[v], []⟩ [("_law_script", v)]) ∧ ∀ base : Heap, K.In base → base.Ns mainGlobals mg → FnOk P w K mg base CX0 41 fa fd ["_law_script"] (spLaw K) := by
  have cD := cT.d
  have cE : (hex.all fun f => f K) = true := cX
  have aC : PySem.W.nsIn K mainGlobals "Thing" = some (some (.ref (He.ga K "Thing"))) := of_decide_eq_true (ex_at cE 0 rfl)
  have pg : PySem.W.plainGet K (He.ga K "Thing") Str.empty = true := of_decide_eq_true (ex_at cE 1 rfl)
  have hd : PySem.W.hasDictIn K (He.ga K "Thing") = true := of_decide_eq_true (ex_at cE 2 rfl)
  have po : PySem.W.plainOver K (He.ga K "Thing") = true := of_decide_eq_true (ex_at cE 3 rfl)
  have sa : PySem.W.findIn K (.ref (He.ga K "Thing")) "__setattr__" = some (some (.builtin "object.__setattr__")) := of_decide_eq_true (ex_at cE 4 rfl)
  have mkC : PySem.W.makesIn K (He.ga K "Thing") = true := of_decide_eq_true (ex_at cE 5 rfl)
  have kc : PySem.W.keepIn K (.ref (He.ga K "Thing")) = true := of_decide_eq_true (ex_at cE 6 rfl)
  have nF : PySem.W.findIn K (.ref (He.ga K "Thing")) "first" = some none := of_decide_eq_true (ex_at cE 7 rfl)
  have nS : PySem.W.findIn K (.ref (He.ga K "Thing")) "second" = some none := of_decide_eq_true (ex_at cE 8 rfl)
  have nZ : PySem.W.findIn K (.ref (He.ga K "Thing")) "size" = some none := of_decide_eq_true (ex_at cE 9 rfl)
  have ca : PySem.W.findIn K (.ref (He.ga K "Thing")) "__class__" = some (some (.builtin "object.__class__")) := of_decide_eq_true (ex_at cE 10 rfl)
  have cn : PySem.W.specialIn K (.builtin "object.__class__") "__get__" = some (some (.builtin "getset_descriptor.__get__")) := of_decide_eq_true (ex_at cE 11 rfl)
  have ct : PySem.W.takesIn K (.builtin "object.__class__") = some true := of_decide_eq_true (ex_at cE 12 rfl)
  have cm : PySem.W.mroIn K (He.ga K "Thing") (.type "object") = some true := of_decide_eq_true (ex_at cE 13 rfl)
  have neC : PySem.W.findIn K (.ref (He.ga K "Thing")) "__ne__" = some (some (.builtin "object.__ne__")) := of_decide_eq_true (ex_at cE 14 rfl)
  obtain ⟨_, aM⟩ := int_raw (ex_at cE 15 rfl)
  have aI : PySem.W.findIn K (.ref (He.ga K "Thing")) "__init__" = some (some (.ref (He.ma K (He.ga K "Thing") "__init__"))) := of_decide_eq_true (ex_at cE 16 rfl)
  have iI : PySem.W.isFn K (.ref (He.ma K (He.ga K "Thing") "__init__")) = true := of_decide_eq_true (ex_at cE 17 rfl)
  obtain ⟨_, _, _, _, _, _, _, _, _, _, _, _, its_lT, _, _, lI, cI, lT, vv⟩ := fn_rawD cD 0 ("Thing", some "__init__") "__init__" "Thing.__init__" sInit (.non) [.non] rfl
  obtain ⟨l_lT⟩ := its_lT
  change Vals _ l_lT at vv
  obtain _ | ⟨h_lT0, v_lT0⟩ := vv
  obtain rfl := h_lT0
  obtain _ | ⟨h_lT1, v_lT1⟩ := v_lT0
  obtain rfl := h_lT1
  cases v_lT1
  have kI : PySem.W.keepIn K (.ref (He.ma K (He.ga K "Thing") "__init__")) = true := of_decide_eq_true (ex_at cE 18 rfl)
  have aEq : PySem.W.findIn K (.ref (He.ga K "Thing")) "__eq__" = some (some (.ref (He.ma K (He.ga K "Thing") "__eq__"))) := of_decide_eq_true (ex_at cE 19 rfl)
  have iEq : PySem.W.isFn K (.ref (He.ma K (He.ga K "Thing") "__eq__")) = true := of_decide_eq_true (ex_at cE 20 rfl)
  obtain ⟨_, _, _, _, _, _, _, _, _, lEq, cEq⟩ := fn_raw cD 1 ("Thing", some "__eq__") "__eq__" "Thing.__eq__" sEq rfl
  have kEq : PySem.W.keepIn K (.ref (He.ma K (He.ga K "Thing") "__eq__")) = true := of_decide_eq_true (ex_at cE 21 rfl)
  have aSt : PySem.W.findIn K (.ref (He.ga K "Thing")) "__str__" = some (some (.ref (He.ma K (He.ga K "Thing") "__str__"))) := of_decide_eq_true (ex_at cE 22 rfl)
  have iSt : PySem.W.isFn K (.ref (He.ma K (He.ga K "Thing") "__str__")) = true := of_decide_eq_true (ex_at cE 23 rfl)
  obtain ⟨_, _, _, _, _, _, _, _, _, lSt, cSt⟩ := fn_raw cD 2 ("Thing", some "__str__") "__str__" "Thing.__str__" sStr rfl
  have kSt : PySem.W.keepIn K (.ref (He.ma K (He.ga K "Thing") "__str__")) = true := of_decide_eq_true (ex_at cE 24 rfl)
  have aPa : PySem.W.nsIn K mainGlobals "pairs_in" = some (some (.ref (He.ga K "pairs_in"))) := of_decide_eq_true (ex_at cE 25 rfl)
  obtain ⟨_, _, _, _, _, _, _, _, _, lPa, cPa⟩ := fn_raw cD 3 ("pairs_in", none) "pairs_in" "pairs_in" sPairs rfl
  have kPa : PySem.W.keepIn K (.ref (He.ga K "pairs_in")) = true := of_decide_eq_true (ex_at cE 26 rfl)
  have aAl : PySem.W.nsIn K mainGlobals "alike" = some (some (.ref (He.ga K "alike"))) := of_decide_eq_true (ex_at cE 27 rfl)
  obtain ⟨_, _, _, _, _, _, _, _, _, lAl, cAl⟩ := fn_raw cD 4 ("alike", none) "alike" "alike" sAlike rfl
  have kAl : PySem.W.keepIn K (.ref (He.ga K "alike")) = true := of_decide_eq_true (ex_at cE 28 rfl)
  have aSg : PySem.W.nsIn K mainGlobals "signs" = some (some (.ref (He.ga K "signs"))) := of_decide_eq_true (ex_at cE 29 rfl)
  obtain ⟨_, _, _, _, _, _, _, _, _, lSg, cSg⟩ := fn_raw cD 5 ("signs", none) "signs" "signs" sSigns rfl
  have kSg : PySem.W.keepIn K (.ref (He.ga K "signs")) = true := of_decide_eq_true (ex_at cE 30 rfl)
  have aIn : PySem.W.nsIn K mainGlobals "is_name" = some (some (.ref (He.ga K "is_name"))) := of_decide_eq_true (ex_at cE 31 rfl)
  obtain ⟨_, _, _, _, _, _, _, _, _, lIn, cIn⟩ := fn_raw cD 6 ("is_name", none) "is_name" "is_name" sIsName rfl
  have kIn : PySem.W.keepIn K (.ref (He.ga K "is_name")) = true := of_decide_eq_true (ex_at cE 32 rfl)
  have aFt : PySem.W.nsIn K mainGlobals "fits" = some (some (.ref (He.ga K "fits"))) := of_decide_eq_true (ex_at cE 33 rfl)
  obtain ⟨_, _, _, _, _, _, _, _, _, lFt, cFt⟩ := fn_raw cD 7 ("fits", none) "fits" "fits" sFits rfl
  have kFt : PySem.W.keepIn K (.ref (He.ga K "fits")) = true := of_decide_eq_true (ex_at cE 34 rfl)
  have aHf : PySem.W.nsIn K mainGlobals "has_form" = some (some (.ref (He.ga K "has_form"))) := of_decide_eq_true (ex_at cE 35 rfl)
  obtain ⟨_, _, _, _, _, _, _, _, _, lHf, cHf⟩ := fn_raw cD 8 ("has_form", none) "has_form" "has_form" sHasForm rfl
  have kHf : PySem.W.keepIn K (.ref (He.ga K "has_form")) = true := of_decide_eq_true (ex_at cE 36 rfl)
  have aRi : PySem.W.nsIn K mainGlobals "rows_in" = some (some (.ref (He.ga K "rows_in"))) := of_decide_eq_true (ex_at cE 37 rfl)
  obtain ⟨_, _, _, _, _, _, _, _, _, lRi, cRi⟩ := fn_raw cD 9 ("rows_in", none) "rows_in" "rows_in" sRowsIn rfl
  have kRi : PySem.W.keepIn K (.ref (He.ga K "rows_in")) = true := of_decide_eq_true (ex_at cE 38 rfl)
  have aLk : PySem.W.nsIn K mainGlobals "look_through" = some (some (.ref (He.ga K "look_through"))) := of_decide_eq_true (ex_at cE 39 rfl)
  obtain ⟨_, _, _, _, _, _, _, _, _, lLk, cLk⟩ := fn_raw cD 10 ("look_through", none) "look_through" "look_through" sLook rfl
  have kLk : PySem.W.keepIn K (.ref (He.ga K "look_through")) = true := of_decide_eq_true (ex_at cE 40 rfl)
  have aLy : PySem.W.nsIn K mainGlobals "lay_out" = some (some (.ref (He.ga K "lay_out"))) := of_decide_eq_true (ex_at cE 41 rfl)
  obtain ⟨_, _, _, _, _, _, _, _, _, lLy, cLy⟩ := fn_raw cD 11 ("lay_out", none) "lay_out" "lay_out" sLay rfl
  have kLy : PySem.W.keepIn K (.ref (He.ga K "lay_out")) = true := of_decide_eq_true (ex_at cE 42 rfl)
  have aNi : PySem.W.nsIn K mainGlobals "names_in" = some (some (.ref (He.ga K "names_in"))) := of_decide_eq_true (ex_at cE 43 rfl)
  obtain ⟨_, _, _, _, _, _, _, _, _, lNi, cNi⟩ := fn_raw cD 12 ("names_in", none) "names_in" "names_in" sNamesIn rfl
  have kNi : PySem.W.keepIn K (.ref (He.ga K "names_in")) = true := of_decide_eq_true (ex_at cE 44 rfl)
  have aRw : PySem.W.nsIn K mainGlobals "row_words" = some (some (.ref (He.ga K "row_words"))) := of_decide_eq_true (ex_at cE 45 rfl)
  obtain ⟨_, _, _, _, _, _, _, _, _, lRw, cRw⟩ := fn_raw cD 13 ("row_words", none) "row_words" "row_words" sRowW rfl
  have kRw : PySem.W.keepIn K (.ref (He.ga K "row_words")) = true := of_decide_eq_true (ex_at cE 46 rfl)
  have aDw : PySem.W.nsIn K mainGlobals "deed_words" = some (some (.ref (He.ga K "deed_words"))) := of_decide_eq_true (ex_at cE 47 rfl)
  obtain ⟨_, _, _, _, _, _, _, _, _, lDw, cDw⟩ := fn_raw cD 14 ("deed_words", none) "deed_words" "deed_words" sDeedW rfl
  have kDw : PySem.W.keepIn K (.ref (He.ga K "deed_words")) = true := of_decide_eq_true (ex_at cE 48 rfl)
  have aRp : PySem.W.nsIn K mainGlobals "read_program" = some (some (.ref (He.ga K "read_program"))) := of_decide_eq_true (ex_at cE 49 rfl)
  obtain ⟨_, _, _, _, _, _, _, _, _, lRp, cRp⟩ := fn_raw cD 15 ("read_program", none) "read_program" "read_program" sRdP rfl
  have kRp : PySem.W.keepIn K (.ref (He.ga K "read_program")) = true := of_decide_eq_true (ex_at cE 50 rfl)
  have aAh : PySem.W.nsIn K mainGlobals "ahead" = some (some (.ref (He.ga K "ahead"))) := of_decide_eq_true (ex_at cE 51 rfl)
  obtain ⟨_, _, _, _, _, _, _, _, _, lAh, cAh⟩ := fn_raw cD 16 ("ahead", none) "ahead" "ahead" sAhead rfl
  have kAh : PySem.W.keepIn K (.ref (He.ga K "ahead")) = true := of_decide_eq_true (ex_at cE 52 rfl)
  have aT2 : PySem.W.nsIn K mainGlobals "take" = some (some (.ref (He.ga K "take"))) := of_decide_eq_true (ex_at cE 53 rfl)
  obtain ⟨_, _, _, _, _, _, _, _, _, lT2, cT2⟩ := fn_raw cD 17 ("take", none) "take" "take" sTk2 rfl
  have kT2 : PySem.W.keepIn K (.ref (He.ga K "take")) = true := of_decide_eq_true (ex_at cE 54 rfl)
  have aFw : PySem.W.nsIn K mainGlobals "first_words" = some (some (.ref (He.ga K "first_words"))) := of_decide_eq_true (ex_at cE 55 rfl)
  obtain ⟨_, _, _, _, _, _, _, _, _, lFw, cFw⟩ := fn_raw cD 18 ("first_words", none) "first_words" "first_words" sFw rfl
  have kFw : PySem.W.keepIn K (.ref (He.ga K "first_words")) = true := of_decide_eq_true (ex_at cE 56 rfl)
  have aRr : PySem.W.nsIn K mainGlobals "read_row" = some (some (.ref (He.ga K "read_row"))) := of_decide_eq_true (ex_at cE 57 rfl)
  obtain ⟨_, _, _, _, _, _, _, _, _, lRr, cRr⟩ := fn_raw cD 19 ("read_row", none) "read_row" "read_row" sRdR rfl
  have kRr : PySem.W.keepIn K (.ref (He.ga K "read_row")) = true := of_decide_eq_true (ex_at cE 58 rfl)
  have aRd : PySem.W.nsIn K mainGlobals "read_deed" = some (some (.ref (He.ga K "read_deed"))) := of_decide_eq_true (ex_at cE 59 rfl)
  obtain ⟨_, _, _, _, _, _, _, _, _, lRd, cRd⟩ := fn_raw cD 20 ("read_deed", none) "read_deed" "read_deed" sRdD rfl
  have kRd : PySem.W.keepIn K (.ref (He.ga K "read_deed")) = true := of_decide_eq_true (ex_at cE 60 rfl)
  have aRl : PySem.W.nsIn K mainGlobals "read_look" = some (some (.ref (He.ga K "read_look"))) := of_decide_eq_true (ex_at cE 61 rfl)
  obtain ⟨_, _, _, _, _, _, _, _, _, lRl, cRl⟩ := fn_raw cD 21 ("read_look", none) "read_look" "read_look" sRdL rfl
  have kRl : PySem.W.keepIn K (.ref (He.ga K "read_look")) = true := of_decide_eq_true (ex_at cE 62 rfl)
  have aRn : PySem.W.nsIn K mainGlobals "read_name" = some (some (.ref (He.ga K "read_name"))) := of_decide_eq_true (ex_at cE 63 rfl)
  obtain ⟨_, _, _, _, _, _, _, _, _, lRn, cRn⟩ := fn_raw cD 22 ("read_name", none) "read_name" "read_name" sRdN rfl
  have kRn : PySem.W.keepIn K (.ref (He.ga K "read_name")) = true := of_decide_eq_true (ex_at cE 64 rfl)
  have aRt : PySem.W.nsIn K mainGlobals "read_told" = some (some (.ref (He.ga K "read_told"))) := of_decide_eq_true (ex_at cE 65 rfl)
  obtain ⟨_, _, _, _, _, _, _, _, _, lRt, cRt⟩ := fn_raw cD 23 ("read_told", none) "read_told" "read_told" sRdT rfl
  have kRt : PySem.W.keepIn K (.ref (He.ga K "read_told")) = true := of_decide_eq_true (ex_at cE 66 rfl)
  have aRe : PySem.W.nsIn K mainGlobals "read_thing" = some (some (.ref (He.ga K "read_thing"))) := of_decide_eq_true (ex_at cE 67 rfl)
  obtain ⟨_, _, _, _, _, _, _, _, _, lRe, cRe⟩ := fn_raw cD 24 ("read_thing", none) "read_thing" "read_thing" sRead rfl
  have kRe : PySem.W.keepIn K (.ref (He.ga K "read_thing")) = true := of_decide_eq_true (ex_at cE 68 rfl)
  have aWh : PySem.W.nsIn K mainGlobals "is_whole" = some (some (.ref (He.ga K "is_whole"))) := of_decide_eq_true (ex_at cE 69 rfl)
  obtain ⟨_, _, _, _, _, _, _, _, _, lWh, cWh⟩ := fn_raw cD 25 ("is_whole", none) "is_whole" "is_whole" sWhole rfl
  have kWh : PySem.W.keepIn K (.ref (He.ga K "is_whole")) = true := of_decide_eq_true (ex_at cE 70 rfl)
  have aDu : PySem.W.nsIn K mainGlobals "signs_due" = some (some (.ref (He.ga K "signs_due"))) := of_decide_eq_true (ex_at cE 71 rfl)
  obtain ⟨_, _, _, _, _, _, _, _, _, lDu, cDu⟩ := fn_raw cD 26 ("signs_due", none) "signs_due" "signs_due" sDue rfl
  have kDu : PySem.W.keepIn K (.ref (He.ga K "signs_due")) = true := of_decide_eq_true (ex_at cE 72 rfl)
  have aBa : PySem.W.nsIn K mainGlobals "_law_bag" = some (some (.ref (He.ga K "_law_bag"))) := of_decide_eq_true (ex_at cE 73 rfl)
  obtain ⟨_, _, _, _, _, _, _, _, _, lBa, cBa⟩ := fn_raw cD 27 ("_law_bag", none) "_law_bag" "_law_bag" sBag rfl
  have kBa : PySem.W.keepIn K (.ref (He.ga K "_law_bag")) = true := of_decide_eq_true (ex_at cE 74 rfl)
  have aTa : PySem.W.nsIn K mainGlobals "_law_take" = some (some (.ref (He.ga K "_law_take"))) := of_decide_eq_true (ex_at cE 75 rfl)
  obtain ⟨_, _, _, _, _, _, _, _, _, lTa, cTa⟩ := fn_raw cD 28 ("_law_take", none) "_law_take" "_law_take" sTake rfl
  have kTa : PySem.W.keepIn K (.ref (He.ga K "_law_take")) = true := of_decide_eq_true (ex_at cE 76 rfl)
  have aTh : PySem.W.nsIn K mainGlobals "_law_thing" = some (some (.ref (He.ga K "_law_thing"))) := of_decide_eq_true (ex_at cE 77 rfl)
  obtain ⟨_, _, _, _, _, _, _, _, _, lTh, cTh⟩ := fn_raw cD 29 ("_law_thing", none) "_law_thing" "_law_thing" sThing rfl
  have kTh : PySem.W.keepIn K (.ref (He.ga K "_law_thing")) = true := of_decide_eq_true (ex_at cE 78 rfl)
  have aNa : PySem.W.nsIn K mainGlobals "_law_name" = some (some (.ref (He.ga K "_law_name"))) := of_decide_eq_true (ex_at cE 79 rfl)
  obtain ⟨_, _, _, _, _, _, _, _, _, lNa, cNa⟩ := fn_raw cD 30 ("_law_name", none) "_law_name" "_law_name" sName rfl
  have kNa : PySem.W.keepIn K (.ref (He.ga K "_law_name")) = true := of_decide_eq_true (ex_at cE 80 rfl)
  have aDe : PySem.W.nsIn K mainGlobals "_law_deed" = some (some (.ref (He.ga K "_law_deed"))) := of_decide_eq_true (ex_at cE 81 rfl)
  obtain ⟨_, _, _, _, _, _, _, _, _, lDe, cDe⟩ := fn_raw cD 31 ("_law_deed", none) "_law_deed" "_law_deed" sDeed rfl
  have kDe : PySem.W.keepIn K (.ref (He.ga K "_law_deed")) = true := of_decide_eq_true (ex_at cE 82 rfl)
  have aDs : PySem.W.nsIn K mainGlobals "_law_deeds" = some (some (.ref (He.ga K "_law_deeds"))) := of_decide_eq_true (ex_at cE 83 rfl)
  obtain ⟨_, _, _, _, _, _, _, _, _, lDs, cDs⟩ := fn_raw cD 32 ("_law_deeds", none) "_law_deeds" "_law_deeds" sDeeds rfl
  have kDs : PySem.W.keepIn K (.ref (He.ga K "_law_deeds")) = true := of_decide_eq_true (ex_at cE 84 rfl)
  have aTo : PySem.W.nsIn K mainGlobals "_law_top" = some (some (.ref (He.ga K "_law_top"))) := of_decide_eq_true (ex_at cE 85 rfl)
  obtain ⟨_, _, _, _, _, _, _, _, _, lTo, cTo⟩ := fn_raw cD 33 ("_law_top", none) "_law_top" "_law_top" sTop rfl
  have kTo : PySem.W.keepIn K (.ref (He.ga K "_law_top")) = true := of_decide_eq_true (ex_at cE 86 rfl)
  have aSh : PySem.W.nsIn K mainGlobals "_law_shown" = some (some (.ref (He.ga K "_law_shown"))) := of_decide_eq_true (ex_at cE 87 rfl)
  obtain ⟨_, _, _, _, _, _, _, _, _, lSh, cSh⟩ := fn_raw cD 34 ("_law_shown", none) "_law_shown" "_law_shown" sShown rfl
  have kSh : PySem.W.keepIn K (.ref (He.ga K "_law_shown")) = true := of_decide_eq_true (ex_at cE 88 rfl)
  have aLt : PySem.W.nsIn K mainGlobals "_law_text" = some (some (.ref (He.ga K "_law_text"))) := of_decide_eq_true (ex_at cE 89 rfl)
  obtain ⟨_, _, _, _, _, _, _, _, _, lLt, cLt⟩ := fn_raw cD 35 ("_law_text", none) "_law_text" "_law_text" sLText rfl
  have kLt : PySem.W.keepIn K (.ref (He.ga K "_law_text")) = true := of_decide_eq_true (ex_at cE 90 rfl)
  have aXit : PySem.W.nsIn K mainGlobals "_law_is_thing" = some (some (.ref (He.ga K "_law_is_thing"))) := of_decide_eq_true (ex_at cE 91 rfl)
  obtain ⟨_, _, _, _, _, _, _, _, _, lXit, cXit⟩ := fn_raw cD 36 ("_law_is_thing", none) "_law_is_thing" "_law_is_thing" sIsTh rfl
  have kXit : PySem.W.keepIn K (.ref (He.ga K "_law_is_thing")) = true := of_decide_eq_true (ex_at cE 92 rfl)
  have aXlo : PySem.W.nsIn K mainGlobals "_law_looked" = some (some (.ref (He.ga K "_law_looked"))) := of_decide_eq_true (ex_at cE 93 rfl)
  obtain ⟨_, _, _, _, _, _, _, _, _, lXlo, cXlo⟩ := fn_raw cD 37 ("_law_looked", none) "_law_looked" "_law_looked" sLo10 rfl
  have kXlo : PySem.W.keepIn K (.ref (He.ga K "_law_looked")) = true := of_decide_eq_true (ex_at cE 94 rfl)
  have aXme : PySem.W.nsIn K mainGlobals "_law_met" = some (some (.ref (He.ga K "_law_met"))) := of_decide_eq_true (ex_at cE 95 rfl)
  obtain ⟨_, _, _, _, _, _, _, _, _, lXme, cXme⟩ := fn_raw cD 38 ("_law_met", none) "_law_met" "_law_met" sMe10 rfl
  have kXme : PySem.W.keepIn K (.ref (He.ga K "_law_met")) = true := of_decide_eq_true (ex_at cE 96 rfl)
  have aXbr : PySem.W.nsIn K mainGlobals "_law_breaks" = some (some (.ref (He.ga K "_law_breaks"))) := of_decide_eq_true (ex_at cE 97 rfl)
  obtain ⟨_, _, _, _, _, _, _, _, _, lXbr, cXbr⟩ := fn_raw cD 39 ("_law_breaks", none) "_law_breaks" "_law_breaks" sBr10 rfl
  have kXbr : PySem.W.keepIn K (.ref (He.ga K "_law_breaks")) = true := of_decide_eq_true (ex_at cE 98 rfl)
  have aXsp : PySem.W.nsIn K mainGlobals "_law_spoilt" = some (some (.ref (He.ga K "_law_spoilt"))) := of_decide_eq_true (ex_at cE 99 rfl)
  obtain ⟨_, _, _, _, _, _, _, _, _, lXsp, cXsp⟩ := fn_raw cD 40 ("_law_spoilt", none) "_law_spoilt" "_law_spoilt" sSp10 rfl
  have kXsp : PySem.W.keepIn K (.ref (He.ga K "_law_spoilt")) = true := of_decide_eq_true (ex_at cE 100 rfl)
  have aXgd : PySem.W.nsIn K mainGlobals "_law_good" = some (some (.ref (He.ga K "_law_good"))) := of_decide_eq_true (ex_at cE 101 rfl)
  obtain ⟨_, _, _, _, _, _, _, _, _, lXgd, cXgd⟩ := fn_raw cD 41 ("_law_good", none) "_law_good" "_law_good" sGood rfl
  have kXgd : PySem.W.keepIn K (.ref (He.ga K "_law_good")) = true := of_decide_eq_true (ex_at cE 102 rfl)
  have aLaw : PySem.W.nsIn K mainGlobals "law" = some (some (.ref (He.ga K "law"))) := of_decide_eq_true (ex_at cE 103 rfl)
  obtain ⟨_, _, _, _, _, _, _, _, _, lLaw, cLaw⟩ := fn_raw cD 42 ("law", none) "law" "law" sLaw rfl
  have kLaw : PySem.W.keepIn K (.ref (He.ga K "law")) = true := of_decide_eq_true (ex_at cE 104 rfl)
  have aP : PySem.W.nsIn K mainGlobals "Program" = some (some (.ref (He.ga K "Program"))) := of_decide_eq_true (ex_at cE 105 rfl)
  have pgP : PySem.W.plainGet K (He.ga K "Program") Str.empty = true := of_decide_eq_true (ex_at cE 106 rfl)
  have hdP : PySem.W.hasDictIn K (He.ga K "Program") = true := of_decide_eq_true (ex_at cE 107 rfl)
  have poP : PySem.W.plainOver K (He.ga K "Program") = true := of_decide_eq_true (ex_at cE 108 rfl)
  have saP : PySem.W.findIn K (.ref (He.ga K "Program")) "__setattr__" = some (some (.builtin "object.__setattr__")) := of_decide_eq_true (ex_at cE 109 rfl)
  have mkCP : PySem.W.makesIn K (He.ga K "Program") = true := of_decide_eq_true (ex_at cE 110 rfl)
  have kcP : PySem.W.keepIn K (.ref (He.ga K "Program")) = true := of_decide_eq_true (ex_at cE 111 rfl)
  have nDP : PySem.W.findIn K (.ref (He.ga K "Program")) "deeds" = some none := of_decide_eq_true (ex_at cE 112 rfl)
  have nPP : PySem.W.findIn K (.ref (He.ga K "Program")) "plan" = some none := of_decide_eq_true (ex_at cE 113 rfl)
  have caP : PySem.W.findIn K (.ref (He.ga K "Program")) "__class__" = some (some (.builtin "object.__class__")) := of_decide_eq_true (ex_at cE 114 rfl)
  have cmP : PySem.W.mroIn K (He.ga K "Program") (.type "object") = some true := of_decide_eq_true (ex_at cE 115 rfl)
  have neP : PySem.W.findIn K (.ref (He.ga K "Program")) "__ne__" = some (some (.builtin "object.__ne__")) := of_decide_eq_true (ex_at cE 116 rfl)
  have aFm : PySem.W.nsIn K mainGlobals "FORMS" = some (some (.ref (He.ga K "FORMS"))) := of_decide_eq_true (ex_at cE 117 rfl)
  obtain ⟨_, _, ⟨lFm, litF, lowF⟩, ky_lFm⟩ := tab_keys cT 0 (t := (fun K => He.ga K "FORMS", ["told", "first", "second", "pair", "same", "while", "if"])) rfl
  obtain ⟨_, aN1⟩ := int_raw (ex_at cE 118 rfl)
  obtain ⟨_, aN2⟩ := int_raw (ex_at cE 119 rfl)
  obtain ⟨_, aN3⟩ := int_raw (ex_at cE 120 rfl)
  have kii : PySem.W.kitOne K (.type "int") (.type "int") = some true := of_decide_eq_true (ex_at cE 121 rfl)
  have kib : PySem.W.kitOne K (.type "int") (.type "bool") = some false := of_decide_eq_true (ex_at cE 122 rfl)
  have ktt : PySem.W.kitOne K (.type "tuple") (.type "tuple") = some true := of_decide_eq_true (ex_at cE 123 rfl)
  have kss : PySem.W.kitOne K (.type "str") (.type "str") = some true := of_decide_eq_true (ex_at cE 124 rfl)
  obtain ⟨_, fm0⟩ := str_raw (ex_at cE 125 rfl)
  obtain ⟨_, fm1⟩ := str_raw (ex_at cE 126 rfl)
  obtain ⟨_, fm2⟩ := str_raw (ex_at cE 127 rfl)
  obtain ⟨_, fm3⟩ := str_raw (ex_at cE 128 rfl)
  obtain ⟨_, fm4⟩ := str_raw (ex_at cE 129 rfl)
  obtain ⟨_, fm5⟩ := str_raw (ex_at cE 130 rfl)
  obtain ⟨_, fm6⟩ := str_raw (ex_at cE 131 rfl)
  have aPI : PySem.W.findIn K (.ref (He.ga K "Program")) "__init__" = some (some (.ref (He.ma K (He.ga K "Program") "__init__"))) := of_decide_eq_true (ex_at cE 132 rfl)
  have iPI : PySem.W.isFn K (.ref (He.ma K (He.ga K "Program") "__init__")) = true := of_decide_eq_true (ex_at cE 133 rfl)
  obtain ⟨_, _, _, _, _, _, _, _, _, lPI, cPI⟩ := fn_raw cD 43 ("Program", some "__init__") "__init__" "Program.__init__" sPInit rfl
  have kPI : PySem.W.keepIn K (.ref (He.ma K (He.ga K "Program") "__init__")) = true := of_decide_eq_true (ex_at cE 134 rfl)
  have aPL : PySem.W.findIn K (.ref (He.ga K "Program")) "__len__" = some (some (.ref (He.ma K (He.ga K "Program") "__len__"))) := of_decide_eq_true (ex_at cE 135 rfl)
  have iPL : PySem.W.isFn K (.ref (He.ma K (He.ga K "Program") "__len__")) = true := of_decide_eq_true (ex_at cE 136 rfl)
  obtain ⟨_, _, _, _, _, _, _, _, _, lPL, cPL⟩ := fn_raw cD 44 ("Program", some "__len__") "__len__" "Program.__len__" sPLen rfl
  have kPL : PySem.W.keepIn K (.ref (He.ma K (He.ga K "Program") "__len__")) = true := of_decide_eq_true (ex_at cE 137 rfl)
  have aPE : PySem.W.findIn K (.ref (He.ga K "Program")) "__eq__" = some (some (.ref (He.ma K (He.ga K "Program") "__eq__"))) := of_decide_eq_true (ex_at cE 138 rfl)
  have iPE : PySem.W.isFn K (.ref (He.ma K (He.ga K "Program") "__eq__")) = true := of_decide_eq_true (ex_at cE 139 rfl)
  obtain ⟨_, _, _, _, _, _, _, _, _, lPE, cPE⟩ := fn_raw cD 45 ("Program", some "__eq__") "__eq__" "Program.__eq__" sPEq rfl
  have kPE : PySem.W.keepIn K (.ref (He.ma K (He.ga K "Program") "__eq__")) = true := of_decide_eq_true (ex_at cE 140 rfl)
  have aPS : PySem.W.findIn K (.ref (He.ga K "Program")) "__str__" = some (some (.ref (He.ma K (He.ga K "Program") "__str__"))) := of_decide_eq_true (ex_at cE 141 rfl)
  have iPS : PySem.W.isFn K (.ref (He.ma K (He.ga K "Program") "__str__")) = true := of_decide_eq_true (ex_at cE 142 rfl)
  obtain ⟨_, _, _, _, _, _, _, _, _, lPS, cPS⟩ := fn_raw cD 46 ("Program", some "__str__") "__str__" "Program.__str__" sPStr rfl
  have kPS : PySem.W.keepIn K (.ref (He.ma K (He.ga K "Program") "__str__")) = true := of_decide_eq_true (ex_at cE 143 rfl)
  have aCD : PySem.W.nsIn K mainGlobals "Reader" = some (some (.ref (He.ga K "Reader"))) := of_decide_eq_true (ex_at cE 144 rfl)
  have pgD : PySem.W.plainGet K (He.ga K "Reader") Str.empty = true := of_decide_eq_true (ex_at cE 145 rfl)
  have hdD : PySem.W.hasDictIn K (He.ga K "Reader") = true := of_decide_eq_true (ex_at cE 146 rfl)
  have poD : PySem.W.plainOver K (He.ga K "Reader") = true := of_decide_eq_true (ex_at cE 147 rfl)
  have saD : PySem.W.findIn K (.ref (He.ga K "Reader")) "__setattr__" = some (some (.builtin "object.__setattr__")) := of_decide_eq_true (ex_at cE 148 rfl)
  have mkD : PySem.W.makesIn K (He.ga K "Reader") = true := of_decide_eq_true (ex_at cE 149 rfl)
  have kcD : PySem.W.keepIn K (.ref (He.ga K "Reader")) = true := of_decide_eq_true (ex_at cE 150 rfl)
  have caD : PySem.W.findIn K (.ref (He.ga K "Reader")) "__class__" = some (some (.builtin "object.__class__")) := of_decide_eq_true (ex_at cE 151 rfl)
  have cmD : PySem.W.mroIn K (He.ga K "Reader") (.type "object") = some true := of_decide_eq_true (ex_at cE 152 rfl)
  have neD : PySem.W.findIn K (.ref (He.ga K "Reader")) "__ne__" = some (some (.builtin "object.__ne__")) := of_decide_eq_true (ex_at cE 153 rfl)
  have n0D : PySem.W.findIn K (.ref (He.ga K "Reader")) "words" = some none := of_decide_eq_true (ex_at cE 154 rfl)
  have n1D : PySem.W.findIn K (.ref (He.ga K "Reader")) "at" = some none := of_decide_eq_true (ex_at cE 155 rfl)
  have n2D : PySem.W.findIn K (.ref (He.ga K "Reader")) "begun" = some none := of_decide_eq_true (ex_at cE 156 rfl)
  have aDI : PySem.W.findIn K (.ref (He.ga K "Reader")) "__init__" = some (some (.ref (He.ma K (He.ga K "Reader") "__init__"))) := of_decide_eq_true (ex_at cE 157 rfl)
  have iDI : PySem.W.isFn K (.ref (He.ma K (He.ga K "Reader") "__init__")) = true := of_decide_eq_true (ex_at cE 158 rfl)
  obtain ⟨_, _, _, _, _, _, _, _, _, lDI, cDI⟩ := fn_raw cD 47 ("Reader", some "__init__") "__init__" "Reader.__init__" sRdI rfl
  have kDI : PySem.W.keepIn K (.ref (He.ma K (He.ga K "Reader") "__init__")) = true := of_decide_eq_true (ex_at cE 159 rfl)
  obtain ⟨_, aL⟩ := str_raw (ex_at cE 160 rfl)
  have aLoo : PySem.W.nsIn K mainGlobals "LOOKS" = some (some (.ref (He.ga K "LOOKS"))) := of_decide_eq_true (ex_at cE 161 rfl)
  obtain ⟨_, its_lLoo, _, _, lLoo, vv⟩ := tup_raw (ex_at cE 162 rfl)
  obtain ⟨l_lLoo⟩ := its_lLoo
  change Vals _ l_lLoo at vv
  obtain _ | ⟨h_lLoo0, v_lLoo0⟩ := vv
  obtain ⟨_, rfl⟩ := h_lLoo0
  obtain _ | ⟨h_lLoo1, v_lLoo1⟩ := v_lLoo0
  obtain ⟨_, rfl⟩ := h_lLoo1
  cases v_lLoo1
  have aTak : PySem.W.nsIn K mainGlobals "TAKERS" = some (some (.ref (He.ga K "TAKERS"))) := of_decide_eq_true (ex_at cE 163 rfl)
  obtain ⟨_, its_lTak, _, _, lTak, vv⟩ := tup_raw (ex_at cE 164 rfl)
  obtain ⟨l_lTak⟩ := its_lTak
  change Vals _ l_lTak at vv
  obtain _ | ⟨h_lTak0, v_lTak0⟩ := vv
  obtain ⟨_, rfl⟩ := h_lTak0
  obtain _ | ⟨h_lTak1, v_lTak1⟩ := v_lTak0
  obtain ⟨_, rfl⟩ := h_lTak1
  obtain _ | ⟨h_lTak2, v_lTak2⟩ := v_lTak1
  obtain ⟨_, rfl⟩ := h_lTak2
  obtain _ | ⟨h_lTak3, v_lTak3⟩ := v_lTak2
  obtain ⟨_, rfl⟩ := h_lTak3
  cases v_lTak3
  have nCD : (He.ga K "Thing") ≠ (He.ga K "Reader") := of_decide_eq_true (ex_at cE 165 rfl)
  have aN : PySem.W.nsIn K mainGlobals "NoText" = some (some (.ref (He.ga K "NoText"))) := of_decide_eq_true (ex_at cE 166 rfl)
  obtain ⟨_, _, _, _, _, _, _, _, _, _, _, _, _, _, xN⟩ := exc_raw (ex_at cE 167 rfl)
  have ovN : PySem.W.excOver K (He.ga K "NoText") [.type "ValueError", .type "Exception", .type "BaseException", .type "object"] = true := of_decide_eq_true (ex_at cE 168 rfl)
  have saN : PySem.W.findIn K (.ref (He.ga K "NoText")) "__setattr__" = some (some (.builtin "object.__setattr__")) := of_decide_eq_true (ex_at cE 169 rfl)
  have exN : PySem.W.subIn K (.ref (He.ga K "NoText")) (.type "BaseException") = some true := of_decide_eq_true (ex_at cE 170 rfl)
  have tyN : PySem.W.typeIn K (.ref (He.ga K "NoText")) = some (.type "type") := of_decide_eq_true (ex_at cE 171 rfl)
  have kN : PySem.W.keepIn K (.ref (He.ga K "NoText")) = true := of_decide_eq_true (ex_at cE 172 rfl)
  have plN : PySem.W.findIn K (.ref (He.ga K "NoText")) "place" = some none := of_decide_eq_true (ex_at cE 173 rfl)
  have vV : PySem.W.findCls K (.type "ValueError") (.type "type") "__init__" = some (.val (.builtin "ValueError.__init__")) := by first | rfl | decide +kernel
  have iN : PySem.W.findIn K (.ref (He.ga K "NoText")) "__init__" = some (some (.ref (He.ma K (He.ga K "NoText") "__init__"))) := of_decide_eq_true (ex_at cE 174 rfl)
  have tfN : PySem.W.typeIn K (.ref (He.ma K (He.ga K "NoText") "__init__")) = some (.type "function") := of_decide_eq_true (ex_at cE 175 rfl)
  obtain ⟨_, _, _, _, _, _, _, _, _, lN, cN⟩ := fn_raw cD 48 ("NoText", some "__init__") "__init__" "NoText.__init__" sNt rfl
  have kfN : PySem.W.keepIn K (.ref (He.ma K (He.ga K "NoText") "__init__")) = true := of_decide_eq_true (ex_at cE 176 rfl)
  have hdN : PySem.W.hasDictIn K (He.ga K "NoText") = true := of_decide_eq_true (ex_at cE 177 rfl)
  have scN : PySem.W.subIn K (.ref (He.ga K "NoText")) (.ref (He.ga K "NoText")) = some true := of_decide_eq_true (ex_at cE 178 rfl)
  have gaN : PySem.W.findIn K (.ref (He.ga K "NoText")) "__getattribute__" = some (some (.builtin "BaseException.__getattribute__")) := of_decide_eq_true (ex_at cE 179 rfl)
  have ggN : PySem.W.findIn K (.ref (He.ga K "NoText")) "__getattr__" = some none := of_decide_eq_true (ex_at cE 180 rfl)
  have icN : PySem.W.isClsIn K (He.ga K "NoText") = true := of_decide_eq_true (ex_at cE 181 rfl)
  have caN : PySem.W.findIn K (.ref (He.ga K "NoText")) "__class__" = some (some (.builtin "object.__class__")) := of_decide_eq_true (ex_at cE 182 rfl)
  have cmN : PySem.W.mroIn K (He.ga K "NoText") (.type "object") = some true := of_decide_eq_true (ex_at cE 183 rfl)
  have veN : PySem.W.kitOne K (.ref (He.ga K "NoText")) (.type "ValueError") = some true := of_decide_eq_true (ex_at cE 184 rfl)
  have o1 : PySem.W.nsIn K mainGlobals "NoName" = some (some (.ref (He.ga K "NoName"))) := of_decide_eq_true (ex_at cE 185 rfl)
  have o2 : PySem.W.nsIn K mainGlobals "NoProgram" = some (some (.ref (He.ga K "NoProgram"))) := of_decide_eq_true (ex_at cE 186 rfl)
  have o3 : PySem.W.nsIn K mainGlobals "NoRoom" = some (some (.ref (He.ga K "NoRoom"))) := of_decide_eq_true (ex_at cE 187 rfl)
  have o4 : PySem.W.nsIn K mainGlobals "NoSaying" = some (some (.ref (He.ga K "NoSaying"))) := of_decide_eq_true (ex_at cE 188 rfl)
  have o5 : PySem.W.nsIn K mainGlobals "NoStep" = some (some (.ref (He.ga K "NoStep"))) := of_decide_eq_true (ex_at cE 189 rfl)
  have o6 : PySem.W.nsIn K mainGlobals "TooGreat" = some (some (.ref (He.ga K "TooGreat"))) := of_decide_eq_true (ex_at cE 190 rfl)
  have kaN : PySem.W.kitAny K (.ref (He.ga K "NoText")) [.ref (He.ga K "NoName"), .ref (He.ga K "NoProgram"), .ref (He.ga K "NoRoom"), .ref (He.ga K "NoSaying"), .ref (He.ga K "NoStep"), .ref (He.ga K "TooGreat")] = some false := of_decide_eq_true (ex_at cE 191 rfl)
  have kst : PySem.W.kitOne K (.type "str") (.type "tuple") = some false := of_decide_eq_true (ex_at cE 192 rfl)
  have kti : PySem.W.kitOne K (.type "tuple") (.type "int") = some false := of_decide_eq_true (ex_at cE 193 rfl)
  have kCi : PySem.W.kitOne K (.ref (He.ga K "Thing")) (.type "int") = some false := of_decide_eq_true (ex_at cE 194 rfl)
  have z_len : PySem.W.nsIn K mainGlobals "len" = some none := of_decide_eq_true (ex_at cE 195 rfl)
  have z_range : PySem.W.nsIn K mainGlobals "range" = some none := of_decide_eq_true (ex_at cE 196 rfl)
  have z_isinstance : PySem.W.nsIn K mainGlobals "isinstance" = some none := of_decide_eq_true (ex_at cE 197 rfl)
  have z_abs : PySem.W.nsIn K mainGlobals "abs" = some none := of_decide_eq_true (ex_at cE 198 rfl)
  have z_int : PySem.W.nsIn K mainGlobals "int" = some none := of_decide_eq_true (ex_at cE 199 rfl)
  have z_str : PySem.W.nsIn K mainGlobals "str" = some none := of_decide_eq_true (ex_at cE 200 rfl)
  have z_max : PySem.W.nsIn K mainGlobals "max" = some none := of_decide_eq_true (ex_at cE 201 rfl)
  have z_min : PySem.W.nsIn K mainGlobals "min" = some none := of_decide_eq_true (ex_at cE 202 rfl)
  have z_all : PySem.W.nsIn K mainGlobals "all" = some none := of_decide_eq_true (ex_at cE 203 rfl)
  have z_bool : PySem.W.nsIn K mainGlobals "bool" = some none := of_decide_eq_true (ex_at cE 204 rfl)
  have z_tuple : PySem.W.nsIn K mainGlobals "tuple" = some none := of_decide_eq_true (ex_at cE 205 rfl)
  have z_zip : PySem.W.nsIn K mainGlobals "zip" = some none := of_decide_eq_true (ex_at cE 206 rfl)
  have z_enumerate : PySem.W.nsIn K mainGlobals "enumerate" = some none := of_decide_eq_true (ex_at cE 207 rfl)
  have z_list : PySem.W.nsIn K mainGlobals "list" = some none := of_decide_eq_true (ex_at cE 208 rfl)
  have z_ValueError : PySem.W.nsIn K mainGlobals "ValueError" = some none := of_decide_eq_true (ex_at cE 209 rfl)
  exact all_mk X G hfa aC pg hd po sa mkC kc nF nS nZ ca cn ct cm neC aM aI iI lI cI kI lT aEq iEq lEq cEq kEq aSt iSt lSt cSt kSt aPa lPa cPa kPa aAl lAl cAl kAl aSg lSg cSg kSg aIn lIn cIn kIn aFt lFt cFt kFt aHf lHf cHf kHf aRi lRi cRi kRi aLk lLk cLk kLk aLy lLy cLy kLy aNi lNi cNi kNi aRw lRw cRw kRw aDw lDw cDw kDw aRp lRp cRp kRp aAh lAh cAh kAh aT2 lT2 cT2 kT2 aFw lFw cFw kFw aRr lRr cRr kRr aRd lRd cRd kRd aRl lRl cRl kRl aRn lRn cRn kRn aRt lRt cRt kRt aRe lRe cRe kRe aWh lWh cWh kWh aDu lDu cDu kDu aBa lBa cBa kBa aTa lTa cTa kTa aTh lTh cTh kTh aNa lNa cNa kNa aDe lDe cDe kDe aDs lDs cDs kDs aTo lTo cTo kTo aSh lSh cSh kSh aLt lLt cLt kLt aXit lXit cXit kXit aXlo lXlo cXlo kXlo aXme lXme cXme kXme aXbr lXbr cXbr kXbr aXsp lXsp cXsp kXsp aXgd lXgd cXgd kXgd aLaw lLaw cLaw kLaw aP pgP hdP poP saP mkCP kcP nDP nPP caP cmP neP aFm lFm litF lowF aN1 aN2 aN3 kii kib ktt kss fm0 fm1 fm2 fm3 fm4 fm5 fm6 aPI iPI lPI cPI kPI aPL iPL lPL cPL kPL aPE iPE lPE cPE kPE aPS iPS lPS cPS kPS aCD pgD hdD poD saD mkD kcD caD cmD neD n0D n1D n2D aDI iDI lDI cDI kDI aL aLoo lLoo aTak lTak nCD aN xN ovN saN exN tyN kN plN vV iN tfN lN cN kfN hdN scN gaN ggN icN caN cmN veN o1 o2 o3 o4 o5 o6 kaN kst kti kCi z_len z_range z_isinstance z_abs z_int z_str z_max z_min z_all z_bool z_tuple z_zip z_enumerate z_list z_ValueError
end Js
open PySem PySem.W PySem.Calls PyProof.Rows in
set_option maxRecDepth 100000 in
set_option maxHeartbeats 0 in
theorem PySem.Challenge.cw_judgeslip_k10_no_texts_of_programs_holds : PySem.Challenge.rw_judgeslip_k10_no_texts_of_programs.Holds := by
  w_on; o_law
  refine HandSHeadRun.head_any (r := OpenLaw.row PySem.Challenge.rw_judgeslip_k10_no_texts_of_programs) (q := view (OpenLaw.row PySem.Challenge.rw_judgeslip_k10_no_texts_of_programs).prog [64]) (H := Js.hkX) (ob := Js.hob) (M := 20000) (loose := Js.hnames) (d := HandSHeadRun.topDef (OpenLaw.row PySem.Challenge.rw_judgeslip_k10_no_texts_of_programs).prog 64) (kwd := []) Js.hob_eq
    Js.hfe Js.hff Js.hrun Js.hfd Js.hfp (by kernel_rfl) (by rfl) (by first | assumption | decide +kernel) Js.hfo Js.hfb ?hw ?hc
  case hw => w_witness2
  case hc =>
    refine L2.walk_ofE (l := PySem.Challenge.rw_judgeslip_k10_no_texts_of_programs) (n := 63) (k := 41) (x := "_law_script") (CX := L2.CX0) rfl (by decide) (by kernel_rfl) ⟨rfl, by decide, by decide⟩ ?F (fun _ _ _ _ z => z)
    intro w mg fa h Y G hmg0
    obtain ⟨K, KX, cT, cX⟩ := Y
    have hmg : mg ("law" : PySem.Str) = some (.ref fa) := by
      have e : (HandSHeadRun.topDef (OpenLaw.row PySem.Challenge.rw_judgeslip_k10_no_texts_of_programs).prog 64).name = ("law" : PySem.Str) := by kernel_rfl
      rw [← e]
      exact hmg0
    obtain ⟨fd, hb, hF⟩ := Js.hfacts (P := (PySem.Challenge.rw_judgeslip_k10_no_texts_of_programs).prog) (w := w) KX G hmg cT cX
    exact ⟨K, fd, Js.spLaw K, KX, hb, fun H a ns hl _ hS => ⟨a, ns, rfl, hS, hl, fun _ => rfl⟩, hF⟩
