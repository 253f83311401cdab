import PyProof.Rows.All
import Wide.All
import OpenK.AllK
import Wide.FinOn
import PyProof.EqAt
import PyProof.EqKinds
import PyProof.TupleCall
import HandS.ForMost
import HandS.ForExc
import HandS.IsInst
import HandS.NoneIn
import HandS.Defaults
import HandS.MakeKw
import HandS.OwnEq
import HandS.Walk
import HandS.Rev
import HandS.FStr
import HandS.More
import KE.KCallOwn
import HandS.Conv
import KE.KStateDown
import HandS.Base
import HandS.Call
import HandS.Ends
import HandS.Exc
import HandS.Words
import HandS.WordsExc
import HandS.Head0
import HandS.Head1
import HandS.Head2
import HandS.HeadEnd
import HandS.HeadHook1
import HandS.HeadHook2
import HandS.HeadHook3
import HandS.HeadHook4
import KE.KExcLine
import HandS.ExcIs
import PyProof.NeKinds
import HandS.Zip
import HandS.Zip0
import KE.GoesZip
import KE.GoesMore
import HandS.Replace
import KE.KDictCopyH
import HandS.ExcInit
import HandS.ExcField
import HandS.ExcOwn
import KE.KExcIs
import KE.KExcInit
import PyProof.ExcBaseAll.OverflowError
import HandS.HotCalls
import HandS.ExcInitHot
import HandS.Comp
import HandS.ExcCtx
import KE.GoesComp
import KE.GoesRaise
import HandS.Style
import HandS.TryOnly
import HandS.Star
import HandS.Steps
import HandS.TupLen
import PyProof.ExcBaseAll.ValueError
import PyProof.Rows.EqNone
import HandS.Records
import HandS.TupAny
import HandS.TupMul
import HandS.AnyAll
import PySem.Challenge.RW_judgeslip_k17_no_codes
set_option Elab.async false
set_option linter.all false
set_option maxRecDepth 100000
set_option maxHeartbeats 2000000
namespace L2
open PySem PySem.Spec PyProof.Rows
section
variable {X : Cx} {CX : CXT} {n : Nat} {C f : Addr} {fd : FuncData} {ps : List Str} {sp : Sp} {E : XK} {pins : List (Addr × Obj)} {σ : St} {H : Hp} {s : Shared}
theorem run_fnA {A : Around} {Q : VK} {us : List Value} {vs : List V} (F : FnOk X.prog X.w X.K X.mg X.base CX n f fd ps sp) (hr : Room n A) (e0 : Env0 X.prog X.w X.K X.mg X.base A X.stack s H) (hb : Binds X.K fd ps []) (hx : Passes CX X E)
    (I : Inv X pins σ H s) (r : Vals vs us) (h : sp vs H Q E) : wpAny (model X.prog X.w) A (call (.ref f) us) (EP X pins σ Q) X.xe s := by
  have hl : (us ++ []).length = ps.length := by rw [List.append_nil, ← r.length]; exact F.len _ _ _ _ h
  have hb' := hb s us I.kIn hl
  rw [List.append_nil] at hb'
  refine wpAny_call (codeAny_mono (F.run A X.stack s H ⟨us, []⟩ us vs Q E hr e0 hb' r h) fun r s' hq => ?_)
  cases r with
  | error e => exact hx pins σ H s e s' I hq
  | ok fl =>
    cases fl with
    | ret u => exact I.after hq
    | next => exact False.elim hq
    | brk => exact False.elim hq
    | cont => exact False.elim hq
theorem inst_of {a dx : Addr} {fs : List (Str × V)} (I : Inv X pins σ H s) (ha : H a = some (.ins C dx fs)) : ∃ od, PySem.W.InstAt s.heap a (PySem.W.instObj C dx) C (some od) := by
  obtain ⟨mA, J, _⟩ := ins_get I.hok ha
  obtain ⟨od, J, _⟩ := J.look
  exact ⟨od, J⟩
structure Own (K : PySem.W.Frag) (C : Addr) (name : Str) (f : Addr) : Prop where
  at_ : PySem.W.findIn K (.ref C) name = some (some (.ref f))
  fn : PySem.W.isFn K (.ref f) = true
def rStrOwn (C : Addr) (sp : Sp) (E : XK) : List V → Hp → VK → Prop := fun xs H Q => ∃ a dx fs, xs = [V.ref a] ∧ H a = some (.ins C dx fs) ∧ sp [.ref a] H (fun z H' => ∃ i : Str, z = .str i ∧ Q (.str i) H') E
theorem call_strOwn (o : Own X.K C "__str__" f) (F : FnOk X.prog X.w X.K X.mg X.base CX n f fd ps sp) (hb : Binds X.K fd ps []) (hr : Room (n + 2) X.A) (hx : Passes CX X E) : CallR X (.type "str") (rStrOwn C sp E) := by
  intro pins s σ H xs us Q I r h
  obtain ⟨a, dx, fs, rfl, ha, q⟩ := h
  obtain ⟨u, rfl, ru⟩ := vals1 r
  cases (show u = Value.ref a from ru)
  obtain ⟨od, J⟩ := inst_of I ha
  have hr2 : Room n X.A.in1.in1 := (show Room (n + 1) X.A.in1 from Room.in1 hr).in1
  refine PySem.W.kso_call hr2.units0 I.kIn J o.at_ o.fn (wpAny_mono (run_fnA (us := [.ref a]) (vs := [.ref a]) F hr2 I.env0.in1.in1 hb hx I (.cons rfl .nil) q) (fun w s' z => ?_) fun _ _ x => x)
  obtain ⟨z', H', I', rz, i, ei, qz⟩ := z
  subst ei
  obtain ⟨t, e⟩ := (show ∃ t, w = Value.str i t from rz)
  cases e
  exact ⟨.str i, H', I', ⟨_, rfl⟩, qz⟩
end
end L2
set_option Elab.async false
set_option linter.all false
set_option maxRecDepth 100000
set_option maxHeartbeats 2000000
namespace L2
open PySem PySem.Spec PyProof.Rows
abbrev Tells := V → V → Bool → Hp → Prop
def EqT (X : Cx) (n : Nat) (D : Tells) : Prop :=
  ∀ (A : Around) (pins : List (Addr × Obj)) (s : Shared) (σ : St) (H : Hp) (x y : V) (u v : Value) (r : Bool), Sub X n A → Inv X pins σ H s → RelV x u → RelV y v → D x y r H →
    wpAny (model X.prog X.w) A (eqBool u v) (fun r' s' => r' = r ∧ ∃ H', Inv X pins σ H' s' ∧ Same H H') X.xe s
def gSlice (to : TE) (tl th : TO) : TG := fun v σ H Q => to σ H fun o H1 => tl σ H1 fun l H2 => th σ H2 fun u H3 => ∃ (p q : Addr) (xs ys : List V) (a c : Int), o = .ref p ∧ v = .ref q ∧ l = some a ∧ u = some c ∧ H3 p = some (.lst xs) ∧ H3 q = some (.lst ys) ∧ p ≠ q ∧
  0 ≤ a ∧ a ≤ c ∧ c ≤ xs.length ∧ xs.length + ys.length ≤ sizeLine ∧ Q σ (upd H3 p (.lst (xs.take a.toNat ++ ys ++ xs.drop c.toNat)))
theorem pg_slice {X : Cx} {o : Expr} {lo hi : Option Expr} {to : TE} {tl th : TO} {p2 pos : Pos} (ho : PE X o to) (hl : PO X lo tl) (hu : PO X hi th)
    (ha : ∀ v, assign (.Subscript o (.Slice lo hi none p2) pos) X.env v = (do
      let ov ← holding [v] (eval o X.env)
      let iv ← holding [v, ov] (eval (.Slice lo hi none p2) X.env)
      standAt pos
      holding [v, ov, iv] (setItem ov iv v)
      release [iv, v, ov] []) := by intro _; rfl) : PG X (.Subscript o (.Slice lo hi none p2) pos) (gSlice to tl th) := by
  refine ⟨fun pins s σ H v u Q I r h => ?_⟩
  rw [ha]
  refine wpAny_bind (wpAny_holding (thn (ho.run pins s σ H _ I h) fun ov s1 ⟨x, H1, I1, r1, q1⟩ => ?_))
  refine wpAny_bind (wpAny_holding (wpAny_Slice (thn (hl.run pins s1 σ H1 _ I1 q1) fun vl s2 ⟨l, H2, I2, pl, q2⟩ => thn (hu.run pins s2 σ H2 _ I2 q2) fun vu s3 ⟨m, H3, I3, pu, q3⟩ => ?_)))
  rw [evalPart_none]
  refine wpAny_pure ?_
  have I4 : Inv X pins σ H3 { s3 with heap := s3.heap.push { cls := .type "slice", data := .fields #[vl, vu, .none] } } := I3.kept (t' := s3.toks) fun b ob q => Heap.get?_push_of_some _ q
  obtain ⟨p, q, xs, ys, a, c, rfl, rfl, rfl, rfl, hp, hq, hne, h0, hac, hc, hz, k⟩ := q3
  cases (show ov = Value.ref p from r1)
  cases (show u = Value.ref q from r)
  refine wpAny_bind (wpAny_standAt (wpAny_bind (wpAny_holding ?_)))
  have ra : RelV (.int a) vl := by cases pl; exact ⟨_, rfl⟩
  have rc : RelV (.int c) vu := by cases pu; exact ⟨_, rfl⟩
  exact set_slice I4 hp hq hne (Heap.IsSliceOf.new ..) ra rc h0 hac hc hz fun s' I5 => wpAny_release ⟨σ, _, I5, k⟩
def Itse (x : Str) : It := ⟨fun i _ => i < x.cps.size, fun i H v H' => ∃ T c, v = .ref T ∧ H T = none ∧ H' = upd H T (.tup [.int (i : Nat), .str ⟨#[c]⟩]) ∧ x.cps[i]? = some c, fun i _ => i = x.cps.size⟩
theorem draws_str {prog : Program} {w : World} {A : Around} (hh : A.handled = none) (it : Addr) (x : Str) (t : Tok) :
    Draws prog w A it [it] x.cps.size (fun i v => ∃ c u, x.cps[i]? = some c ∧ v = .str ⟨#[c]⟩ u) (fun i h => h.IsStrIter it (strIterType x) x t i) := by
  unfold strIterType
  split
  · exact Draws.strAscii hh it x t
  · exact Draws.strWide hh it x t
theorem turn_enumS {P : Program} {w : World} {K : PySem.W.Frag} {elts : List Expr} {kk : Nat} {tpos : Pos} (x : Str) (t : Tok) (e it : Addr) :
    Turn P w K (.Tuple elts kk tpos) (Itse x) [e, it] e (fun i h => (∃ old, IsEnum h e it ((i : Nat) : Int) old) ∧ h.IsStrIter it (strIterType x) x t i ∧ e ≠ it) where
  mem := by simp
  obj := fun i h st b hb => by
    obtain ⟨⟨old, he⟩, ⟨o, ho, hc, hd⟩, _⟩ := st
    have e' : b = e ∨ b = it := by simpa using hb
    rcases e' with z | z
    · rw [z]; exact ⟨_, he, fun v q => nomatch q⟩
    · rw [z]; exact ⟨o, ho, fun v q => by rw [hd] at q; cases q⟩
  keep := fun i h h' st k => let ⟨⟨old, he⟩, ⟨o, ho, r⟩, hne⟩ := st; ⟨⟨old, k e (by simp) _ he⟩, ⟨o, k it (by simp) o ho, r⟩, hne⟩
  item := by
    intro X hP hw hK hc i pins s σ H E I hf st hg
    subst hP hw hK
    obtain ⟨⟨old, he⟩, hit, hne⟩ := st
    have hel : e < s.heap.objs.size := Heap.lt_size he
    have hil : it < s.heap.objs.size := by obtain ⟨_, q, _⟩ := hit; exact Heap.lt_size q
    refine wpAny_pyNext_enum_itemD (draws_str (A := X.A.in1) (show X.A.in1.handled = none from I.ok.hd hc) it x t) he hit hg hne (by simpa using hne) fun u h' tk hPx ho hit' hT hsz hk => ?_
    obtain ⟨c, tu, hcx, rfl⟩ := hPx
    refine ⟨_, rfl, wpAny_letOwnedTupleGo_enum (s := { s with heap := h', toks := tk + 1 }) ho fun h'' he' sb => ?_⟩
    have hT2 : h''.get? s.heap.objs.size = some { cls := .type "tuple", data := .seq #[.int i tk, .str ⟨#[c]⟩ tu] } := (sb.2 _ (Nat.ne_of_gt hel)).trans hT
    have new : ObjOk X.prog X.w (upd H s.heap.objs.size (.tup [.int (i : Nat), .str ⟨#[c]⟩])) h'' s.heap.objs.size (.tup [.int (i : Nat), .str ⟨#[c]⟩]) :=
      ⟨by show 2 ≤ sizeLine; decide, [.int i tk, .str ⟨#[c]⟩ tu], .cons ⟨_, rfl⟩ (.cons ⟨_, rfl⟩ .nil), ⟨_, hT2, rfl, _, rfl⟩⟩
    have I1 : Inv X pins σ (upd H s.heap.objs.size (.tup [.int (i : Nat), .str ⟨#[c]⟩])) { s with heap := h'', toks := tk + 1 } :=
      I.turnedNew (ch := [e, it]) (fun b ob hb q => (sb.2 b (fun z => hb (by simp [z]))).trans (hk b ob (fun z => hb (by simp [z])) (fun z => hb (by simp [z])) q)) hf (Nat.le_refl _) new
    refine ⟨.ref s.heap.objs.size, _, I1, rfl, ⟨_, c, rfl, I.hok.fresh (Nat.le_refl _), rfl, hcx⟩, ⟨⟨.str ⟨#[c]⟩ tu, ?_⟩, ?_, hne⟩, fun b hb => ?_⟩
    · have e1 : ((i + 1 : Nat) : Int) = (i : Int) + 1 := by omega
      rw [e1]; exact he'
    · obtain ⟨o, q, r⟩ := hit'
      exact ⟨o, (sb.2 it (Ne.symm hne)).trans q, r⟩
    · have hb' : b < s.heap.objs.size := by
        have e' : b = e ∨ b = it := by simpa using hb
        rcases e' with z | z
        · rw [z]; exact hel
        · rw [z]; exact hil
      rw [upd_ne (Nat.ne_of_lt hb')]
      exact (hf b hb).1
  done := by
    intro X hP hw hK hc i pins s σ H E I hf st hg
    subst hP hw hK
    obtain ⟨⟨old, he⟩, hit, hne⟩ := st
    obtain ⟨f0, f1, f2, f3, f4, f5⟩ := hf it (by simp)
    have hin : i = x.cps.size := hg
    subst hin
    exact wpAny_pyNext_enum_endD (draws_str (A := X.A.in1) (show X.A.in1.handled = none from I.ok.hd hc) it x t) he hit fun h' eb => ⟨rfl, I.turned (t' := s.toks) (fun b o hb q => eb b o hb q) f0 f1 f3 f4 f5⟩
  self := fun A i s Q E st h => let ⟨⟨_, he⟩, _⟩ := st; wpAny_pyIter_enum he h
def iEnumS (ta : TA) : TI := fun σ H R => ta σ H fun vs H1 => ∃ x, vs = [.str x] ∧ R (Itse x) H1
theorem pi_enumS {X : Cx} {e : Expr} {ta : TA} {p pos tpos : Pos} {elts : List Expr} {kk : Nat} (hg : Gl X "enumerate") (hm : X.mg "enumerate" = none) (ha : PA X [e] ta) (hs : starEach [e] X.env = [(false, eval e X.env)] := by rfl) :
    PI X (.Tuple elts kk tpos) (.Call (.Name "enumerate" p) [e] [] pos) (iEnumS ta) := by
  refine ⟨fun pins s σ H R I h => ?_⟩
  refine Call_ (ld_blt I hg hm boot_enumerate (PyProof.Rows.callWith_type1 (thn (ha.run pos pins s σ H _ I h) fun us s1 ⟨vs, H1, I1, r1, q1⟩ => ?_) hs rfl))
  obtain ⟨x, ex, q⟩ := q1
  subst ex
  obtain ⟨u, rfl, ru⟩ := vals1 r1
  obtain ⟨t, rfl⟩ := ru
  refine call_enumerate_str fun h' he hit hsz hk => wpAny_pyIter_enum he ?_
  have I2 : Inv X pins σ H1 { s1 with heap := h' } := I1.kept (t' := s1.toks) hk
  refine ⟨s1.heap.objs.size + 1, [s1.heap.objs.size + 1, s1.heap.objs.size], _, _, H1, rfl, I2, turn_enumS x t (s1.heap.objs.size + 1) s1.heap.objs.size, ⟨⟨.none, he⟩, hit, Nat.succ_ne_self _⟩, fun b hb => ?_, q⟩
  have e' : b = s1.heap.objs.size + 1 ∨ b = s1.heap.objs.size := by simpa using hb
  have hle : s1.heap.objs.size ≤ b := by
    rcases e' with z | z
    · rw [z]; exact Nat.le_add_right _ _
    · rw [z]; exact Nat.le_refl _
  exact I1.fpOk hle (I1.hok.fresh hle)
theorem walk_enumS {z : Str} : Walk (Itse z) z.cps.size (fun _ => True) (fun i H v H' => ∃ T c, v = .ref T ∧ H T = none ∧ H' = upd H T (.tup [.int (i : Nat), .str ⟨#[c]⟩]) ∧ z.cps[i]? = some c) :=
  ⟨fun _ _ h _ => h, fun _ _ => rfl, fun _ _ _ _ _ _ y => y⟩
end L2
set_option Elab.async false
set_option linter.all false
set_option maxRecDepth 100000
set_option maxHeartbeats 2000000
namespace L2
open PySem PySem.Spec PyProof.Rows
end L2
set_option Elab.async false
set_option linter.all false
set_option maxRecDepth 100000
set_option maxHeartbeats 2000000
namespace Js
open PySem L2
inductive Tr where
  | nil
  | pr (l r : Tr)
  deriving DecidableEq
namespace Tr
def size : Tr → Nat
  | nil => 0
  | pr l r => 1 + l.size + r.size
def codes : Tr → List Nat
  | nil => [46]
  | pr l r => 40 :: (l.codes ++ (r.codes ++ [41]))
def text (t : Tr) : Str := ⟨t.codes.toArray⟩
theorem text_list (t : Tr) : t.text.cps.toList = t.codes := rfl
theorem codes_len : ∀ t : Tr, t.codes.length = 3 * t.size + 1
  | nil => rfl
  | pr l r => by
    have h1 := codes_len l
    have h2 := codes_len r
    simp only [codes, size, List.length_cons, List.length_append, List.length_nil]
    omega
theorem text_len (t : Tr) : t.text.length = 3 * t.size + 1 := by
  have h : t.text.length = t.codes.length := by
    show t.codes.toArray.size = _
    rw [List.size_toArray]
  rw [h, codes_len]
theorem codes_pre : ∀ (t u : Tr) (p q : List Nat), t.codes ++ p = u.codes ++ q → t = u ∧ p = q
  | nil, nil, p, q, h => ⟨rfl, by simpa [codes] using h⟩
  | nil, pr l r, p, q, h => by simp [codes] at h
  | pr l r, nil, p, q, h => by simp [codes] at h
  | pr l r, pr l' r', p, q, h => by
    simp only [codes, List.cons_append, List.append_assoc, List.cons.injEq, true_and] at h
    obtain ⟨e1, h1⟩ := codes_pre l l' _ _ h
    obtain ⟨e2, h2⟩ := codes_pre r r' _ _ h1
    subst e1 e2
    simp only [List.nil_append, List.cons.injEq, true_and] at h2
    exact ⟨rfl, h2⟩
theorem codes_inj {t u : Tr} (h : t.codes = u.codes) : t = u := (codes_pre t u [] [] (by simpa using h)).1
theorem text_inj {t u : Tr} (h : t.text = u.text) : t = u := codes_inj (by rw [← text_list, ← text_list, h])
theorem size_nil {t : Tr} (h : t.size = 0) : t = nil := by
  cases t with
  | nil => rfl
  | pr l r => simp [size] at h
theorem small_eq {t u : Tr} (h : t.size = u.size) (h1 : t.size ≤ 1) : t = u := by
  cases t with
  | nil => exact (size_nil h.symm).symm
  | pr l r =>
    cases u with
    | nil => simp [size] at h
    | pr l' r' =>
      simp only [size] at h h1
      have e1 := size_nil (t := l) (by omega)
      have e2 := size_nil (t := r) (by omega)
      have e3 := size_nil (t := l') (by omega)
      have e4 := size_nil (t := r') (by omega)
      rw [e1, e2, e3, e4]
def head : Tr → Tr
  | nil => nil
  | pr l _ => l
def tail : Tr → Tr
  | nil => nil
  | pr _ r => r
end Tr
open Tr (small_eq)
theorem n_fs : ¬ (("first" : Str) = "second") := by decide +kernel
theorem n_fz : ¬ (("first" : Str) = "size") := by decide +kernel
theorem n_sz : ¬ (("second" : Str) = "size") := by decide +kernel
def tf (f s : V) (n : Int) : List (Str × V) := putF "size" (.int n) (putF "second" s (putF "first" f []))
theorem tf_first (f s : V) (n : Int) : (tf f s n).lookup ("first" : Str) = some f := by
  unfold tf
  rw [lookup_putF, if_neg n_fz, lookup_putF, if_neg n_fs, lookup_putF, if_pos rfl]
theorem tf_second (f s : V) (n : Int) : (tf f s n).lookup ("second" : Str) = some s := by
  unfold tf
  rw [lookup_putF, if_neg n_sz, lookup_putF, if_pos rfl]
theorem tf_size (f s : V) (n : Int) : (tf f s n).lookup ("size" : Str) = some (.int n) := by
  unfold tf
  rw [lookup_putF, if_pos rfl]
inductive Th (C : Addr) (H : Hp) : Addr → Tr → Prop where
  | nil {a dx : Addr} (h : H a = some (.ins C dx (tf .non .non 0))) : Th C H a .nil
  | pr {a dx b c : Addr} {l r : Tr} (h : H a = some (.ins C dx (tf (.ref b) (.ref c) ((Tr.pr l r).size : Nat)))) (hl : Th C H b l) (hr : Th C H c r) : Th C H a (.pr l r)
def KT (H H' : Hp) : Prop := ∀ a o, H a = some o → (∀ xs, o ≠ HO.lst xs) → H' a = some o
theorem KT.of {H H' : Hp} (s : Same H H') : KT H H' := fun _ _ h _ => s _ _ h
theorem KT.refl (H : Hp) : KT H H := fun _ _ h _ => h
theorem KT.trans {H H1 H2 : Hp} (a : KT H H1) (b : KT H1 H2) : KT H H2 := fun x o h n => b x o (a x o h n) n
theorem KT.lst {H : Hp} {p : Addr} {o : HO} {xs : List V} (hp : H p = some (.lst xs)) : KT H (upd H p o) := fun a u h n => by
  rw [upd_ne]
  · exact h
  · intro e
    subst e
    exact n _ (Option.some.inj (h.symm.trans hp))
theorem KT.new {H : Hp} {p : Addr} {o : HO} (hp : H p = none) : KT H (upd H p o) := fun a u h n => by
  rw [upd_ne (ne_of_none h hp)]
  exact h
theorem _root_.L2.Same.new {H : Hp} {p : Addr} {o : HO} (hp : H p = none) : Same H (upd H p o) := fun a u h => by
  rw [upd_ne (ne_of_none h hp)]
  exact h
theorem _root_.L2.Same.set {H0 H : Hp} {p : Addr} {o : HO} (s : Same H0 H) (hp : H0 p = none) : Same H0 (upd H p o) := fun a u h => by
  rw [upd_ne (ne_of_none h hp)]
  exact s _ _ h
theorem Th.kt {C : Addr} {H H' : Hp} (k : KT H H') {a : Addr} {t : Tr} (h : Th C H a t) : Th C H' a t := by
  induction h with
  | nil h => exact .nil (k _ _ h (fun _ e => nomatch e))
  | pr h _ _ ih1 ih2 => exact .pr (k _ _ h (fun _ e => nomatch e)) ih1 ih2
theorem Th.same {C : Addr} {H H' : Hp} (s : Same H H') {a : Addr} {t : Tr} (h : Th C H a t) : Th C H' a t := h.kt (KT.of s)
theorem Th.obj {C : Addr} {H : Hp} {a : Addr} {t : Tr} (h : Th C H a t) : ∃ dx f s, H a = some (.ins C dx (tf f s (t.size : Nat))) := by
  cases h with
  | nil h => exact ⟨_, _, _, h⟩
  | pr h _ _ => exact ⟨_, _, _, h⟩
theorem tf_ref_inj {C dx dx' : Addr} {f s f' s' : V} {n n' : Int} (h : HO.ins C dx (tf f s n) = HO.ins C dx' (tf f' s' n')) : f = f' ∧ s = s' ∧ n = n' := by
  injection h with _ _ h3
  have e1 := congrArg (List.lookup ("first" : Str)) h3
  have e2 := congrArg (List.lookup ("second" : Str)) h3
  have e3 := congrArg (List.lookup ("size" : Str)) h3
  rw [tf_first, tf_first] at e1
  rw [tf_second, tf_second] at e2
  rw [tf_size, tf_size] at e3
  exact ⟨Option.some.inj e1, Option.some.inj e2, V.int.inj (Option.some.inj e3)⟩
theorem Th.inj {C : Addr} {H : Hp} {a : Addr} {t u : Tr} (h : Th C H a t) (h' : Th C H a u) : t = u := by
  induction h generalizing u with
  | nil h =>
    cases h' with
    | nil _ => rfl
    | pr h' _ _ =>
      have e := Option.some.inj (h.symm.trans h')
      exact V.noConfusion (tf_ref_inj e).1
  | pr h _ _ ih1 ih2 =>
    cases h' with
    | nil h' =>
      have e := Option.some.inj (h.symm.trans h')
      exact V.noConfusion (tf_ref_inj e).1
    | pr h' h1 h2 =>
      have e := tf_ref_inj (Option.some.inj (h.symm.trans h'))
      have e1 := V.ref.inj e.1
      have e2 := V.ref.inj e.2.1
      subst e1 e2
      rw [ih1 h1, ih2 h2]
theorem Th.pair {C : Addr} {H : Hp} {a : Addr} {l r : Tr} (h : Th C H a (.pr l r)) : ∃ dx b c, H a = some (.ins C dx (tf (.ref b) (.ref c) ((Tr.pr l r).size : Nat))) ∧ Th C H b l ∧ Th C H c r := by
  cases h with
  | pr h hl hr => exact ⟨_, _, _, h, hl, hr⟩
theorem last_rev {α : Type} (v : α) (r : List α) : (v :: r).reverse[(v :: r).reverse.length - 1]? = some v := by
  rw [List.reverse_cons, List.length_append, List.length_reverse]
  show (r.reverse ++ [v])[r.length + 1 - 1]? = some v
  rw [Nat.add_sub_cancel, List.getElem?_append_right (by rw [List.length_reverse]; exact Nat.le_refl _), List.length_reverse, Nat.sub_self]
  rfl
theorem drop_rev {α : Type} (v : α) (r : List α) : (v :: r).reverse.dropLast = r.reverse := by
  rw [List.reverse_cons, List.dropLast_concat]
theorem push_rev {α : Type} (v : α) (r : List α) : r.reverse ++ [v] = (v :: r).reverse := by
  rw [List.reverse_cons]
def PrAt (C : Addr) (H : Hp) (v : V) (p : Tr × Tr) : Prop := ∃ q a b, v = .ref q ∧ H q = some (.tup [.ref a, .ref b]) ∧ Th C H a p.1 ∧ Th C H b p.2
theorem PrAt.kt {C : Addr} {H H' : Hp} (k : KT H H') {v : V} {p : Tr × Tr} (h : PrAt C H v p) : PrAt C H' v p := by
  obtain ⟨q, a, b, e, hq, h1, h2⟩ := h
  exact ⟨q, a, b, e, k _ _ hq (fun _ e => nomatch e), h1.kt k, h2.kt k⟩
theorem prs_kt {C : Addr} {H H' : Hp} (k : KT H H') : ∀ {rs : List V} {ps : List (Tr × Tr)}, Paired (PrAt C H) rs ps → Paired (PrAt C H') rs ps
  | _, _, .nil => .nil
  | _, _, .cons h t => .cons (h.kt k) (prs_kt k t)
def pm (ps : List (Tr × Tr)) : Nat := (ps.map fun p => 2 * p.1.size + 1).sum
theorem pm_cons (p : Tr × Tr) (ps : List (Tr × Tr)) : pm (p :: ps) = 2 * p.1.size + 1 + pm ps := by simp [pm]
theorem pm_len : ∀ ps : List (Tr × Tr), ps.length ≤ pm ps
  | [] => Nat.zero_le _
  | p :: ps => by
    have := pm_len ps
    rw [pm_cons, List.length_cons]
    omega
def WtAt (C : Addr) (H : Hp) (v : V) (o : Option Tr) : Prop := (v = .non ∧ o = none) ∨ ∃ a t, v = .ref a ∧ o = some t ∧ Th C H a t
theorem WtAt.kt {C : Addr} {H H' : Hp} (k : KT H H') {v : V} {o : Option Tr} (h : WtAt C H v o) : WtAt C H' v o := by
  rcases h with h | ⟨a, t, e1, e2, h⟩
  · exact .inl h
  · exact .inr ⟨a, t, e1, e2, h.kt k⟩
theorem wts_kt {C : Addr} {H H' : Hp} (k : KT H H') : ∀ {rs : List V} {ps : List (Option Tr)}, Paired (WtAt C H) rs ps → Paired (WtAt C H') rs ps
  | _, _, .nil => .nil
  | _, _, .cons h t => .cons (h.kt k) (wts_kt k t)
def wout : Option Tr → List Nat
  | none => [41]
  | some t => t.codes
def wouts (ps : List (Option Tr)) : List Nat := (ps.map wout).flatten
theorem wouts_cons (p : Option Tr) (ps : List (Option Tr)) : wouts (p :: ps) = wout p ++ wouts ps := by simp [wouts]
def wm1 : Option Tr → Nat
  | none => 1
  | some t => 3 * t.size + 1
def wm (ps : List (Option Tr)) : Nat := (ps.map wm1).sum
theorem wm_cons (p : Option Tr) (ps : List (Option Tr)) : wm (p :: ps) = wm1 p + wm ps := by simp [wm]
theorem wm_len : ∀ ps : List (Option Tr), ps.length ≤ wm ps
  | [] => Nat.zero_le _
  | p :: ps => by
    have := wm_len ps
    rw [wm_cons, List.length_cons]
    cases p with
    | none => simp only [wm1]; omega
    | some t => simp only [wm1]; omega
theorem line4 : 100000 < sizeLine := by rw [sizeLine_eq]; decide
end Js
set_option Elab.async false
set_option linter.all false
set_option maxRecDepth 100000
set_option maxHeartbeats 2000000
namespace Js
open PySem L2
def top (i : Nat) : Stmt := PySem.Challenge.pw_judgeslip_k17_no_codes.main.body.getD i (.Pass ⟨0, 0, 0, 0⟩)
abbrev sInit : Stmt := inClass (top 11) 0
abbrev sEq : Stmt := inClass (top 11) 4
abbrev sStr : Stmt := inClass (top 11) 5
abbrev sPairs : Stmt := top 12
abbrev sAlike : Stmt := top 13
abbrev sSigns : Stmt := top 14
structure Txt (K : PySem.W.Frag) (mg : Str → Option Value) (C : Addr) : Prop where
  cl : Cls K C
  nF : NoAttr K C "first"
  nS : NoAttr K C "second"
  nZ : NoAttr K C "size"
  mgC : mg "Thing" = some (.ref C)
  mgM : ∃ t, mg "MOST_PAIRS" = some (.int 4000 t)
  len : mg "len" = none
  range : mg "range" = none
  isi : mg "isinstance" = none
  ca : PySem.W.findIn K (.ref C) "__class__" = some (some (.builtin "object.__class__"))
  cn : PySem.W.specialIn K (.builtin "object.__class__") "__get__" = some (some (.builtin "getset_descriptor.__get__"))
  ct : PySem.W.takesIn K (.builtin "object.__class__") = some true
  cm : PySem.W.mroIn K C (.type "object") = some true
  ne : PySem.W.findIn K (.ref C) "__ne__" = some (some (.builtin "object.__ne__"))
structure At (K : PySem.W.Frag) (mg : Str → Option Value) (x : Str) (st : Stmt) (ps : List Str) (f : Addr) (fd : FuncData) : Prop where
  F : Fun K x x st f fd
  mgf : mg x = some (.ref f)
  b : Binds K fd ps []
def PairsOf (C : Addr) (H : Hp) (x y : V) (n : Nat) : Prop := (x = .non ∧ y = .non ∧ n = 0) ∨ ∃ a b t u, x = .ref a ∧ y = .ref b ∧ Th C H a t ∧ Th C H b u ∧ n = 1 + t.size + u.size
def spPairs (C : Addr) : Sp := fun vs H Q _ => ∃ x y n, vs = [x, y] ∧ PairsOf C H x y n ∧ Q (.int (n : Nat)) H
def spInit (C : Addr) : Sp := fun vs H Q _ => ∃ (p dx : Addr) (x y : V) (n : Nat), vs = [.ref p, x, y] ∧ H p = some (.ins C dx []) ∧ PairsOf C H x y n ∧ n ≤ 4000 ∧ Q .non (upd H p (.ins C dx (tf x y (n : Nat))))
def spEqT (C : Addr) : Sp := fun vs H Q _ => ∃ a b t u, vs = [.ref a, .ref b] ∧ Th C H a t ∧ Th C H b u ∧ t.size ≤ 4000 ∧ ∀ H', Same H H' → Q (.bl (decide (t = u))) H'
def sgn (c : Nat) : V := .str ⟨#[c]⟩
def spSigns (C : Addr) : Sp := fun vs H Q _ => ∃ a t, vs = [.ref a] ∧ Th C H a t ∧ t.size ≤ 4000 ∧ ∀ p H', Same H H' → H p = none → H' p = some (.lst (t.codes.map sgn)) → Q (.ref p) H'
def spStr (C : Addr) : Sp := fun vs H Q _ => ∃ a t, vs = [.ref a] ∧ Th C H a t ∧ t.size ≤ 4000 ∧ ∀ H', Same H H' → Q (.str t.text) H'
theorem mk_pr {C a b : Addr} {H : Hp} {t u : Tr} {Q : VK} {E : XK} (ha : Th C H a t) (hb : Th C H b u) (hz : 1 + t.size + u.size ≤ 4000) (k : ∀ x H', Same H H' → H x = none → Th C H' x (.pr t u) → Q (.ref x) H') :
    ∀ x dx, H x = none → H dx = none → dx ≠ x → spInit C (.ref x :: ([.ref a, .ref b] ++ [])) (upd (upd H dx (.own x)) x (.ins C dx [])) (fun v H3 => v = .non ∧ Q (.ref x) H3) E := by
  intro x dx nx ndx ne
  have s0 : Same H (upd (upd H dx (.own x)) x (.ins C dx [])) := fun b o e => by
    rw [upd_ne (ne_of_none e nx), upd_ne (ne_of_none e ndx)]
    exact e
  refine ⟨x, dx, _, _, 1 + t.size + u.size, rfl, upd_same, .inr ⟨a, b, t, u, rfl, rfl, ha.same s0, hb.same s0, rfl⟩, hz, rfl, ?_⟩
  rw [upd_upd]
  have s1 : Same H (upd (upd H dx (.own x)) x (.ins C dx (tf (.ref a) (.ref b) ((1 + t.size + u.size : Nat) : Int)))) := fun b o e => by
    rw [upd_ne (ne_of_none e nx), upd_ne (ne_of_none e ndx)]
    exact e
  exact k x _ s1 nx (.pr upd_same (ha.same s1) (hb.same s1))
theorem mk_nil {C : Addr} {H : Hp} {Q : VK} {E : XK} (k : ∀ x H', Same H H' → H x = none → Th C H' x .nil → Q (.ref x) H') :
    ∀ x dx, H x = none → H dx = none → dx ≠ x → spInit C (.ref x :: ([] ++ [.non, .non])) (upd (upd H dx (.own x)) x (.ins C dx [])) (fun v H3 => v = .non ∧ Q (.ref x) H3) E := by
  intro x dx nx ndx ne
  refine ⟨x, dx, _, _, 0, rfl, upd_same, .inl ⟨rfl, rfl, rfl⟩, by decide, rfl, ?_⟩
  rw [upd_upd]
  have s1 : Same H (upd (upd H dx (.own x)) x (.ins C dx (tf .non .non ((0 : Nat) : Int)))) := fun b o e => by
    rw [upd_ne (ne_of_none e nx), upd_ne (ne_of_none e ndx)]
    exact e
  exact k x _ s1 nx (.nil upd_same)
section
variable {P : Program} {w : World} {K : PySem.W.Frag} {mg : Str → Option Value} {base : Heap} {C : Addr}
theorem scP : FnScope ["first", "second"] ["first", "second"] (defScope sPairs) := ⟨rfl, rfl, rfl, by decide +kernel, rfl, by decide +kernel, by decide +kernel⟩
theorem ok_pairs {f : Addr} {fd : FuncData} (F : Fun K "pairs_in" "pairs_in" sPairs f fd) (T : Txt K mg C) : FnOk P w K mg base CX0 1 f fd ["first", "second"] (spPairs C) := by
  refine F.ok scP (fun vs H Q E h => ?_) (fun cdv A outer s H vs Q E hr h => ?_)
  · obtain ⟨x, y, n, rfl, _⟩ := h
    rfl
  · obtain ⟨x, y, n, rfl, hp, k⟩ := h
    refine ⟨_, pss_cons (ps_if (PW.pt (pw_and (pt_cmp (pc_isN (pv 0))) (pw_and1 (pt_cmp (pc_isN (pv 1)))))) (pss_one (ps_ret pe_int)) pss_nil)
      (pss_one (ps_ret (pe_op op_add (pe_op op_add pe_int (pe_fld (pv 0) rfl)) (pe_fld (pv 1) rfl)))), ?_⟩
    rcases hp with ⟨rfl, rfl, rfl⟩ | ⟨a, b, t, u, rfl, rfl, ha, hb, rfl⟩
    · refine ⟨_, rfl, _, rfl, ?_⟩
      refine iteT ⟨_, rfl, _, rfl, ?_⟩
      exact iteT k
    · refine ⟨_, rfl, _, rfl, ?_⟩
      refine iteF ?_
      refine iteF ?_
      obtain ⟨dx, f1, s1, h1⟩ := ha.obj
      obtain ⟨dy, f2, s2, h2⟩ := hb.obj
      refine ⟨_, rfl, _, _, _, _, _, rfl, h1, T.cl, T.nZ, tf_size _ _ _, _, _, rfl, rfl, _, rfl, _, _, _, _, _, rfl, h2, T.cl, T.nZ, tf_size _ _ _, _, _, rfl, rfl, ?_⟩
      have e : ((1 : Int) + (t.size : Nat) + (u.size : Nat)) = ((1 + t.size + u.size : Nat) : Int) := by omega
      show Q (V.int ((1 : Int) + (t.size : Nat) + (u.size : Nat))) H
      rw [e]
      exact k
theorem scI : FnScope ["self", "first", "second", "size"] ["self", "first", "second"] (defScope sInit) := ⟨rfl, rfl, rfl, by decide +kernel, rfl, by decide +kernel, by decide +kernel⟩
theorem ok_init {f fP : Addr} {fd fdP : FuncData} (F : FunD K "__init__" "Thing.__init__" (defArgs sInit) (defBody sInit) (defScope sInit) [.non, .non] [] f fd) (T : Txt K mg C) (AP : At K mg "pairs_in" sPairs ["first", "second"] fP fdP) : FnOk P w K mg base CX0 2 f fd ["self", "first", "second"] (spInit C) := by
  have GP : FnOk P w K mg base CX0 1 fP fdP ["first", "second"] (spPairs C) := ok_pairs AP.F T
  obtain ⟨tm, mgM⟩ := T.mgM
  refine F.ok scI (fun vs H Q E h => ?_) (fun cdv A outer s H vs Q E hr h => ?_)
  · obtain ⟨p, dx, x, y, n, rfl, _⟩ := h
    rfl
  · obtain ⟨p, dx, x, y, n, rfl, hp, hxy, hn, k⟩ := h
    refine ⟨_, PSs.nox (pss_cons (ps_set (i := 3) scI.nd rfl (Or.inl rfl) (pe_call GP hr rfl AP.mgf AP.F.kp AP.b .nil pass0 (pa_cons (pv 1) (pa_cons (pv 2) pa_nil))))
      (pss_cons (ps_if (pt_cmpR op_gt (pv 3) (pe_glob (v := .int 4000) rfl mgM ⟨_, rfl⟩) (nomark _)) (pss_one ps_never) pss_nil)
      (pss_cons (ps_fld (pv 0) (pv 1) rfl) (pss_cons (ps_fld (pv 0) (pv 2) rfl) (pss_one (ps_fld (pv 0) (pv 3) rfl)))))), ?_⟩
    refine ⟨_, rfl, _, rfl, x, y, n, rfl, hxy, ?_⟩
    refine ⟨_, rfl, _, _, rfl, rfl, _, rfl, ?_⟩
    have ed : decide ((4000 : Int) < (n : Nat)) = false := decide_eq_false (by omega)
    rw [ed]
    refine iteF ?_
    refine ⟨_, rfl, _, rfl, p, C, dx, [], rfl, hp, T.cl, T.nF, (by show 0 < 1000; decide), ?_⟩
    refine ⟨_, rfl, _, rfl, p, C, dx, _, rfl, upd_same, T.cl, T.nS, Nat.lt_of_le_of_lt (length_putF _ _ _) (by show 0 + 1 < 1000; decide), ?_⟩
    refine ⟨_, rfl, _, rfl, p, C, dx, _, rfl, upd_same, T.cl, T.nZ, ?_, ?_⟩
    · have h1 := length_putF "first" x []
      have h2 := length_putF "second" y (putF "first" x [])
      simp only [List.length_nil] at h1
      omega
    · show Q .non (upd (upd (upd H p _) p _) p (.ins C dx (tf x y (n : Nat))))
      rw [upd_upd, upd_upd]
      exact k
end
end Js
set_option Elab.async false
set_option linter.all false
set_option maxRecDepth 100000
set_option maxHeartbeats 2000000
namespace Js
open PySem PySem.Spec PyProof.Rows L2
def intB (K : PySem.W.Frag) (d : Addr) (x : Str) (n : Int) : Bool := match PySem.W.nsIn K d x with
  | some (some (.int j _)) => decide (j = n)
  | _ => false
theorem int_raw {K : PySem.W.Frag} {d : Addr} {x : Str} {n : Int} (h : intB K d x n = true) : ∃ t, PySem.W.nsIn K d x = some (some (.int n t)) := by
  unfold intB at h
  split at h
  · rename_i j t e
    rw [← of_decide_eq_true h]
    exact ⟨t, e⟩
  · cases h
def strB (K : PySem.W.Frag) (d : Addr) (x z : Str) : Bool := match PySem.W.nsIn K d x with
  | some (some (.str y _)) => decide (y = z)
  | _ => false
theorem str_raw {K : PySem.W.Frag} {d : Addr} {x z : Str} (h : strB K d x z = true) : ∃ t, PySem.W.nsIn K d x = some (some (.str z t)) := by
  unfold strB at h
  split at h
  · rename_i j t e
    rw [← of_decide_eq_true h]
    exact ⟨t, e⟩
  · cases h
def excB (K : PySem.W.Frag) (C : Addr) (bm : List Value) (newId : String) : Bool := match K.lookup C with
  | some ⟨.type "type", _, .cls cd, sl⟩ => (match cd.mro, sl.toList with
    | .ref C' :: bm', [_, _, _, _, some (.builtin n), _] => C' == C && n == newId && !cd.hasDel && decide (bm' = bm) && cd.hasDict
    | _, _ => false)
  | _ => false
theorem exc_raw {K : PySem.W.Frag} {C : Addr} {bm : List Value} {newId : String} (q : excB K C bm newId = true) : ∃ nm qn N bs sn sub ab col dd k0 k1 k2 k3 k5,
    K.lookup C = some (excClassObj nm qn C N bs bm true sn sub ab col dd k0 k1 k2 k3 k5 newId) := by
  unfold excB at q
  split at q
  · rename_i dd cd sl ho
    split at q
    · rename_i C' bm' k0 k1 k2 k3 n k5 hm hs
      simp only [Bool.and_eq_true, beq_iff_eq, Bool.not_eq_true', decide_eq_true_eq] at q
      obtain ⟨⟨⟨⟨rfl, rfl⟩, hdel⟩, rfl⟩, hd⟩ := q
      obtain ⟨nm, bs, mro, ns, qn, hdd, sn, sub, ab, col, del⟩ := cd
      dsimp only at hm hdel hd
      subst hm hdel hd
      have hsl : sl = #[k0, k1, k2, k3, some (.builtin n), k5] := by
        obtain ⟨l⟩ := sl
        simp only at hs
        rw [hs]
      subst hsl
      exact ⟨nm, qn, ns, bs, sn, sub, ab, col, dd, k0, k1, k2, k3, k5, ho⟩
    · cases q
  · cases q
section
variable {fa : List He.Fa} {fn : List He.DefD} {K : PySem.W.Frag}
theorem fn_one (c : He.SaysD fa fn K) (i : Nat) {d : He.DefD} (h : fn[i]? = some d) : He.fnW K d.at_ = d.val ∧ d.ok K = true := by
  have c2 := (He.ba (show ((fa.all fun f => f.ok K) && fn.all fun d => d.ok K) = true from congrArg (fun z : He.AlD => z.1) c)).2
  have e : fn.map (fun d => He.fnW K d.at_) = fn.map He.DefD.val := congrArg (fun z : He.AlD => z.2) c
  have e2 : (fn.map fun d => He.fnW K d.at_)[i]? = (fn.map He.DefD.val)[i]? := by rw [e]
  rw [List.getElem?_map, List.getElem?_map, h] at e2
  exact ⟨Option.some.inj e2, List.all_eq_true.mp c2 d (List.mem_of_getElem? h)⟩
theorem fn_any (c : He.SaysD fa fn K) (i : Nat) {p : Str × Option Str} {name qual : Str} {st : Stmt} {dl : List He.Dv} (h : fn[i]? = some ⟨p, name, qual, defArgs st, defBody st, defScope st, dl, []⟩) :
    ∃ oc od osl dV kV dc pm an cd ct, K.lookup (He.fAd K p) = some ⟨oc, od, .func (PySem.W.fnOf name qual (defArgs st) (defBody st) (defScope st) dV kV dc pm an cd ct), osl⟩ ∧ PySem.W.codeIn K cd qual = true ∧ He.dflB K dV (dl.map (He.Dv.v K)) = true := by
  obtain ⟨e, c1⟩ := fn_one c i h
  obtain ⟨kp, c2⟩ := He.ba c1
  unfold He.fnW at e
  dsimp only at e c2
  cases q : K.lookup (He.fAd K p) with
  | none =>
    rw [q] at c2
    cases c2
  | some o =>
    obtain ⟨oc, od, dt, osl⟩ := o
    rw [q] at c2 e
    cases dt with
    | func fd =>
      obtain ⟨n1, n2, n3, n4, n5, n6, n7, n8, n9, n10, n11, n12, n13, n14, n15⟩ := fd
      have e2 : (some (n1, n2, n3, n4, n5, n6, n7, n15) : He.FnW) = some (name, qual, defArgs st, .stmts (defBody st), defScope st, mainGlobals, [], builtinsNs) := e
      simp only [Option.some.injEq, Prod.mk.injEq] at e2
      obtain ⟨h1, h2, h3, h4, h5, h6, h7, h8⟩ := e2
      subst h1 h2 h3 h4 h5 h6 h7 h8
      have c3 : (PySem.W.codeIn K n13 n2 && (He.dflB K n8 (dl.map (He.Dv.v K)) && He.kwdB K n9 [])) = true := c2
      obtain ⟨k1, k2⟩ := He.ba c3
      obtain ⟨k3, k4⟩ := He.ba k2
      exact ⟨oc, od, osl, n8, n9, n10, n11, n12, n13, n14, rfl, k1, k3⟩
    | _ => cases c2
theorem fn_raw (c : He.SaysD fa fn K) (i : Nat) (p : Str × Option Str) (name qual : Str) (st : Stmt) (h : fn[i]? = some ⟨p, name, qual, defArgs st, defBody st, defScope st, [], []⟩) :
    ∃ oc od osl kV dc pm an cd ct, K.lookup (He.fAd K p) = some ⟨oc, od, .func (PySem.W.fnOf name qual (defArgs st) (defBody st) (defScope st) .none kV dc pm an cd ct), osl⟩ ∧ PySem.W.codeIn K cd qual = true := by
  obtain ⟨oc, od, osl, dV, kV, dc, pm, an, cd, ct, e, h1, h2⟩ := fn_any c i h
  cases dV with
  | none => exact ⟨oc, od, osl, kV, dc, pm, an, cd, ct, e, h1⟩
  | _ => cases h2
theorem fn_rawD (c : He.SaysD fa fn K) (i : Nat) (p : Str × Option Str) (name qual : Str) (st : Stmt) (v : He.Dv) (vs : List He.Dv) (h : fn[i]? = some ⟨p, name, qual, defArgs st, defBody st, defScope st, v :: vs, []⟩) :
    ∃ oc od osl T kV dc pm an cd ct ot odt its nt slt, K.lookup (He.fAd K p) = some ⟨oc, od, .func (PySem.W.fnOf name qual (defArgs st) (defBody st) (defScope st) (.ref T) kV dc pm an cd ct), osl⟩ ∧ PySem.W.codeIn K cd qual = true ∧
      K.lookup T = some ⟨ot, odt, .seq its nt, slt⟩ ∧ Vals ((v :: vs).map (He.Dv.v K)) its.toList := by
  obtain ⟨oc, od, osl, dV, kV, dc, pm, an, cd, ct, e, h1, h2⟩ := fn_any c i h
  cases dV with
  | ref T =>
    have h3 : (match K.lookup T with
      | some ⟨_, _, .seq its _, _⟩ => He.relAll ((v :: vs).map (He.Dv.v K)) its.toList
      | _ => false) = true := h2
    cases q : K.lookup T with
    | none =>
      rw [q] at h3
      cases h3
    | some o =>
      obtain ⟨ot, odt, dt, slt⟩ := o
      rw [q] at h3
      cases dt with
      | seq its n => exact ⟨oc, od, osl, T, kV, dc, pm, an, cd, ct, ot, odt, its, n, slt, e, h1, q, He.relAll_ok h3⟩
      | _ => cases h3
  | _ => cases h2
end
theorem tab_keys {fa : List He.Fa} {fn : List He.DefD} {ts : List He.Tab} {w : World} {K : PySem.W.Frag} (c : He.SaysT fa fn ts w K) (i : Nat) {t : He.Tab} (h : ts[i]? = some t) : ∃ es n, KDict K w (t.1 K) es n ∧ es.toList.map He.keyOf = He.keysIn w.params t.2 := by
  obtain ⟨es, n, d⟩ := c.tab i h
  refine ⟨es, n, d, ?_⟩
  have e : ts.map (fun t => He.dicW K (t.1 K)) = ts.map fun t => some (He.keysIn w.params t.2) := congrArg (fun z : He.AlT => z.2) c
  have e2 : (ts.map fun t => He.dicW K (t.1 K))[i]? = (ts.map fun t => some (He.keysIn w.params t.2))[i]? := by rw [e]
  rw [List.getElem?_map, List.getElem?_map, h] at e2
  have e3 : He.dicW K (t.1 K) = some (He.keysIn w.params t.2) := Option.some.inj e2
  unfold He.dicW at e3
  rw [d.at_] at e3
  dsimp only at e3
  split at e3
  · exact Option.some.inj e3
  · cases e3
section
variable (as : List Addr) (fn : List He.DefD) (ts : List He.Tab) (ex : PySem.W.Frag → Bool)
def hookC : PySem.W.Hook where
  α := He.AlT × Bool
  obs := fun s => (He.obsT [] fn ts (He.frG s.heap.get? as), ex (He.frG s.heap.get? as))
  val := fun w => (He.valT fn ts w, true)
  says := fun w h => ∃ K : PySem.W.Frag, K.In h ∧ He.SaysT [] fn ts w K ∧ ex K = true
  of := fun _ _ e => ⟨_, He.frG_in, congrArg (fun z : He.AlT × Bool => z.1) e, congrArg (fun z : He.AlT × Bool => z.2) e⟩
  keeps := fun _ _ _ ⟨K, hK, c⟩ k => ⟨K, PySem.W.Frag.In.keeps hK k, c⟩
def obC (s : PySem.W.SharedT) : He.AlT × Bool := (He.obsT [] fn ts (He.frG (HandSHeadRun.getT s) as), ex (He.frG (HandSHeadRun.getT s) as))
theorem obC_eq (s : PySem.W.SharedT) : obC as fn ts ex s = (hookC as fn ts ex).obs s.abs := by
  have e : HandSHeadRun.getT s = s.abs.heap.get? := funext (HandSHeadRun.getT_eq s)
  unfold obC
  rw [e]
  rfl
end
theorem run_join {r : PySem.W.OpenRow} {q : Program} {as : List Addr} {fn : List He.DefD} {ts : List He.Tab} {ex : PySem.W.Frag → Bool} {M : Nat} {loose : List Str} {w : World} (h0 : HandSHeadRun.RunEq r q PySem.W.Hook.none (fun _ => ()) M loose w)
    (h1 : ∀ os : OsState, (HandSHeadRun.endF (HandSHeadRun.stepQ (HandSHeadRun.denQ HandSHeadRun.tabQ) r.prog w) M r.prog w os).map (fun s => He.obsT [] fn ts (He.frG (HandSHeadRun.getT s) as)) = some (He.valT fn ts w))
    (h2 : ∀ os : OsState, (HandSHeadRun.endF (HandSHeadRun.stepQ (HandSHeadRun.denQ HandSHeadRun.tabQ) r.prog w) M r.prog w os).map (fun s => ex (He.frG (HandSHeadRun.getT s) as)) = some true) :
    HandSHeadRun.RunEq r q (hookC as fn ts ex) (obC as fn ts ex) M loose w := by
  intro os
  have a0 := h0 os
  have a1 := h1 os
  have a2 := h2 os
  revert a0 a1 a2
  generalize HandSHeadRun.endF (HandSHeadRun.stepQ (HandSHeadRun.denQ HandSHeadRun.tabQ) r.prog w) M r.prog w os = o
  intro a0 a1 a2
  cases o with
  | none => cases a1
  | some s =>
    have b0 := Option.some.inj a0
    have b1 : He.obsT [] fn ts (He.frG (HandSHeadRun.getT s) as) = He.valT fn ts w := Option.some.inj a1
    have b2 : ex (He.frG (HandSHeadRun.getT s) as) = true := Option.some.inj a2
    obtain ⟨c1, c2⟩ := Prod.mk.inj b0
    obtain ⟨c2, _⟩ := Prod.mk.inj c2
    show some (_, _, (He.obsT [] fn ts (He.frG (HandSHeadRun.getT s) as), ex (He.frG (HandSHeadRun.getT s) as))) = some (true, _, (He.valT fn ts w, true))
    rw [b1, b2, c1, c2]
theorem ex_at {K : PySem.W.Frag} {l : List (PySem.W.Frag → Bool)} (h : (l.all fun f => f K) = true) (i : Nat) {f : PySem.W.Frag → Bool} (e : l[i]? = some f) : f K = true := List.all_eq_true.mp h f (List.mem_of_getElem? e)
end Js
set_option Elab.async false
set_option linter.all false
set_option maxRecDepth 100000
set_option maxHeartbeats 0
namespace Js
open PySem PySem.Spec PyProof.Rows L2
def hnm0 : List Str := ["_wall", "NoText", "NoProgram", "NoStep", "TooGreat", "NoRoom", "NoName", "NoSaying", "MOST_PAIRS", "Thing", "pairs_in", "alike", "signs", "number", "counted", "row", "parts", "MANY_NAMES", "MOST_DEEDS", "MOST_FLOORS", "LETTERS", "FORMS", "Program", "is_name", "fits", "has_form", "names_in", "rows_in", "look_through", "lay_out"]
def hnm1 : List Str := ["row_words", "deed_words", "code_of", "row_code", "deed_code", "part_code", "program_of", "is_code", "row_told", "deed_told", "kind_told", "part_told", "read_thing", "is_whole", "signs_due", "_law_bag", "_law_take", "_law_thing", "_law_name", "_law_deed", "_law_deeds", "_law_top", "_law_head", "_law_tail", "_law_number_text", "_law_row_text", "_law_code", "_law_parts", "_law_number", "_law_deed_wrong"]
def hnm2 : List Str := ["_law_wrong", "_law_bent", "_law_tail_of", "_law_raw", "_law_two_faults", "_law_tall", "_law_good"]
def hnames : List Str := hnm0 ++ hnm1 ++ hnm2
def hfn0 : List He.DefD := [
  ⟨("Thing", some "__init__"), "__init__", "Thing.__init__", defArgs (inClass (top 11) 0), defBody (inClass (top 11) 0), defScope (inClass (top 11) 0), [.non, .non], []⟩,
  ⟨("Thing", some "__eq__"), "__eq__", "Thing.__eq__", defArgs (inClass (top 11) 4), defBody (inClass (top 11) 4), defScope (inClass (top 11) 4), [], []⟩,
  ⟨("Thing", some "__str__"), "__str__", "Thing.__str__", defArgs (inClass (top 11) 5), defBody (inClass (top 11) 5), defScope (inClass (top 11) 5), [], []⟩,
  ⟨("pairs_in", none), "pairs_in", "pairs_in", defArgs (top 12), defBody (top 12), defScope (top 12), [], []⟩,
  ⟨("alike", none), "alike", "alike", defArgs (top 13), defBody (top 13), defScope (top 13), [], []⟩,
  ⟨("signs", none), "signs", "signs", defArgs (top 14), defBody (top 14), defScope (top 14), [], []⟩,
  ⟨("is_name", none), "is_name", "is_name", defArgs (top 26), defBody (top 26), defScope (top 26), [], []⟩,
  ⟨("fits", none), "fits", "fits", defArgs (top 27), defBody (top 27), defScope (top 27), [], []⟩,
  ⟨("has_form", none), "has_form", "has_form", defArgs (top 28), defBody (top 28), defScope (top 28), [], []⟩,
  ⟨("rows_in", none), "rows_in", "rows_in", defArgs (top 30), defBody (top 30), defScope (top 30), [], []⟩,
  ⟨("look_through", none), "look_through", "look_through", defArgs (top 31), defBody (top 31), defScope (top 31), [], []⟩,
  ⟨("lay_out", none), "lay_out", "lay_out", defArgs (top 32), defBody (top 32), defScope (top 32), [], []⟩,
  ⟨("number", none), "number", "number", defArgs (top 15), defBody (top 15), defScope (top 15), [], []⟩,
  ⟨("row", none), "row", "row", defArgs (top 17), defBody (top 17), defScope (top 17), [], []⟩,
  ⟨("code_of", none), "code_of", "code_of", defArgs (top 36), defBody (top 36), defScope (top 36), [], []⟩,
  ⟨("row_code", none), "row_code", "row_code", defArgs (top 37), defBody (top 37), defScope (top 37), [], []⟩,
  ⟨("deed_code", none), "deed_code", "deed_code", defArgs (top 38), defBody (top 38), defScope (top 38), [], []⟩,
  ⟨("part_code", none), "part_code", "part_code", defArgs (top 39), defBody (top 39), defScope (top 39), [], []⟩,
  ⟨("counted", none), "counted", "counted", defArgs (top 16), defBody (top 16), defScope (top 16), [], []⟩,
  ⟨("parts", none), "parts", "parts", defArgs (top 18), defBody (top 18), defScope (top 18), [], []⟩]
def hfn1 : List He.DefD := [
  ⟨("program_of", none), "program_of", "program_of", defArgs (top 40), defBody (top 40), defScope (top 40), [], []⟩,
  ⟨("row_told", none), "row_told", "row_told", defArgs (top 42), defBody (top 42), defScope (top 42), [], []⟩,
  ⟨("deed_told", none), "deed_told", "deed_told", defArgs (top 43), defBody (top 43), defScope (top 43), [], []⟩,
  ⟨("kind_told", none), "kind_told", "kind_told", defArgs (top 44), defBody (top 44), defScope (top 44), [], []⟩,
  ⟨("part_told", none), "part_told", "part_told", defArgs (top 45), defBody (top 45), defScope (top 45), [], []⟩,
  ⟨("is_code", none), "is_code", "is_code", defArgs (top 41), defBody (top 41), defScope (top 41), [], []⟩,
  ⟨("read_thing", none), "read_thing", "read_thing", defArgs (top 47), defBody (top 47), defScope (top 47), [], []⟩,
  ⟨("is_whole", none), "is_whole", "is_whole", defArgs (top 48), defBody (top 48), defScope (top 48), [], []⟩,
  ⟨("signs_due", none), "signs_due", "signs_due", defArgs (top 49), defBody (top 49), defScope (top 49), [], []⟩,
  ⟨("_law_bag", none), "_law_bag", "_law_bag", defArgs (top 51), defBody (top 51), defScope (top 51), [], []⟩,
  ⟨("_law_take", none), "_law_take", "_law_take", defArgs (top 52), defBody (top 52), defScope (top 52), [], []⟩,
  ⟨("_law_thing", none), "_law_thing", "_law_thing", defArgs (top 53), defBody (top 53), defScope (top 53), [], []⟩,
  ⟨("_law_name", none), "_law_name", "_law_name", defArgs (top 54), defBody (top 54), defScope (top 54), [], []⟩,
  ⟨("_law_deed", none), "_law_deed", "_law_deed", defArgs (top 55), defBody (top 55), defScope (top 55), [], []⟩,
  ⟨("_law_deeds", none), "_law_deeds", "_law_deeds", defArgs (top 56), defBody (top 56), defScope (top 56), [], []⟩,
  ⟨("_law_top", none), "_law_top", "_law_top", defArgs (top 57), defBody (top 57), defScope (top 57), [], []⟩,
  ⟨("_law_head", none), "_law_head", "_law_head", defArgs (top 58), defBody (top 58), defScope (top 58), [], []⟩,
  ⟨("_law_tail", none), "_law_tail", "_law_tail", defArgs (top 59), defBody (top 59), defScope (top 59), [], []⟩,
  ⟨("_law_number_text", none), "_law_number_text", "_law_number_text", defArgs (top 60), defBody (top 60), defScope (top 60), [], []⟩,
  ⟨("_law_row_text", none), "_law_row_text", "_law_row_text", defArgs (top 61), defBody (top 61), defScope (top 61), [], []⟩]
def hfn2 : List He.DefD := [
  ⟨("_law_code", none), "_law_code", "_law_code", defArgs (top 62), defBody (top 62), defScope (top 62), [], []⟩,
  ⟨("_law_parts", none), "_law_parts", "_law_parts", defArgs (top 63), defBody (top 63), defScope (top 63), [], []⟩,
  ⟨("_law_number", none), "_law_number", "_law_number", defArgs (top 64), defBody (top 64), defScope (top 64), [], []⟩,
  ⟨("_law_deed_wrong", none), "_law_deed_wrong", "_law_deed_wrong", defArgs (top 65), defBody (top 65), defScope (top 65), [], []⟩,
  ⟨("_law_wrong", none), "_law_wrong", "_law_wrong", defArgs (top 66), defBody (top 66), defScope (top 66), [], []⟩,
  ⟨("_law_bent", none), "_law_bent", "_law_bent", defArgs (top 67), defBody (top 67), defScope (top 67), [], []⟩,
  ⟨("_law_tail_of", none), "_law_tail_of", "_law_tail_of", defArgs (top 68), defBody (top 68), defScope (top 68), [], []⟩,
  ⟨("_law_raw", none), "_law_raw", "_law_raw", defArgs (top 69), defBody (top 69), defScope (top 69), [], []⟩,
  ⟨("_law_two_faults", none), "_law_two_faults", "_law_two_faults", defArgs (top 70), defBody (top 70), defScope (top 70), [], []⟩,
  ⟨("_law_tall", none), "_law_tall", "_law_tall", defArgs (top 71), defBody (top 71), defScope (top 71), [], []⟩,
  ⟨("_law_good", none), "_law_good", "_law_good", defArgs (top 72), defBody (top 72), defScope (top 72), [], []⟩,
  ⟨("law", none), "law", "law", defArgs (top 73), defBody (top 73), defScope (top 73), [], []⟩,
  ⟨("Program", some "__init__"), "__init__", "Program.__init__", defArgs (inClass (top 25) 0), defBody (inClass (top 25) 0), defScope (inClass (top 25) 0), [], []⟩,
  ⟨("Program", some "__len__"), "__len__", "Program.__len__", defArgs (inClass (top 25) 2), defBody (inClass (top 25) 2), defScope (inClass (top 25) 2), [], []⟩,
  ⟨("Program", some "__eq__"), "__eq__", "Program.__eq__", defArgs (inClass (top 25) 3), defBody (inClass (top 25) 3), defScope (inClass (top 25) 3), [], []⟩,
  ⟨("TooGreat", some "__init__"), "__init__", "TooGreat.__init__", defArgs (inClass (top 5) 0), defBody (inClass (top 5) 0), defScope (inClass (top 5) 0), [], []⟩,
  ⟨("NoProgram", some "__init__"), "__init__", "NoProgram.__init__", defArgs (inClass (top 3) 0), defBody (inClass (top 3) 0), defScope (inClass (top 3) 0), [], []⟩]
def hfn : List He.DefD := hfn0 ++ hfn1 ++ hfn2
def hts : List He.Tab := [(fun K => He.ga K "FORMS", ["told", "first", "second", "pair", "same", "while", "if"])]
def hex0 : List (PySem.W.Frag → Bool) := [
  fun K => decide (PySem.W.nsIn K mainGlobals "Thing" = some (some (.ref (He.ga K "Thing")))),
  fun K => decide (PySem.W.plainGet K (He.ga K "Thing") Str.empty = true),
  fun K => decide (PySem.W.hasDictIn K (He.ga K "Thing") = true),
  fun K => decide (PySem.W.plainOver K (He.ga K "Thing") = true),
  fun K => decide (PySem.W.findIn K (.ref (He.ga K "Thing")) "__setattr__" = some (some (.builtin "object.__setattr__"))),
  fun K => decide (PySem.W.makesIn K (He.ga K "Thing") = true),
  fun K => decide (PySem.W.keepIn K (.ref (He.ga K "Thing")) = true),
  fun K => decide (PySem.W.findIn K (.ref (He.ga K "Thing")) "first" = some none),
  fun K => decide (PySem.W.findIn K (.ref (He.ga K "Thing")) "second" = some none),
  fun K => decide (PySem.W.findIn K (.ref (He.ga K "Thing")) "size" = some none),
  fun K => decide (PySem.W.findIn K (.ref (He.ga K "Thing")) "__class__" = some (some (.builtin "object.__class__"))),
  fun K => decide (PySem.W.specialIn K (.builtin "object.__class__") "__get__" = some (some (.builtin "getset_descriptor.__get__"))),
  fun K => decide (PySem.W.takesIn K (.builtin "object.__class__") = some true),
  fun K => decide (PySem.W.mroIn K (He.ga K "Thing") (.type "object") = some true),
  fun K => decide (PySem.W.findIn K (.ref (He.ga K "Thing")) "__ne__" = some (some (.builtin "object.__ne__"))),
  fun K => intB K mainGlobals "MOST_PAIRS" 4000,
  fun K => decide (PySem.W.findIn K (.ref (He.ga K "Thing")) "__init__" = some (some (.ref (He.ma K (He.ga K "Thing") "__init__")))),
  fun K => decide (PySem.W.isFn K (.ref (He.ma K (He.ga K "Thing") "__init__")) = true),
  fun K => decide (PySem.W.keepIn K (.ref (He.ma K (He.ga K "Thing") "__init__")) = true),
  fun K => decide (PySem.W.findIn K (.ref (He.ga K "Thing")) "__eq__" = some (some (.ref (He.ma K (He.ga K "Thing") "__eq__"))))]
def hex1 : List (PySem.W.Frag → Bool) := [
  fun K => decide (PySem.W.isFn K (.ref (He.ma K (He.ga K "Thing") "__eq__")) = true),
  fun K => decide (PySem.W.keepIn K (.ref (He.ma K (He.ga K "Thing") "__eq__")) = true),
  fun K => decide (PySem.W.findIn K (.ref (He.ga K "Thing")) "__str__" = some (some (.ref (He.ma K (He.ga K "Thing") "__str__")))),
  fun K => decide (PySem.W.isFn K (.ref (He.ma K (He.ga K "Thing") "__str__")) = true),
  fun K => decide (PySem.W.keepIn K (.ref (He.ma K (He.ga K "Thing") "__str__")) = true),
  fun K => decide (PySem.W.nsIn K mainGlobals "pairs_in" = some (some (.ref (He.ga K "pairs_in")))),
  fun K => decide (PySem.W.keepIn K (.ref (He.ga K "pairs_in")) = true),
  fun K => decide (PySem.W.nsIn K mainGlobals "alike" = some (some (.ref (He.ga K "alike")))),
  fun K => decide (PySem.W.keepIn K (.ref (He.ga K "alike")) = true),
  fun K => decide (PySem.W.nsIn K mainGlobals "signs" = some (some (.ref (He.ga K "signs")))),
  fun K => decide (PySem.W.keepIn K (.ref (He.ga K "signs")) = true),
  fun K => decide (PySem.W.nsIn K mainGlobals "is_name" = some (some (.ref (He.ga K "is_name")))),
  fun K => decide (PySem.W.keepIn K (.ref (He.ga K "is_name")) = true),
  fun K => decide (PySem.W.nsIn K mainGlobals "fits" = some (some (.ref (He.ga K "fits")))),
  fun K => decide (PySem.W.keepIn K (.ref (He.ga K "fits")) = true),
  fun K => decide (PySem.W.nsIn K mainGlobals "has_form" = some (some (.ref (He.ga K "has_form")))),
  fun K => decide (PySem.W.keepIn K (.ref (He.ga K "has_form")) = true),
  fun K => decide (PySem.W.nsIn K mainGlobals "rows_in" = some (some (.ref (He.ga K "rows_in")))),
  fun K => decide (PySem.W.keepIn K (.ref (He.ga K "rows_in")) = true),
  fun K => decide (PySem.W.nsIn K mainGlobals "look_through" = some (some (.ref (He.ga K "look_through"))))]
def hex2 : List (PySem.W.Frag → Bool) := [
  fun K => decide (PySem.W.keepIn K (.ref (He.ga K "look_through")) = true),
  fun K => decide (PySem.W.nsIn K mainGlobals "lay_out" = some (some (.ref (He.ga K "lay_out")))),
  fun K => decide (PySem.W.keepIn K (.ref (He.ga K "lay_out")) = true),
  fun K => decide (PySem.W.nsIn K mainGlobals "number" = some (some (.ref (He.ga K "number")))),
  fun K => decide (PySem.W.keepIn K (.ref (He.ga K "number")) = true),
  fun K => decide (PySem.W.nsIn K mainGlobals "row" = some (some (.ref (He.ga K "row")))),
  fun K => decide (PySem.W.keepIn K (.ref (He.ga K "row")) = true),
  fun K => decide (PySem.W.nsIn K mainGlobals "code_of" = some (some (.ref (He.ga K "code_of")))),
  fun K => decide (PySem.W.keepIn K (.ref (He.ga K "code_of")) = true),
  fun K => decide (PySem.W.nsIn K mainGlobals "row_code" = some (some (.ref (He.ga K "row_code")))),
  fun K => decide (PySem.W.keepIn K (.ref (He.ga K "row_code")) = true),
  fun K => decide (PySem.W.nsIn K mainGlobals "deed_code" = some (some (.ref (He.ga K "deed_code")))),
  fun K => decide (PySem.W.keepIn K (.ref (He.ga K "deed_code")) = true),
  fun K => decide (PySem.W.nsIn K mainGlobals "part_code" = some (some (.ref (He.ga K "part_code")))),
  fun K => decide (PySem.W.keepIn K (.ref (He.ga K "part_code")) = true),
  fun K => decide (PySem.W.nsIn K mainGlobals "counted" = some (some (.ref (He.ga K "counted")))),
  fun K => decide (PySem.W.keepIn K (.ref (He.ga K "counted")) = true),
  fun K => decide (PySem.W.nsIn K mainGlobals "parts" = some (some (.ref (He.ga K "parts")))),
  fun K => decide (PySem.W.keepIn K (.ref (He.ga K "parts")) = true),
  fun K => decide (PySem.W.nsIn K mainGlobals "program_of" = some (some (.ref (He.ga K "program_of"))))]
def hex3 : List (PySem.W.Frag → Bool) := [
  fun K => decide (PySem.W.keepIn K (.ref (He.ga K "program_of")) = true),
  fun K => decide (PySem.W.nsIn K mainGlobals "row_told" = some (some (.ref (He.ga K "row_told")))),
  fun K => decide (PySem.W.keepIn K (.ref (He.ga K "row_told")) = true),
  fun K => decide (PySem.W.nsIn K mainGlobals "deed_told" = some (some (.ref (He.ga K "deed_told")))),
  fun K => decide (PySem.W.keepIn K (.ref (He.ga K "deed_told")) = true),
  fun K => decide (PySem.W.nsIn K mainGlobals "kind_told" = some (some (.ref (He.ga K "kind_told")))),
  fun K => decide (PySem.W.keepIn K (.ref (He.ga K "kind_told")) = true),
  fun K => decide (PySem.W.nsIn K mainGlobals "part_told" = some (some (.ref (He.ga K "part_told")))),
  fun K => decide (PySem.W.keepIn K (.ref (He.ga K "part_told")) = true),
  fun K => decide (PySem.W.nsIn K mainGlobals "is_code" = some (some (.ref (He.ga K "is_code")))),
  fun K => decide (PySem.W.keepIn K (.ref (He.ga K "is_code")) = true),
  fun K => decide (PySem.W.nsIn K mainGlobals "read_thing" = some (some (.ref (He.ga K "read_thing")))),
  fun K => decide (PySem.W.keepIn K (.ref (He.ga K "read_thing")) = true),
  fun K => decide (PySem.W.nsIn K mainGlobals "is_whole" = some (some (.ref (He.ga K "is_whole")))),
  fun K => decide (PySem.W.keepIn K (.ref (He.ga K "is_whole")) = true),
  fun K => decide (PySem.W.nsIn K mainGlobals "signs_due" = some (some (.ref (He.ga K "signs_due")))),
  fun K => decide (PySem.W.keepIn K (.ref (He.ga K "signs_due")) = true),
  fun K => decide (PySem.W.nsIn K mainGlobals "_law_bag" = some (some (.ref (He.ga K "_law_bag")))),
  fun K => decide (PySem.W.keepIn K (.ref (He.ga K "_law_bag")) = true),
  fun K => decide (PySem.W.nsIn K mainGlobals "_law_take" = some (some (.ref (He.ga K "_law_take"))))]
def hex4 : List (PySem.W.Frag → Bool) := [
  fun K => decide (PySem.W.keepIn K (.ref (He.ga K "_law_take")) = true),
  fun K => decide (PySem.W.nsIn K mainGlobals "_law_thing" = some (some (.ref (He.ga K "_law_thing")))),
  fun K => decide (PySem.W.keepIn K (.ref (He.ga K "_law_thing")) = true),
  fun K => decide (PySem.W.nsIn K mainGlobals "_law_name" = some (some (.ref (He.ga K "_law_name")))),
  fun K => decide (PySem.W.keepIn K (.ref (He.ga K "_law_name")) = true),
  fun K => decide (PySem.W.nsIn K mainGlobals "_law_deed" = some (some (.ref (He.ga K "_law_deed")))),
  fun K => decide (PySem.W.keepIn K (.ref (He.ga K "_law_deed")) = true),
  fun K => decide (PySem.W.nsIn K mainGlobals "_law_deeds" = some (some (.ref (He.ga K "_law_deeds")))),
  fun K => decide (PySem.W.keepIn K (.ref (He.ga K "_law_deeds")) = true),
  fun K => decide (PySem.W.nsIn K mainGlobals "_law_top" = some (some (.ref (He.ga K "_law_top")))),
  fun K => decide (PySem.W.keepIn K (.ref (He.ga K "_law_top")) = true),
  fun K => decide (PySem.W.nsIn K mainGlobals "_law_head" = some (some (.ref (He.ga K "_law_head")))),
  fun K => decide (PySem.W.keepIn K (.ref (He.ga K "_law_head")) = true),
  fun K => decide (PySem.W.nsIn K mainGlobals "_law_tail" = some (some (.ref (He.ga K "_law_tail")))),
  fun K => decide (PySem.W.keepIn K (.ref (He.ga K "_law_tail")) = true),
  fun K => decide (PySem.W.nsIn K mainGlobals "_law_number_text" = some (some (.ref (He.ga K "_law_number_text")))),
  fun K => decide (PySem.W.keepIn K (.ref (He.ga K "_law_number_text")) = true),
  fun K => decide (PySem.W.nsIn K mainGlobals "_law_row_text" = some (some (.ref (He.ga K "_law_row_text")))),
  fun K => decide (PySem.W.keepIn K (.ref (He.ga K "_law_row_text")) = true),
  fun K => decide (PySem.W.nsIn K mainGlobals "_law_code" = some (some (.ref (He.ga K "_law_code"))))]
def hex5 : List (PySem.W.Frag → Bool) := [
  fun K => decide (PySem.W.keepIn K (.ref (He.ga K "_law_code")) = true),
  fun K => decide (PySem.W.nsIn K mainGlobals "_law_parts" = some (some (.ref (He.ga K "_law_parts")))),
  fun K => decide (PySem.W.keepIn K (.ref (He.ga K "_law_parts")) = true),
  fun K => decide (PySem.W.nsIn K mainGlobals "_law_number" = some (some (.ref (He.ga K "_law_number")))),
  fun K => decide (PySem.W.keepIn K (.ref (He.ga K "_law_number")) = true),
  fun K => decide (PySem.W.nsIn K mainGlobals "_law_deed_wrong" = some (some (.ref (He.ga K "_law_deed_wrong")))),
  fun K => decide (PySem.W.keepIn K (.ref (He.ga K "_law_deed_wrong")) = true),
  fun K => decide (PySem.W.nsIn K mainGlobals "_law_wrong" = some (some (.ref (He.ga K "_law_wrong")))),
  fun K => decide (PySem.W.keepIn K (.ref (He.ga K "_law_wrong")) = true),
  fun K => decide (PySem.W.nsIn K mainGlobals "_law_bent" = some (some (.ref (He.ga K "_law_bent")))),
  fun K => decide (PySem.W.keepIn K (.ref (He.ga K "_law_bent")) = true),
  fun K => decide (PySem.W.nsIn K mainGlobals "_law_tail_of" = some (some (.ref (He.ga K "_law_tail_of")))),
  fun K => decide (PySem.W.keepIn K (.ref (He.ga K "_law_tail_of")) = true),
  fun K => decide (PySem.W.nsIn K mainGlobals "_law_raw" = some (some (.ref (He.ga K "_law_raw")))),
  fun K => decide (PySem.W.keepIn K (.ref (He.ga K "_law_raw")) = true),
  fun K => decide (PySem.W.nsIn K mainGlobals "_law_two_faults" = some (some (.ref (He.ga K "_law_two_faults")))),
  fun K => decide (PySem.W.keepIn K (.ref (He.ga K "_law_two_faults")) = true),
  fun K => decide (PySem.W.nsIn K mainGlobals "_law_tall" = some (some (.ref (He.ga K "_law_tall")))),
  fun K => decide (PySem.W.keepIn K (.ref (He.ga K "_law_tall")) = true),
  fun K => decide (PySem.W.nsIn K mainGlobals "_law_good" = some (some (.ref (He.ga K "_law_good"))))]
def hex6 : List (PySem.W.Frag → Bool) := [
  fun K => decide (PySem.W.keepIn K (.ref (He.ga K "_law_good")) = true),
  fun K => decide (PySem.W.nsIn K mainGlobals "law" = some (some (.ref (He.ga K "law")))),
  fun K => decide (PySem.W.keepIn K (.ref (He.ga K "law")) = true),
  fun K => decide (PySem.W.nsIn K mainGlobals "Program" = some (some (.ref (He.ga K "Program")))),
  fun K => decide (PySem.W.plainGet K (He.ga K "Program") Str.empty = true),
  fun K => decide (PySem.W.hasDictIn K (He.ga K "Program") = true),
  fun K => decide (PySem.W.plainOver K (He.ga K "Program") = true),
  fun K => decide (PySem.W.findIn K (.ref (He.ga K "Program")) "__setattr__" = some (some (.builtin "object.__setattr__"))),
  fun K => decide (PySem.W.makesIn K (He.ga K "Program") = true),
  fun K => decide (PySem.W.keepIn K (.ref (He.ga K "Program")) = true),
  fun K => decide (PySem.W.findIn K (.ref (He.ga K "Program")) "deeds" = some none),
  fun K => decide (PySem.W.findIn K (.ref (He.ga K "Program")) "plan" = some none),
  fun K => decide (PySem.W.findIn K (.ref (He.ga K "Program")) "__class__" = some (some (.builtin "object.__class__"))),
  fun K => decide (PySem.W.mroIn K (He.ga K "Program") (.type "object") = some true),
  fun K => decide (PySem.W.findIn K (.ref (He.ga K "Program")) "__ne__" = some (some (.builtin "object.__ne__"))),
  fun K => decide (PySem.W.nsIn K mainGlobals "FORMS" = some (some (.ref (He.ga K "FORMS")))),
  fun K => intB K mainGlobals "MANY_NAMES" 10,
  fun K => intB K mainGlobals "MOST_DEEDS" 4000,
  fun K => intB K mainGlobals "MOST_FLOORS" 8,
  fun K => decide (PySem.W.kitOne K (.type "int") (.type "int") = some true)]
def hex7 : List (PySem.W.Frag → Bool) := [
  fun K => decide (PySem.W.kitOne K (.type "int") (.type "bool") = some false),
  fun K => decide (PySem.W.kitOne K (.type "tuple") (.type "tuple") = some true),
  fun K => decide (PySem.W.kitOne K (.type "str") (.type "str") = some true),
  fun K => strB K (He.ga K "FORMS") "told" "nt",
  fun K => strB K (He.ga K "FORMS") "first" "nn",
  fun K => strB K (He.ga K "FORMS") "second" "nn",
  fun K => strB K (He.ga K "FORMS") "pair" "nnn",
  fun K => strB K (He.ga K "FORMS") "same" "nnn",
  fun K => strB K (He.ga K "FORMS") "while" "nr",
  fun K => strB K (He.ga K "FORMS") "if" "nrr",
  fun K => decide (PySem.W.findIn K (.ref (He.ga K "Program")) "__init__" = some (some (.ref (He.ma K (He.ga K "Program") "__init__")))),
  fun K => decide (PySem.W.isFn K (.ref (He.ma K (He.ga K "Program") "__init__")) = true),
  fun K => decide (PySem.W.keepIn K (.ref (He.ma K (He.ga K "Program") "__init__")) = true),
  fun K => decide (PySem.W.findIn K (.ref (He.ga K "Program")) "__len__" = some (some (.ref (He.ma K (He.ga K "Program") "__len__")))),
  fun K => decide (PySem.W.isFn K (.ref (He.ma K (He.ga K "Program") "__len__")) = true),
  fun K => decide (PySem.W.keepIn K (.ref (He.ma K (He.ga K "Program") "__len__")) = true),
  fun K => decide (PySem.W.findIn K (.ref (He.ga K "Program")) "__eq__" = some (some (.ref (He.ma K (He.ga K "Program") "__eq__")))),
  fun K => decide (PySem.W.isFn K (.ref (He.ma K (He.ga K "Program") "__eq__")) = true),
  fun K => decide (PySem.W.keepIn K (.ref (He.ma K (He.ga K "Program") "__eq__")) = true),
  fun K => decide (PySem.W.nsIn K mainGlobals "TooGreat" = some (some (.ref (He.ga K "TooGreat"))))]
def hex8 : List (PySem.W.Frag → Bool) := [
  fun K => excB K (He.ga K "TooGreat") [.type "OverflowError", .type "ArithmeticError", .type "Exception", .type "BaseException", .type "object"] "OverflowError.__new__",
  fun K => decide (PySem.W.excOver K (He.ga K "TooGreat") [.type "OverflowError", .type "ArithmeticError", .type "Exception", .type "BaseException", .type "object"] = true),
  fun K => decide (PySem.W.findIn K (.ref (He.ga K "TooGreat")) "__setattr__" = some (some (.builtin "object.__setattr__"))),
  fun K => decide (PySem.W.subIn K (.ref (He.ga K "TooGreat")) (.type "BaseException") = some true),
  fun K => decide (PySem.W.typeIn K (.ref (He.ga K "TooGreat")) = some (.type "type")),
  fun K => decide (PySem.W.keepIn K (.ref (He.ga K "TooGreat")) = true),
  fun K => decide (PySem.W.findIn K (.ref (He.ga K "TooGreat")) "bound" = some none),
  fun K => decide (PySem.W.findIn K (.ref (He.ga K "TooGreat")) "__init__" = some (some (.ref (He.ma K (He.ga K "TooGreat") "__init__")))),
  fun K => decide (PySem.W.typeIn K (.ref (He.ma K (He.ga K "TooGreat") "__init__")) = some (.type "function")),
  fun K => decide (PySem.W.keepIn K (.ref (He.ma K (He.ga K "TooGreat") "__init__")) = true),
  fun K => decide (PySem.W.hasDictIn K (He.ga K "TooGreat") = true),
  fun K => decide (PySem.W.subIn K (.ref (He.ga K "TooGreat")) (.ref (He.ga K "TooGreat")) = some true),
  fun K => decide (PySem.W.nsIn K mainGlobals "NoProgram" = some (some (.ref (He.ga K "NoProgram")))),
  fun K => excB K (He.ga K "NoProgram") [.type "ValueError", .type "Exception", .type "BaseException", .type "object"] "ValueError.__new__",
  fun K => decide (PySem.W.excOver K (He.ga K "NoProgram") [.type "ValueError", .type "Exception", .type "BaseException", .type "object"] = true),
  fun K => decide (PySem.W.findIn K (.ref (He.ga K "NoProgram")) "__setattr__" = some (some (.builtin "object.__setattr__"))),
  fun K => decide (PySem.W.subIn K (.ref (He.ga K "NoProgram")) (.type "BaseException") = some true),
  fun K => decide (PySem.W.typeIn K (.ref (He.ga K "NoProgram")) = some (.type "type")),
  fun K => decide (PySem.W.keepIn K (.ref (He.ga K "NoProgram")) = true),
  fun K => decide (PySem.W.findIn K (.ref (He.ga K "NoProgram")) "place" = some none)]
def hex9 : List (PySem.W.Frag → Bool) := [
  fun K => decide (PySem.W.findIn K (.ref (He.ga K "NoProgram")) "__init__" = some (some (.ref (He.ma K (He.ga K "NoProgram") "__init__")))),
  fun K => decide (PySem.W.typeIn K (.ref (He.ma K (He.ga K "NoProgram") "__init__")) = some (.type "function")),
  fun K => decide (PySem.W.keepIn K (.ref (He.ma K (He.ga K "NoProgram") "__init__")) = true),
  fun K => decide (PySem.W.hasDictIn K (He.ga K "NoProgram") = true),
  fun K => decide (PySem.W.subIn K (.ref (He.ga K "NoProgram")) (.ref (He.ga K "NoProgram")) = some true),
  fun K => decide (PySem.W.kitOne K (.type "NoneType") (.type "int") = some false),
  fun K => decide (PySem.W.kitOne K (.ref (He.ga K "Thing")) (.type "int") = some false),
  fun K => decide (PySem.W.kitOne K (.ref (He.ga K "Thing")) (.type "tuple") = some false),
  fun K => decide (PySem.W.kitOne K (.type "bool") (.type "bool") = some true),
  fun K => decide (PySem.W.findIn K (.ref (He.ga K "NoProgram")) "__getattribute__" = some (some (.builtin "BaseException.__getattribute__"))),
  fun K => decide (PySem.W.findIn K (.ref (He.ga K "NoProgram")) "__getattr__" = some none),
  fun K => decide (PySem.W.isClsIn K (He.ga K "NoProgram") = true),
  fun K => decide (PySem.W.findIn K (.ref (He.ga K "NoProgram")) "__class__" = some (some (.builtin "object.__class__"))),
  fun K => decide (PySem.W.mroIn K (He.ga K "NoProgram") (.type "object") = some true),
  fun K => decide (PySem.W.nsIn K mainGlobals "NoName" = some (some (.ref (He.ga K "NoName")))),
  fun K => decide (PySem.W.nsIn K mainGlobals "NoRoom" = some (some (.ref (He.ga K "NoRoom")))),
  fun K => decide (PySem.W.nsIn K mainGlobals "NoSaying" = some (some (.ref (He.ga K "NoSaying")))),
  fun K => decide (PySem.W.nsIn K mainGlobals "NoStep" = some (some (.ref (He.ga K "NoStep")))),
  fun K => decide (PySem.W.nsIn K mainGlobals "NoText" = some (some (.ref (He.ga K "NoText")))),
  fun K => decide (PySem.W.kitAny K (.ref (He.ga K "NoProgram")) [.ref (He.ga K "NoName"), .ref (He.ga K "NoRoom"), .ref (He.ga K "NoSaying"), .ref (He.ga K "NoStep"), .ref (He.ga K "NoText"), .ref (He.ga K "TooGreat")] = some false)]
def hex10 : List (PySem.W.Frag → Bool) := [
  fun K => decide (PySem.W.nsIn K mainGlobals "len" = some none),
  fun K => decide (PySem.W.nsIn K mainGlobals "range" = some none),
  fun K => decide (PySem.W.nsIn K mainGlobals "isinstance" = some none),
  fun K => decide (PySem.W.nsIn K mainGlobals "abs" = some none),
  fun K => decide (PySem.W.nsIn K mainGlobals "int" = some none),
  fun K => decide (PySem.W.nsIn K mainGlobals "str" = some none),
  fun K => decide (PySem.W.nsIn K mainGlobals "max" = some none),
  fun K => decide (PySem.W.nsIn K mainGlobals "min" = some none),
  fun K => decide (PySem.W.nsIn K mainGlobals "all" = some none),
  fun K => decide (PySem.W.nsIn K mainGlobals "bool" = some none),
  fun K => decide (PySem.W.nsIn K mainGlobals "tuple" = some none),
  fun K => decide (PySem.W.nsIn K mainGlobals "zip" = some none),
  fun K => decide (PySem.W.nsIn K mainGlobals "enumerate" = some none),
  fun K => decide (PySem.W.nsIn K mainGlobals "list" = some none),
  fun K => decide (PySem.W.nsIn K mainGlobals "OverflowError" = some none),
  fun K => decide (PySem.W.nsIn K mainGlobals "reversed" = some none),
  fun K => decide (PySem.W.nsIn K mainGlobals "ValueError" = some none),
  fun K => decide (PySem.W.nsIn K mainGlobals "any" = some none)]
def hex : List (PySem.W.Frag → Bool) := hex0 ++ hex1 ++ hex2 ++ hex3 ++ hex4 ++ hex5 ++ hex6 ++ hex7 ++ hex8 ++ hex9 ++ hex10
def has0 : List Addr := [3, 6, 4, 21, 38, 58, 78, 98, 118, 138, 158, 221, 232, 239, 246, 253, 260, 267, 274, 275, 327, 338, 345, 350, 357, 364, 371, 378, 385, 390]
def has1 : List Addr := [397, 402, 409, 416, 423, 430, 435, 440, 447, 454, 461, 468, 475, 482, 489, 494, 501, 508, 515, 522, 529, 536, 543, 548, 555, 562, 569, 574, 581, 588]
def has2 : List Addr := [595, 602, 607, 614, 621, 626, 20, 37, 57, 77, 97, 117, 137, 157, 220, 231, 238, 245, 252, 259, 266, 273, 326, 337, 344, 349, 356, 363, 370, 377]
def has3 : List Addr := [384, 389, 396, 401, 408, 415, 422, 429, 434, 439, 446, 453, 460, 467, 474, 481, 488, 493, 500, 507, 514, 521, 528, 535, 542, 547, 554, 561, 568, 573]
def has4 : List Addr := [580, 587, 594, 601, 606, 613, 620, 625, 35, 36, 39, 55, 56, 59, 75, 76, 79, 95, 96, 99, 115, 116, 119, 135, 136, 139, 155, 156, 159, 176]
def has5 : List Addr := [183, 190, 197, 204, 211, 218, 219, 222, 223, 289, 296, 303, 310, 317, 324, 325, 328, 329, 34, 54, 74, 94, 114, 134, 154, 175, 169, 182, 189, 196]
def has6 : List Addr := [203, 210, 217, 288, 295, 302, 309, 316, 323]
def has : List Addr := has0 ++ has1 ++ has2 ++ has3 ++ has4 ++ has5 ++ has6
def hexs (K : PySem.W.Frag) : Bool := hex.all fun f => f K
abbrev hR : PySem.W.OpenRow := PySem.W.OpenLaw.row PySem.Challenge.rw_judgeslip_k17_no_codes
abbrev hkX : PySem.W.Hook := hookC has hfn hts hexs
abbrev hob (s : PySem.W.SharedT) : He.AlT × Bool := obC has hfn hts hexs s
theorem hob_eq (s : PySem.W.SharedT) : hob s = hkX.obs s.abs := obC_eq has hfn hts hexs s
theorem hr0F (w : World) : HandSHeadRun.RunEq hR (PySem.W.view hR.prog [73]) PySem.W.Hook.none (fun _ => ()) 20000 hnames (w.withFollow "special-get-raises" false) := by
  intro os
  kernel_rfl
theorem hr1F (w : World) (os : OsState) : (HandSHeadRun.endF (HandSHeadRun.stepQ (HandSHeadRun.denQ HandSHeadRun.tabQ) hR.prog (w.withFollow "special-get-raises" false)) 20000 hR.prog (w.withFollow "special-get-raises" false) os).map (fun s => He.obsT [] hfn hts (He.frG (HandSHeadRun.getT s) has)) = some (He.valT hfn hts (w.withFollow "special-get-raises" false)) := by
  kernel_rfl
theorem hr2F (w : World) (os : OsState) : (HandSHeadRun.endF (HandSHeadRun.stepQ (HandSHeadRun.denQ HandSHeadRun.tabQ) hR.prog (w.withFollow "special-get-raises" false)) 20000 hR.prog (w.withFollow "special-get-raises" false) os).map (fun s => hexs (He.frG (HandSHeadRun.getT s) has)) = some true := by
  kernel_rfl
theorem hrunF (w : World) : HandSHeadRun.RunEq hR (PySem.W.view hR.prog [73]) hkX hob 20000 hnames (w.withFollow "special-get-raises" false) := run_join (hr0F w) (hr1F w) (hr2F w)
theorem hr0T (w : World) : HandSHeadRun.RunEq hR (PySem.W.view hR.prog [73]) PySem.W.Hook.none (fun _ => ()) 20000 hnames (w.withFollow "special-get-raises" true) := by
  intro os
  kernel_rfl
theorem hr1T (w : World) (os : OsState) : (HandSHeadRun.endF (HandSHeadRun.stepQ (HandSHeadRun.denQ HandSHeadRun.tabQ) hR.prog (w.withFollow "special-get-raises" true)) 20000 hR.prog (w.withFollow "special-get-raises" true) os).map (fun s => He.obsT [] hfn hts (He.frG (HandSHeadRun.getT s) has)) = some (He.valT hfn hts (w.withFollow "special-get-raises" true)) := by
  kernel_rfl
theorem hr2T (w : World) (os : OsState) : (HandSHeadRun.endF (HandSHeadRun.stepQ (HandSHeadRun.denQ HandSHeadRun.tabQ) hR.prog (w.withFollow "special-get-raises" true)) 20000 hR.prog (w.withFollow "special-get-raises" true) os).map (fun s => hexs (He.frG (HandSHeadRun.getT s) has)) = some true := by
  kernel_rfl
theorem hrunT (w : World) : HandSHeadRun.RunEq hR (PySem.W.view hR.prog [73]) hkX hob 20000 hnames (w.withFollow "special-get-raises" true) := run_join (hr0T w) (hr1T w) (hr2T w)
theorem hrun (w : World) : HandSHeadRun.RunEq hR (PySem.W.view hR.prog [73]) hkX hob 20000 hnames w :=
  PySem.W.byRow2 "special-get-raises" (P := fun w => HandSHeadRun.RunEq hR (PySem.W.view hR.prog [73]) hkX hob 20000 hnames w) hrunF hrunT w
open PySem PySem.W PySem.Calls PyProof.Rows in
theorem hfe : opening hR.prog = plainProg hR.prog.main.scope.names := by kernel_rfl
open PySem PySem.W PySem.Calls PyProof.Rows in
theorem hff : ∀ s, fenceModules? hR.prog s = some s := fun s => by kernel_rfl
open PySem PySem.W PySem.Calls PyProof.Rows in
theorem hfd : defOf (view hR.prog [73]) hR.name = some (HandSHeadRun.topDef hR.prog 73, []) := by kernel_rfl
open PySem PySem.W PySem.Calls PyProof.Rows in
theorem hfp : hR.prog.theDef hR.name = some ((HandSHeadRun.topDef hR.prog 73).params, (HandSHeadRun.topDef hR.prog 73).body, (HandSHeadRun.topDef hR.prog 73).scope) := by kernel_rfl
open PySem PySem.W PySem.Calls PyProof.Rows in
theorem hfo : (chainsOk (view hR.prog [73]) && opensWell hR.prog && (frees hR.toRowW && hR.within.isEmpty)) = true := by decide +kernel
open PySem PySem.W PySem.Calls PyProof.Rows in
theorem hfb : hR.prog.bare := ⟨rfl, rfl, rfl, rfl, rfl, by decide +kernel⟩
end Js
set_option Elab.async false
set_option linter.all false
set_option maxRecDepth 100000
set_option maxHeartbeats 2000000
namespace Js
open PySem L2
def spAlike (C : Addr) : Sp := spEqT C
section
variable {P : Program} {w : World} {K : PySem.W.Frag} {mg : Str → Option Value} {base : Heap} {C : Addr}
theorem scA : FnScope ["one", "other", "waiting", "left", "right"] ["one", "other"] (defScope sAlike) := ⟨rfl, rfl, rfl, by decide +kernel, rfl, by decide +kernel, by decide +kernel⟩
theorem ok_alike {f : Addr} {fd : FuncData} (F : Fun K "alike" "alike" sAlike f fd) (T : Txt K mg C) : FnOk P w K mg base CX0 1 f fd ["one", "other"] (spAlike C) := by
  refine F.ok scA (fun vs H Q E h => ?_) (fun cdv A outer s H vs Q E hr h => ?_)
  · obtain ⟨a, b, t, u, rfl, _⟩ := h
    rfl
  · obtain ⟨a, b, t, u, rfl, ha, hb, hz, k⟩ := h
    refine ⟨_, pss_cons (ps_set (i := 2) scA.nd rfl (Or.inl rfl) (pe_lst (pa_cons (pe_tup (pa_cons (pv 0) (pa_cons (pv 1) pa_nil))) pa_nil)))
      (pss_cons (ps_while PassesOwn.never (pt_truth (pv 2) (by intro _; rfl))
        (pss_cons (ps_asg (pe_bm0 PySem.F.plainAttrs_list PySem.F.slot_list_pop PySem.F.type_list_pop mt_pop (pv 2)) (pg_tup rfl (pgs_cons (pg_name (i := 3) scA.nd rfl (Or.inl rfl)) (pgs_cons (pg_name (i := 4) scA.nd rfl (Or.inl rfl)) pgs_nil))))
        (pss_cons (ps_if (pt_cmpR op_ne (pe_fld (pv 3) rfl) (pe_fld (pv 4) rfl) (nomark _)) (pss_one (ps_ret pe_bl)) pss_nil)
        (pss_one (ps_if (pt_cmpR op_gt (pe_fld (pv 3) rfl) pe_int (nomark _))
          (pss_cons (ps_expr (pe_bm PySem.F.plainAttrs_list PySem.F.slot_list_append PySem.F.type_list_append mt_append (pv 2) (pa_cons (pe_tup (pa_cons (pe_fld (pv 3) rfl) (pa_cons (pe_fld (pv 4) rfl) pa_nil))) pa_nil)))
          (pss_one (ps_expr (pe_bm PySem.F.plainAttrs_list PySem.F.slot_list_append PySem.F.type_list_append mt_append (pv 2) (pa_cons (pe_tup (pa_cons (pe_fld (pv 3) rfl) (pa_cons (pe_fld (pv 4) rfl) pa_nil))) pa_nil))))) pss_nil)))))
      (pss_one (ps_ret pe_bl))), ?_⟩
    refine ⟨_, rfl, _, rfl, (by show 2 ≤ sizeLine; decide), fun q0 nq0 => ?_⟩
    refine ⟨(by show 1 ≤ sizeLine; decide), fun wl nwl => ?_⟩
    have hwl : H wl = none := by
      have := nwl
      unfold upd at this
      split at this
      · cases this
      · exact this
    have nqw : q0 ≠ wl := ne_of_none (o := .tup [.ref a, .ref b]) upd_same nwl
    -- the loop
    refine ⟨fun m σ H' => ∃ (rs : List V) (ps : List (Tr × Tr)) (x3 x4 : Option V), σ = [some (.ref a), some (.ref b), some (.ref wl), x3, x4] ∧ Same H H' ∧ H' wl = some (.lst rs.reverse) ∧ Paired (PrAt C H') rs ps ∧
      ((∀ p ∈ ps, p.1 = p.2) ↔ t = u) ∧ m = pm ps ∧ m ≤ 2 * t.size + 1, ?_, ?_⟩
    · have s1 : Same H (upd (upd H q0 (.tup [.ref a, .ref b])) wl (.lst [.ref q0])) := (Same.new nq0).set hwl
      refine ⟨_, [.ref q0], [(t, u)], none, none, rfl, s1, upd_same, .cons ⟨q0, a, b, rfl, ?_, ha.same s1, hb.same s1⟩ .nil, ?_, rfl, ?_⟩
      · exact (upd_ne nqw).trans upd_same
      · simp
      · simp [pm]
    · rintro m σ H' ⟨rs, ps, x3, x4, rfl, s1, hw, hps, hiff, rfl, hm⟩
      refine ⟨_, rfl, !rs.reverse.isEmpty, .inl ⟨_, SqL.of hw, rfl⟩, ?_⟩
      cases hps with
      | nil =>
        refine iteF ?_
        have : t = u := hiff.mp (fun p hp => by cases hp)
        have z := k H' s1
        rw [decide_eq_true this] at z
        exact z
      | @cons v p rs ps hv hps =>
        have e1 : (!(v :: rs).reverse.isEmpty) = true := by simp
        rw [e1]
        refine iteT ⟨fun σ' H2 => ∃ m', m' < pm (p :: ps) ∧ _, fun σ' H2 z => z, ?_⟩
        obtain ⟨q, x, y, rfl, hq, hx, hy⟩ := hv
        have hlen : rs.length ≤ pm ps := by rw [Paired.length hps]; exact pm_len ps
        rw [pm_cons] at hm
        refine ⟨_, rfl, .inl ⟨rfl, _, SqL.of hw⟩, wl, _, _, rfl, rfl, hw, last_rev _ _, ?_⟩
        rw [drop_rev]
        have nqwl : q ≠ wl := ne_of hq hw (by intro z; cases z)
        have k1 : KT H' (upd H' wl (.lst rs.reverse)) := KT.lst hw
        have s2 : Same H (upd H' wl (.lst rs.reverse)) := s1.set hwl
        have hx2 := hx.kt k1
        have hy2 := hy.kt k1
        have hps2 := prs_kt k1 hps
        obtain ⟨dx, f1, g1, h1⟩ := hx2.obj
        obtain ⟨dy, f2, g2, h2⟩ := hy2.obj
        refine ⟨q, _, rfl, SqT.of ((upd_ne nqwl).trans hq), rfl, _, _, rfl, _, _, rfl, rfl, ?_⟩
        refine ⟨_, rfl, _, _, _, _, _, rfl, h1, T.cl, T.nZ, tf_size _ _ _, _, rfl, _, _, _, _, _, rfl, h2, T.cl, T.nZ, tf_size _ _ _, rfl, _, rfl, ?_⟩
        by_cases hsz : p.1.size = p.2.size
        · have ed : (!decide (V.int (p.1.size : Nat) = V.int (p.2.size : Nat))) = false := by rw [hsz]; simp
          rw [ed]
          refine iteF ?_
          refine ⟨_, rfl, _, _, _, _, _, rfl, h1, T.cl, T.nZ, tf_size _ _ _, _, _, rfl, rfl, _, rfl, ?_⟩
          by_cases h1z : 1 < p.1.size
          · have ed2 : decide ((1 : Int) < (p.1.size : Nat)) = true := decide_eq_true (by omega)
            rw [ed2]
            refine iteT ?_
            obtain ⟨t1, u1⟩ := p
            cases t1 with
            | nil => simp [Tr.size] at h1z
            | pr l1 r1 =>
            cases u1 with
            | nil => simp [Tr.size] at hsz
            | pr l2 r2 =>
            obtain ⟨dx', b1, c1, hX, hb1, hc1⟩ := hx2.pair
            obtain ⟨dy', b2, c2, hY, hb2, hc2⟩ := hy2.pair
            -- waiting.append((left.second, right.second))
            refine ⟨_, rfl, .inl ⟨rfl, _, SqL.of upd_same⟩, _, rfl, _, _, _, _, _, rfl, hX, T.cl, T.nS, tf_second _ _ _, _, rfl, _, _, _, _, _, rfl, hY, T.cl, T.nS, tf_second _ _ _, (by show 2 ≤ sizeLine; decide), fun q1 nq1 => ?_⟩
            have nq1w : wl ≠ q1 := ne_of_none (o := .lst rs.reverse) upd_same nq1
            have hsl := line4
            simp only [Tr.size] at hm
            refine ⟨wl, _, _, rfl, rfl, (upd_ne nq1w).trans upd_same, (by rw [List.length_reverse]; omega), ?_⟩
            have k2 : KT (upd H' wl (.lst rs.reverse)) (upd (upd (upd H' wl (.lst rs.reverse)) q1 (.tup [.ref c1, .ref c2])) wl (.lst (rs.reverse ++ [.ref q1]))) := (KT.new nq1).trans (KT.lst ((upd_ne nq1w).trans upd_same))
            have s3 : Same H (upd (upd (upd H' wl (.lst rs.reverse)) q1 (.tup [.ref c1, .ref c2])) wl (.lst (rs.reverse ++ [.ref q1]))) := (s2.trans (Same.new nq1)).set hwl
            have hq1 : (upd (upd (upd H' wl (.lst rs.reverse)) q1 (.tup [.ref c1, .ref c2])) wl (.lst (rs.reverse ++ [.ref q1]))) q1 = some (.tup [.ref c1, .ref c2]) := (upd_ne (Ne.symm nq1w)).trans upd_same
            have hw3 : (upd (upd (upd H' wl (.lst rs.reverse)) q1 (.tup [.ref c1, .ref c2])) wl (.lst (rs.reverse ++ [.ref q1]))) wl = some (.lst (rs.reverse ++ [.ref q1])) := upd_same
            have hX3 := k2 _ _ hX (fun _ e => nomatch e)
            have hY3 := k2 _ _ hY (fun _ e => nomatch e)
            have hps3 := prs_kt k2 hps2
            have hb1' := hb1.kt k2
            have hc1' := hc1.kt k2
            have hb2' := hb2.kt k2
            have hc2' := hc2.kt k2
            revert s3 hq1 hw3 hX3 hY3 hps3 hb1' hc1' hb2' hc2'
            generalize (upd (upd (upd H' wl (.lst rs.reverse)) q1 (.tup [.ref c1, .ref c2])) wl (.lst (rs.reverse ++ [.ref q1]))) = H3
            intro s3 hq1 hw3 hX3 hY3 hps3 hb1' hc1' hb2' hc2'
            -- waiting.append((left.first, right.first))
            refine ⟨_, rfl, .inl ⟨rfl, _, SqL.of hw3⟩, _, rfl, _, _, _, _, _, rfl, hX3, T.cl, T.nF, tf_first _ _ _, _, rfl, _, _, _, _, _, rfl, hY3, T.cl, T.nF, tf_first _ _ _, (by show 2 ≤ sizeLine; decide), fun q2 nq2 => ?_⟩
            have nq2w : wl ≠ q2 := ne_of_none hw3 nq2
            refine ⟨wl, _, _, rfl, rfl, (upd_ne nq2w).trans hw3, (by rw [List.length_append, List.length_reverse, List.length_singleton]; omega), ?_⟩
            have k4 : KT H3 (upd (upd H3 q2 (.tup [.ref b1, .ref b2])) wl (.lst (rs.reverse ++ [.ref q1] ++ [.ref q2]))) := (KT.new nq2).trans (KT.lst ((upd_ne nq2w).trans hw3))
            refine ⟨pm ((l1, l2) :: (r1, r2) :: ps), ?_, .ref q2 :: .ref q1 :: rs, (l1, l2) :: (r1, r2) :: ps, _, _, rfl, (s3.trans (Same.new nq2)).set hwl, ?_, .cons ⟨q2, b1, b2, rfl, (upd_ne (Ne.symm nq2w)).trans upd_same, hb1'.kt k4, hb2'.kt k4⟩ (.cons ⟨q1, c1, c2, rfl, k4 _ _ hq1 (fun _ e => nomatch e), hc1'.kt k4, hc2'.kt k4⟩ (prs_kt k4 hps3)), ?_, rfl, ?_⟩
            · rw [pm_cons, pm_cons, pm_cons]
              simp only [Tr.size]
              omega
            · rw [upd_same, push_rev, push_rev]
            · rw [← hiff]
              simp only [List.mem_cons, forall_eq_or_imp, Tr.pr.injEq]
              constructor
              · rintro ⟨h1, h2, h3⟩
                exact ⟨⟨h1, h2⟩, h3⟩
              · rintro ⟨⟨h1, h2⟩, h3⟩
                exact ⟨h1, h2, h3⟩
            · rw [pm_cons, pm_cons]
              show 2 * l1.size + 1 + (2 * r1.size + 1 + pm ps) ≤ _
              omega
          · have ed2 : decide ((1 : Int) < (p.1.size : Nat)) = false := decide_eq_false (by omega)
            rw [ed2]
            refine iteF ?_
            have ep : p.1 = p.2 := Tr.small_eq hsz (by omega)
            refine ⟨pm ps, by rw [pm_cons]; omega, rs, ps, _, _, rfl, s2, upd_same, hps2, ?_, rfl, by omega⟩
            rw [← hiff]
            simp [ep]
        · have ed : (!decide (V.int (p.1.size : Nat) = V.int (p.2.size : Nat))) = true := by
            simp
            omega
          rw [ed]
          refine iteT ?_
          have : ¬ t = u := fun z => hsz (by rw [hiff.mpr z p (by simp)])
          have z := k _ s2
          rw [decide_eq_false this] at z
          exact z
theorem scE : FnScope ["self", "other"] ["self", "other"] (defScope sEq) := ⟨rfl, rfl, rfl, by decide +kernel, rfl, by decide +kernel, by decide +kernel⟩
theorem kit_self (K : PySem.W.Frag) (C : Addr) : PySem.W.kitOne K (.ref C) (.ref C) = some true := by
  unfold PySem.W.kitOne
  rw [if_pos (by simp)]
theorem ok_eq {f fA : Addr} {fd fdA : FuncData} (F : Fun K "__eq__" "Thing.__eq__" sEq f fd) (T : Txt K mg C) (AA : At K mg "alike" sAlike ["one", "other"] fA fdA) : FnOk P w K mg base CX0 2 f fd ["self", "other"] (spEqT C) := by
  have GA : FnOk P w K mg base CX0 1 fA fdA ["one", "other"] (spAlike C) := ok_alike AA.F T
  refine F.ok scE (fun vs H Q E h => ?_) (fun cdv A outer s H vs Q E hr h => ?_)
  · obtain ⟨a, b, t, u, rfl, _⟩ := h
    rfl
  · obtain ⟨a, b, t, u, rfl, ha, hb, hz, k⟩ := h
    refine ⟨_, pss_one (ps_ret (pe_and (pe_callB call_isi (by rfl) T.isi PyProof.Rows.boot_isinstance (pa_cons (pv 1) (pa_cons (pe_glob (v := .ref C) rfl T.mgC rfl) pa_nil)))
      (pe_one (pe_call GA hr rfl AA.mgf AA.F.kp AA.b .nil pass0 (pa_cons (pv 0) (pa_cons (pv 1) pa_nil)))))), ?_⟩
    obtain ⟨dy, f2, g2, h2⟩ := hb.obj
    refine ⟨_, rfl, _, _, _, _, true, rfl, ClsV.own C, .base (.ins h2 T.cl T.ca T.cn T.ct T.cm), kit_self _ _, true, rfl, ?_⟩
    refine iteT ?_
    exact ⟨_, rfl, _, rfl, a, b, t, u, rfl, ha, hb, hz, k⟩
theorem e41 : ((")" : Str)) = ⟨#[41]⟩ := by decide +kernel
theorem e40 : (("(" : Str)) = ⟨#[40]⟩ := by decide +kernel
theorem e46 : (("." : Str)) = ⟨#[46]⟩ := by decide +kernel
theorem scS : FnScope ["thing", "found", "waiting", "part"] ["thing"] (defScope sSigns) := ⟨rfl, rfl, rfl, by decide +kernel, rfl, by decide +kernel, by decide +kernel⟩
theorem ok_signs {f : Addr} {fd : FuncData} (F : Fun K "signs" "signs" sSigns f fd) (T : Txt K mg C) : FnOk P w K mg base CX0 1 f fd ["thing"] (spSigns C) := by
  refine F.ok scS (fun vs H Q E h => ?_) (fun cdv A outer s H vs Q E hr h => ?_)
  · obtain ⟨a, t, rfl, _⟩ := h
    rfl
  · obtain ⟨a, t, rfl, ha, hz, k⟩ := h
    refine ⟨_, pss_cons (ps_set (i := 1) scS.nd rfl (Or.inl rfl) (pe_lst pa_nil)) (pss_cons (ps_set (i := 2) scS.nd rfl (Or.inl rfl) (pe_lst (pa_cons (pv 0) pa_nil)))
      (pss_cons (ps_while PassesOwn.never (pt_truth (pv 2) (by intro _; rfl))
        (pss_cons (ps_set (i := 3) scS.nd rfl (Or.inl rfl) (pe_bm0 PySem.F.plainAttrs_list PySem.F.slot_list_pop PySem.F.type_list_pop mt_pop (pv 2)))
        (pss_one (ps_if (pt_cmp (pc_isN (pv 3)))
          (pss_one (ps_expr (pe_bm PySem.F.plainAttrs_list PySem.F.slot_list_append PySem.F.type_list_append mt_append (pv 1) (pa_cons pe_str pa_nil))))
          (pss_one (ps_if (pt_cmpR op_eq (pe_fld (pv 3) rfl) pe_int (nomark _))
            (pss_one (ps_expr (pe_bm PySem.F.plainAttrs_list PySem.F.slot_list_append PySem.F.type_list_append mt_append (pv 1) (pa_cons pe_str pa_nil))))
            (pss_cons (ps_expr (pe_bm PySem.F.plainAttrs_list PySem.F.slot_list_append PySem.F.type_list_append mt_append (pv 1) (pa_cons pe_str pa_nil)))
              (pss_one (ps_expr (pe_bm PySem.F.plainAttrs_list PySem.F.slot_list_extend PySem.F.type_list_extend mt_extend (pv 2) (pa_cons (pe_lst (pa_cons pe_non (pa_cons (pe_fld (pv 3) rfl) (pa_cons (pe_fld (pv 3) rfl) pa_nil)))) pa_nil)))))))))))
      (pss_one (ps_ret (pv 1))))), ?_⟩
    refine ⟨Nat.zero_le _, fun fl nfl => ?_⟩
    refine ⟨_, rfl, (by show 1 ≤ sizeLine; decide), fun wl nwl => ?_⟩
    have nfw : fl ≠ wl := ne_of_none (o := .lst []) upd_same nwl
    have hwl : H wl = none := by
      have := nwl
      rw [upd_ne (Ne.symm nfw)] at this
      exact this
    have hsl := line4
    refine ⟨fun m σ H' => ∃ (rs : List V) (ps : List (Option Tr)) (dn : List Nat) (x3 : Option V), σ = [some (.ref a), some (.ref fl), some (.ref wl), x3] ∧ Same H H' ∧ H' fl = some (.lst (dn.map sgn)) ∧ H' wl = some (.lst rs.reverse) ∧ Paired (WtAt C H') rs ps ∧
      dn ++ wouts ps = t.codes ∧ m = wm ps ∧ m ≤ 3 * t.size + 1, ?_, ?_⟩
    · have s1 : Same H (upd (upd H fl (.lst [])) wl (.lst [.ref a])) := (Same.new nfl).set hwl
      refine ⟨_, [.ref a], [some t], [], none, rfl, s1, (upd_ne nfw).trans upd_same, upd_same, .cons (.inr ⟨a, t, rfl, rfl, ha.same s1⟩) .nil, ?_, rfl, ?_⟩
      · simp [wouts, wout]
      · simp [wm, wm1]
    · rintro m σ H' ⟨rs, ps, dn, x3, rfl, s1, hf, hw, hps, hc, rfl, hm⟩
      have hcl := congrArg List.length hc
      rw [List.length_append, Tr.codes_len] at hcl
      refine ⟨_, rfl, !rs.reverse.isEmpty, .inl ⟨_, SqL.of hw, rfl⟩, ?_⟩
      cases hps with
      | nil =>
        refine iteF ?_
        have e : dn = t.codes := by simpa [wouts] using hc
        subst e
        exact ⟨_, rfl, k fl H' s1 nfl hf⟩
      | @cons v p rs ps hv hps =>
        have e1 : (!(v :: rs).reverse.isEmpty) = true := by simp
        rw [e1]
        refine iteT ⟨fun σ' H2 => ∃ m', m' < wm (p :: ps) ∧ _, fun σ' H2 z => z, ?_⟩
        have hlen : rs.length ≤ wm ps := by rw [Paired.length hps]; exact wm_len ps
        rw [wm_cons] at hm
        rw [wouts_cons] at hc
        refine ⟨_, rfl, .inl ⟨rfl, _, SqL.of hw⟩, wl, _, _, rfl, rfl, hw, last_rev _ _, ?_⟩
        rw [drop_rev]
        have k1 : KT H' (upd H' wl (.lst rs.reverse)) := KT.lst hw
        have s2 : Same H (upd H' wl (.lst rs.reverse)) := s1.set hwl
        have hf2 : (upd H' wl (.lst rs.reverse)) fl = some (.lst (dn.map sgn)) := (upd_ne nfw).trans hf
        have hw2 : (upd H' wl (.lst rs.reverse)) wl = some (.lst rs.reverse) := upd_same
        have hv2 := hv.kt k1
        have hps2 := wts_kt k1 hps
        revert s2 hf2 hw2 hv2 hps2
        generalize (upd H' wl (.lst rs.reverse)) = H2
        intro s2 hf2 hw2 hv2 hps2
        have hd : (dn.map sgn).length < sizeLine := by rw [List.length_map]; omega
        rcases hv2 with ⟨rfl, rfl⟩ | ⟨x, t1, rfl, rfl, hx⟩
        · refine ⟨_, rfl, _, rfl, ?_⟩
          refine iteT ?_
          refine ⟨_, rfl, .inl ⟨rfl, _, SqL.of hf2⟩, fl, _, _, rfl, rfl, hf2, hd, ?_⟩
          refine ⟨wm ps, by rw [wm_cons]; simp only [wm1]; omega, rs, ps, dn ++ [41], _, rfl, s2.set nfl, ?_, (upd_ne (Ne.symm nfw)).trans hw2, wts_kt (KT.lst hf2) hps2, ?_, rfl, by omega⟩
          · rw [upd_same, List.map_append, e41]
            rfl
          · rw [← hc]
            simp [wout]
        · refine ⟨_, rfl, _, rfl, ?_⟩
          refine iteF ?_
          obtain ⟨dx, f1, g1, h1⟩ := hx.obj
          refine ⟨_, rfl, _, _, _, _, _, rfl, h1, T.cl, T.nZ, tf_size _ _ _, rfl, _, rfl, ?_⟩
          have hx' := hx
          cases hx with
          | nil h =>
            refine iteT ?_
            refine ⟨_, rfl, .inl ⟨rfl, _, SqL.of hf2⟩, fl, _, _, rfl, rfl, hf2, hd, ?_⟩
            refine ⟨wm ps, by rw [wm_cons]; simp only [wm1]; omega, rs, ps, dn ++ [46], _, rfl, s2.set nfl, ?_, (upd_ne (Ne.symm nfw)).trans hw2, wts_kt (KT.lst hf2) hps2, ?_, rfl, by omega⟩
            · rw [upd_same, List.map_append, e46]
              rfl
            · rw [← hc]
              simp [wout, Tr.codes]
          | @pr _ dx' b c l r h hl hr' =>
            have ed : decide (V.int ((Tr.pr l r).size : Nat) = V.int 0) = false := by
              simp only [Tr.size, decide_eq_false_iff_not, V.int.injEq]
              omega
            rw [ed]
            refine iteF ?_
            refine ⟨_, rfl, .inl ⟨rfl, _, SqL.of hf2⟩, fl, _, _, rfl, rfl, hf2, hd, ?_⟩
            have k3 : KT H2 (upd H2 fl (.lst (dn.map sgn ++ [.str "("]))) := KT.lst hf2
            have s3 : Same H (upd H2 fl (.lst (dn.map sgn ++ [.str "("]))) := s2.set nfl
            have hf3 : (upd H2 fl (.lst (dn.map sgn ++ [.str "("]))) fl = some (.lst ((dn ++ [40]).map sgn)) := by
              rw [upd_same, List.map_append, e40]
              rfl
            have hw3 : (upd H2 fl (.lst (dn.map sgn ++ [.str "("]))) wl = some (.lst rs.reverse) := (upd_ne (Ne.symm nfw)).trans hw2
            have h3 := k3 _ _ h (fun _ e => nomatch e)
            have hl3 := hl.kt k3
            have hr3 := hr'.kt k3
            have hps3 := wts_kt k3 hps2
            revert s3 hf3 hw3 h3 hl3 hr3 hps3
            generalize (upd H2 fl (.lst (dn.map sgn ++ [.str "("]))) = H3
            intro s3 hf3 hw3 h3 hl3 hr3 hps3
            refine ⟨_, rfl, .inl ⟨rfl, _, SqL.of hw3⟩, _, rfl, _, _, _, _, _, rfl, h3, T.cl, T.nS, tf_second _ _ _, _, rfl, _, _, _, _, _, rfl, h3, T.cl, T.nF, tf_first _ _ _, (by show 3 ≤ sizeLine; decide), fun q nq => ?_⟩
            have nqw : wl ≠ q := ne_of_none hw3 nq
            have nqf : fl ≠ q := ne_of_none hf3 nq
            simp only [wm1, Tr.size] at hm
            refine ⟨wl, q, _, _, rfl, rfl, (upd_ne nqw).trans hw3, upd_same, (by rw [List.length_reverse]; show rs.length + 3 ≤ sizeLine; omega), ?_⟩
            have k4 : KT H3 (upd (upd H3 q (.lst [.non, .ref c, .ref b])) wl (.lst (rs.reverse ++ [.non, .ref c, .ref b]))) := (KT.new nq).trans (KT.lst ((upd_ne nqw).trans hw3))
            refine ⟨wm (some l :: some r :: none :: ps), ?_, .ref b :: .ref c :: .non :: rs, some l :: some r :: none :: ps, dn ++ [40], _, rfl, (s3.trans (Same.new nq)).set hwl, (upd_ne nfw).trans ((upd_ne nqf).trans hf3), ?_,
              .cons (.inr ⟨b, l, rfl, rfl, hl3.kt k4⟩) (.cons (.inr ⟨c, r, rfl, rfl, hr3.kt k4⟩) (.cons (.inl ⟨rfl, rfl⟩) (wts_kt k4 hps3))), ?_, rfl, ?_⟩
            · rw [wm_cons, wm_cons, wm_cons, wm_cons]
              simp only [wm1, Tr.size]
              omega
            · rw [upd_same]
              simp
            · rw [← hc, wouts_cons, wouts_cons, wouts_cons]
              simp [wout, Tr.codes]
            · rw [wm_cons, wm_cons, wm_cons]
              simp only [wm1]
              omega
theorem joinL_signs : ∀ cs : List Nat, TL.joinL [] ((cs.map fun c => (⟨#[c]⟩ : Str)).map TL.tl) = cs
  | [] => rfl
  | [c] => rfl
  | c :: d :: r => by
    have ih := joinL_signs (d :: r)
    show [c] ++ ([] ++ TL.joinL [] (((d :: r).map fun c => (⟨#[c]⟩ : Str)).map TL.tl)) = c :: d :: r
    rw [ih]
    rfl
theorem join_signs (cs : List Nat) : (PySem.Txt.join ("" : Str) (cs.map fun c => (⟨#[c]⟩ : Str))) = ⟨cs.toArray⟩ := by
  rw [TL.join_eq]
  apply PyProof.Rows.ext_toList
  exact (TL.tl_join _ _).trans (joinL_signs cs)
theorem sum_signs : ∀ cs : List Nat, ((cs.map fun c => (⟨#[c]⟩ : Str)).map (·.length)).sum = cs.length
  | [] => rfl
  | c :: r => by
    have ih := sum_signs r
    rw [List.map_cons, List.map_cons, List.sum_cons, ih, List.length_cons]
    show 1 + _ = _
    omega
theorem scSt : FnScope ["self"] ["self"] (defScope sStr) := ⟨rfl, rfl, rfl, by decide +kernel, rfl, by decide +kernel, by decide +kernel⟩
theorem ok_str {f fS : Addr} {fd fdS : FuncData} (F : Fun K "__str__" "Thing.__str__" sStr f fd) (T : Txt K mg C) (AS : At K mg "signs" sSigns ["thing"] fS fdS) : FnOk P w K mg base CX0 2 f fd ["self"] (spStr C) := by
  have GS : FnOk P w K mg base CX0 1 fS fdS ["thing"] (spSigns C) := ok_signs AS.F T
  refine F.ok scSt (fun vs H Q E h => ?_) (fun cdv A outer s H vs Q E hr h => ?_)
  · obtain ⟨a, t, rfl, _⟩ := h
    rfl
  · obtain ⟨a, t, rfl, ha, hz, k⟩ := h
    refine ⟨_, pss_one (ps_ret (pe_join pe_str (pe_call GS hr rfl AS.mgf AS.F.kp AS.b .nil pass0 (pa_cons (pv 0) pa_nil)))), ?_⟩
    refine ⟨⟨_, rfl⟩, _, rfl, a, t, rfl, ha, hz, fun p H' s1 np hp => ?_⟩
    refine ⟨_, p, t.codes.map (fun c => (⟨#[c]⟩ : Str)), rfl, rfl, .inl (SqL.of (by rw [hp, List.map_map]; rfl)), ?_, ?_⟩
    · rw [sum_signs, Tr.codes_len, List.length_map, Tr.codes_len]
      show 3 * t.size + 1 + (3 * t.size + 1) * 0 ≤ 16777216
      omega
    · show Q (.str (PySem.Txt.join ("" : Str) (t.codes.map fun c => (⟨#[c]⟩ : Str)))) H'
      rw [join_signs]
      exact k H' s1
end
end Js
set_option Elab.async false
set_option linter.all false
set_option maxRecDepth 100000
set_option maxHeartbeats 2000000
namespace Js
open PySem L2
structure Maker (P : Program) (w : World) (K : PySem.W.Frag) (mg : Str → Option Value) (base : Heap) (C fI : Addr) (fdI : FuncData) : Prop where
  M : Mk K C fI
  G : FnOk P w K mg base CX0 2 fI fdI ["self", "first", "second"] (spInit C)
  mgC : mg "Thing" = some (.ref C)
  b2 : Binds K fdI ["self", "first", "second"] []
  b0 : ∃ ds, Vals [V.non, V.non] ds ∧ Binds K fdI ["self", "first", "second"] ds
def tT (C : Addr) (t : TA) : TE := fun σ H Q => t σ H fun vs H1 => ∃ a b t u, vs = [.ref a, .ref b] ∧ Th C H1 a t ∧ Th C H1 b u ∧ 1 + t.size + u.size ≤ 4000 ∧ ∀ z H', Same H1 H' → H1 z = none → Th C H' z (.pr t u) → Q (.ref z) H'
def tT0 (C : Addr) : TE := fun _ H Q => ∀ z H', Same H H' → H z = none → Th C H' z .nil → Q (.ref z) H'
section
open PyProof.Rows
variable {X : Cx} {C fI : Addr} {fdI : FuncData} {p pos : Pos} {e : Expr} {es : List Expr} {t : TA}
theorem pe_T2 (mk : Maker X.prog X.w X.K X.mg X.base C fI fdI) (hr : Room 3 X.A) (hg : Gl X "Thing") (ha : PA X (e :: es) t)
    (he : starEach (e :: es) X.env = (false, eval e X.env) :: starEach es X.env := by rfl) (hpl : (backTo pos (starEach es X.env)).any (·.1) = false := by rfl) : PE X (.Call (.Name "Thing" p) (e :: es) [] pos) (tT C t) := by
  refine ⟨fun pins s σ H Q I h => ?_⟩
  refine wpAny_Call_Name_kw (ld_glob I hg mk.mgC ?_ (by decide))
  refine PySem.W.callWith_K (h₀ := X.base) I.ok.mod.kin mk.M.kp (thn (ha.run pos pins s σ H _ I h) fun us s1 ⟨vs, H1, I1, r, q⟩ => ⟨I1.kIn, ?_⟩) he hpl
  obtain ⟨a, b, t, u, rfl, h1, h2, hz, k⟩ := q
  exact run_make mk.M mk.G hr mk.b2 .nil pass0 I1 r (mk_pr h1 h2 hz k)
theorem pe_T0 (mk : Maker X.prog X.w X.K X.mg X.base C fI fdI) (hr : Room 3 X.A) (hg : Gl X "Thing") : PE X (.Call (.Name "Thing" p) [] [] pos) (tT0 C) := by
  obtain ⟨ds, hv, hb⟩ := mk.b0
  refine ⟨fun pins s σ H Q I h => ?_⟩
  refine wpAny_Call_Name_kw (ld_glob I hg mk.mgC ?_ (by decide))
  exact PySem.W.callWith_K0 I.kIn mk.M.kp (run_make (us := []) mk.M mk.G hr hb hv pass0 I .nil (mk_nil h))
end
def ThV (C : Addr) (H : Hp) (v : V) (t : Tr) : Prop := ∃ a, v = .ref a ∧ Th C H a t
theorem ThV.kt {C : Addr} {H H' : Hp} (k : KT H H') {v : V} {t : Tr} (h : ThV C H v t) : ThV C H' v t := by
  obtain ⟨a, e, h⟩ := h
  exact ⟨a, e, h.kt k⟩
theorem ths_kt {C : Addr} {H H' : Hp} (k : KT H H') : ∀ {vs : List V} {ts : List Tr}, Paired (ThV C H) vs ts → Paired (ThV C H') vs ts
  | _, _, .nil => .nil
  | _, _, .cons h t => .cons (h.kt k) (ths_kt k t)
theorem paired_get {α β : Type} {F : α → β → Prop} : ∀ {xs : List α} {ys : List β}, Paired F xs ys → ∀ {i : Nat} {x : α}, xs[i]? = some x → ∃ y, ys[i]? = some y ∧ F x y
  | _, _, .nil, i, x, h => by simp at h
  | _, _, .cons h t, 0, x, e => by
    simp at e
    subst e
    exact ⟨_, rfl, h⟩
  | _, _, .cons h t, i + 1, x, e => by
    simp at e
    obtain ⟨y, e1, e2⟩ := paired_get t e
    exact ⟨y, by simpa using e1, e2⟩
theorem paired_snoc {α β : Type} {F : α → β → Prop} : ∀ {xs : List α} {ys : List β} {x : α} {y : β}, Paired F xs ys → F x y → Paired F (xs ++ [x]) (ys ++ [y])
  | _, _, _, _, .nil, h => .cons h .nil
  | _, _, _, _, .cons h t, h' => .cons h (paired_snoc t h')
end Js
set_option Elab.async false
set_option linter.all false
set_option maxRecDepth 100000
set_option maxHeartbeats 2000000
namespace Js
open PySem L2
abbrev sNumber : Stmt := top 15
abbrev sRow : Stmt := top 17
def num : Nat → Tr
  | 0 => .nil
  | n + 1 => .pr .nil (num n)
theorem num_size : ∀ n, (num n).size = n
  | 0 => rfl
  | n + 1 => by simp only [num, Tr.size, num_size n]; omega
def rowT : List Tr → Tr
  | [] => .nil
  | t :: r => .pr t (rowT r)
def spNumber (C : Addr) : Sp := fun vs H Q _ => ∃ n : Nat, vs = [.int (n : Nat)] ∧ n ≤ 4000 ∧ ∀ a H', Same H H' → Th C H' a (num n) → Q (.ref a) H'
def spRow (C : Addr) : Sp := fun vs H Q _ => ∃ l xs ts, vs = [.ref l] ∧ H l = some (.lst xs) ∧ Paired (ThV C H) xs ts ∧ (rowT ts).size ≤ 4000 ∧ ∀ a H', Same H H' → Th C H' a (rowT ts) → Q (.ref a) H'
theorem row_drop (ts : List Tr) (i : Nat) (t : Tr) (h : ts[i]? = some t) : rowT (ts.drop i) = .pr t (rowT (ts.drop (i + 1))) := by
  have hi := (List.getElem?_eq_some_iff.mp h).1
  have e := (List.getElem?_eq_some_iff.mp h).2
  rw [List.drop_eq_getElem_cons hi, e, rowT]
theorem row_drop_size : ∀ (ts : List Tr) (i : Nat), (rowT (ts.drop i)).size ≤ (rowT ts).size
  | [], i => by simp
  | t :: r, 0 => by simp
  | t :: r, i + 1 => by
    have := row_drop_size r i
    simp only [List.drop_succ_cons, rowT, Tr.size]
    omega
section
variable {P : Program} {w : World} {K : PySem.W.Frag} {mg : Str → Option Value} {base : Heap} {C fI : Addr} {fdI : FuncData}
theorem scN : FnScope ["n", "told", "step"] ["n"] (defScope sNumber) := ⟨rfl, rfl, rfl, by decide +kernel, rfl, by decide +kernel, by decide +kernel⟩
theorem ok_number {f : Addr} {fd : FuncData} (F : Fun K "number" "number" sNumber f fd) (T : Txt K mg C) (mk : Maker P w K mg base C fI fdI) : FnOk P w K mg base CX0 4 f fd ["n"] (spNumber C) := by
  refine F.ok scN (fun vs H Q E h => ?_) (fun cdv A outer s H vs Q E hr h => ?_)
  · obtain ⟨n, rfl, _⟩ := h
    rfl
  · obtain ⟨n, rfl, hn, k⟩ := h
    refine ⟨_, pss_cons (ps_set (i := 1) scN.nd rfl (Or.inl rfl) (pe_T0 mk hr rfl))
      (pss_cons (ps_for PassesOwn.never rfl (pi_range1 rfl T.range (pa_cons (pv 0) pa_nil)) (pg_name (i := 2) scN.nd rfl (Or.inl rfl))
        (pss_one (ps_set (i := 1) scN.nd rfl (Or.inl rfl) (pe_T2 mk hr rfl (pa_cons (pe_T0 mk hr rfl) (pa_cons (pv 1) pa_nil))))))
      (pss_one (ps_ret (pv 1)))), ?_⟩
    intro x0 H1 s1 _ h1
    refine ⟨_, rfl, _, rfl, by omega, by omega, for_range (n := ((n : Nat) : Int).toNat) (fun i σ H' => ∃ x a, σ = [some (.int (n : Nat)), some (.ref a), x] ∧ Same H H' ∧ Th C H' a (num i)) ⟨none, x0, rfl, s1, h1⟩ ?_ ?_⟩
    · rintro i σ H2 hi ⟨x, a, rfl, s2, h2⟩
      intro x1 H3 s3 _ h3
      refine ⟨_, rfl, _, _, _, _, rfl, h3, h2.same s3, ?_, fun x2 H4 s4 _ h4 => ?_⟩
      · rw [num_size]
        simp only [Tr.size]
        omega
      · exact ⟨_, x2, rfl, (s2.trans s3).trans s4, h4⟩
    · rintro σ H2 ⟨x, a, rfl, s2, h2⟩
      refine ⟨_, rfl, k a H2 s2 ?_⟩
      have e : ((n : Nat) : Int).toNat = n := by omega
      rw [e] at h2
      exact h2
theorem scR : FnScope ["things", "told", "part"] ["things"] (defScope sRow) := ⟨rfl, rfl, rfl, by decide +kernel, rfl, by decide +kernel, by decide +kernel⟩
theorem ok_row {f : Addr} {fd : FuncData} (F : Fun K "row" "row" sRow f fd) (T : Txt K mg C) (mrev : mg "reversed" = none) (mk : Maker P w K mg base C fI fdI) : FnOk P w K mg base CX0 4 f fd ["things"] (spRow C) := by
  refine F.ok scR (fun vs H Q E h => ?_) (fun cdv A outer s H vs Q E hr h => ?_)
  · obtain ⟨l, xs, ts, rfl, _⟩ := h
    rfl
  · obtain ⟨l, xs, ts, rfl, hl, hps, hz, k⟩ := h
    refine ⟨_, pss_cons (ps_set (i := 1) scR.nd rfl (Or.inl rfl) (pe_T0 mk hr rfl))
      (pss_cons (ps_for PassesOwn.never rfl (pi_reversed rfl mrev (pa_cons (pv 0) pa_nil)) (pg_name (i := 2) scR.nd rfl (Or.inl rfl))
        (pss_one (ps_set (i := 1) scR.nd rfl (Or.inl rfl) (pe_T2 mk hr rfl (pa_cons (pv 2) (pa_cons (pv 1) pa_nil))))))
      (pss_one (ps_ret (pv 1)))), ?_⟩
    have hlen := Paired.length hps
    intro x0 H1 s1 _ h1
    refine ⟨_, rfl, l, xs, rfl, SqL.of (s1 _ _ hl), for_it (walk_rev (K := K) (a := l) (xs := xs)) (fun i σ H' => ∃ x a, σ = [some (.ref l), some (.ref a), x] ∧ Same H H' ∧ Th C H' a (rowT (ts.drop (xs.length - i)))) ⟨none, x0, rfl, s1, ?_⟩ ?_ ?_ ?_⟩
    · rw [Nat.sub_zero, hlen, List.drop_length]
      exact h1
    · rintro i σ H2 _ ⟨x, a, rfl, s2, h2⟩
      exact SqL.of (s2 _ _ hl)
    · rintro i y σ H2 H3 hi ⟨x, a, rfl, s2, h2⟩ ⟨rfl, hy⟩
      obtain ⟨ty, e1, b, rfl, hb⟩ := paired_get hps hy
      have e2 := row_drop ts _ _ e1
      have e3 : xs.length - 1 - i + 1 = xs.length - i := by omega
      have e4 : xs.length - 1 - i = xs.length - (i + 1) := by omega
      have hsz := row_drop_size ts (xs.length - 1 - i)
      rw [e2, e3] at hsz
      refine ⟨_, rfl, _, rfl, _, _, _, _, rfl, hb.same s2, h2, ?_, fun x2 H4 s4 _ h4 => ?_⟩
      · simp only [Tr.size] at hsz
        omega
      · refine ⟨_, x2, rfl, s2.trans s4, ?_⟩
        rw [← e4, e2, e3]
        exact h4
    · rintro σ H2 ⟨x, a, rfl, s2, h2⟩
      rw [Nat.sub_self, List.drop_zero] at h2
      exact ⟨_, rfl, k a H2 s2 h2⟩
end
end Js
set_option Elab.async false
set_option linter.all false
set_option maxRecDepth 100000
set_option maxHeartbeats 2000000
namespace Js
open PySem L2
abbrev sBag : Stmt := top 51
abbrev sTake : Stmt := top 52
structure Blt (mg : Str → Option Value) : Prop where
  len : mg "len" = none
  range : mg "range" = none
  abs : mg "abs" = none
  int : mg "int" = none
  str : mg "str" = none
  max : mg "max" = none
  min : mg "min" = none
  all : mg "all" = none
structure BagOk (H : Hp) (p : Addr) : Prop where
  ex : ∃ x0 x1 pr x3 : Int, H p = some (.lst [.int x0, .int x1, .int pr, .int x3]) ∧ 0 ≤ x0 ∧ 0 ≤ x1 ∧ x1 < 2147483648 ∧ 0 < pr ∧ pr < 2147483648
def KB (p : Addr) (H H' : Hp) : Prop := ∀ a o, a ≠ p → H a = some o → H' a = some o
theorem KB.refl (p : Addr) (H : Hp) : KB p H H := fun _ _ _ h => h
theorem KB.of {p : Addr} {H H' : Hp} (s : Same H H') : KB p H H' := fun _ _ _ h => s _ _ h
theorem KB.trans {p : Addr} {H H1 H2 : Hp} (a : KB p H H1) (b : KB p H1 H2) : KB p H H2 := fun x o n h => b x o n (a x o n h)
theorem KB.set {p : Addr} {H : Hp} {o : HO} : KB p H (upd H p o) := fun x u n h => by rw [upd_ne n]; exact h
theorem KB.kt {p : Addr} {H H' : Hp} (k : KB p H H') {xs : List V} (hp : H p = some (.lst xs)) : KT H H' := fun a o h n => k a o (fun z => by subst z; exact n _ (Option.some.inj (h.symm.trans hp))) h
theorem BagOk.kt {p : Addr} {H H' : Hp} (b : BagOk H p) (k : KB p H H') : KT H H' := by
  obtain ⟨x0, x1, pr, x3, h, _⟩ := b.ex
  exact k.kt h
theorem BagOk.same {p : Addr} {H H' : Hp} (b : BagOk H p) (s : Same H H') : BagOk H' p := by
  obtain ⟨x0, x1, pr, x3, h, r⟩ := b.ex
  exact ⟨x0, x1, pr, x3, s _ _ h, r⟩
theorem BagOk.some {p : Addr} {H : Hp} (b : BagOk H p) : ∃ xs, H p = some (.lst xs) := by
  obtain ⟨x0, x1, pr, x3, h, r⟩ := b.ex
  exact ⟨_, h⟩
def spBag (K : PySem.W.Frag) : Sp := fun vs H Q _ => ∃ (a : Addr) (ns : List Int) (k : Nat), vs = [.ref a, .int (k : Nat)] ∧ SqL K H a (ns.map V.int) ∧ k < 8 ∧ ∀ p H', Same H H' → H p = none → BagOk H' p → Q (.ref p) H'
def spTake : Sp := fun vs H Q _ => ∃ (p : Addr) (m : Int), vs = [.ref p, .int m] ∧ BagOk H p ∧ 0 < m ∧ m < 1073741824 ∧ ∀ (d : Int) H', KB p H H' → BagOk H' p → 0 ≤ d → d < m → Q (.int d) H'
def primes : List V := [.int 2147483629, .int 2147483587, .int 2147483579, .int 2147483563, .int 2147483549, .int 2147483543, .int 2147483497, .int 2147483489]
theorem prime_at (k : Nat) (hk : k < 8) : ∃ pr : Int, atI primes ((k : Int) % 8) = some (.int pr) ∧ 0 < pr ∧ pr < 2147483648 := by
  have e : ((k : Int) % 8) = (k : Nat) := by omega
  rw [e]
  match k, hk with
  | 0, _ => exact ⟨_, atI_nat rfl, by decide, by decide⟩
  | 1, _ => exact ⟨_, atI_nat rfl, by decide, by decide⟩
  | 2, _ => exact ⟨_, atI_nat rfl, by decide, by decide⟩
  | 3, _ => exact ⟨_, atI_nat rfl, by decide, by decide⟩
  | 4, _ => exact ⟨_, atI_nat rfl, by decide, by decide⟩
  | 5, _ => exact ⟨_, atI_nat rfl, by decide, by decide⟩
  | 6, _ => exact ⟨_, atI_nat rfl, by decide, by decide⟩
  | 7, _ => exact ⟨_, atI_nat rfl, by decide, by decide⟩
section
variable {P : Program} {w : World} {K : PySem.W.Frag} {mg : Str → Option Value} {base : Heap} {C fI : Addr} {fdI : FuncData}
theorem scB : FnScope ["_law_script", "_law_at", "_law_cell", "_law_prime"] ["_law_script", "_law_at"] (defScope sBag) := ⟨rfl, rfl, rfl, by decide +kernel, rfl, by decide +kernel, by decide +kernel⟩
theorem ok_bag {f : Addr} {fd : FuncData} (F : Fun K "_law_bag" "_law_bag" sBag f fd) (B : Blt mg) : FnOk P w K mg base CX0 1 f fd ["_law_script", "_law_at"] (spBag K) := by
  refine F.ok scB (fun vs H Q E h => ?_) (fun cdv A outer s H vs Q E hr h => ?_)
  · obtain ⟨a, ns, k, rfl, _⟩ := h
    rfl
  · obtain ⟨a, ns, kk, rfl, hS, hk, k⟩ := h
    refine ⟨_, pss_cons (ps_set (i := 2) scB.nd rfl (Or.inl rfl) pe_int)
      (pss_cons (ps_if (pt_cmpR op_lt (pv 1) (pe_callB call_len_seq (by rfl) B.len PySem.boot_len (pa_cons (pv 0) pa_nil)) (nomark _))
        (pss_one (ps_set (i := 2) scB.nd rfl (Or.inl rfl) (pe_callB call_abs (by rfl) B.abs PyProof.Rows.boot_abs (pa_cons (pe_ix ix_list (pv 0) (pv 1) (fun _ _ => rfl)) pa_nil)))) pss_nil)
      (pss_cons (ps_set (i := 3) scB.nd rfl (Or.inl rfl) (pe_ix ix_list (pe_lst (pa_cons pe_int (pa_cons pe_int (pa_cons pe_int (pa_cons pe_int (pa_cons pe_int (pa_cons pe_int (pa_cons pe_int (pa_cons pe_int pa_nil))))))))) (pe_op op_mod (pv 1) pe_int) (fun _ _ => rfl)))
      (pss_one (ps_ret (pe_lst (pa_cons (pe_op op_mul (pv 2) (pe_callTy call_int1 (by rfl) B.int PyProof.Rows.boot_int (pa_cons (pe_cmpR op_ge (pv 2) (pe_op op_pow pe_int pe_int) (nomark _)) pa_nil)))
        (pa_cons (pe_op op_mod (pe_op op_pow (pe_op op_add (pe_op op_add (pe_op op_mod (pv 2) pe_int) (pe_op op_mul pe_int (pv 1))) pe_int) pe_int) (pv 3)) (pa_cons (pv 3) (pa_cons pe_int pa_nil))))))))), ?_⟩
    -- behind the first if
    have rest : ∀ (cell : Int), 0 ≤ cell → tSeq (tAsg (tOp (rIxL K) (tLst (tCons (tC (V.int 2147483629)) (tCons (tC (V.int 2147483587)) (tCons (tC (V.int 2147483579)) (tCons (tC (V.int 2147483563)) (tCons (tC (V.int 2147483549)) (tCons (tC (V.int 2147483543)) (tCons (tC (V.int 2147483497)) (tCons (tC (V.int 2147483489)) tNil))))))))) (tOp (rI (fun _ j => 0 < j) fun i j => .int (i % j)) (tVar 1) (tC (V.int 8)))) (gName 3))
        (tRet (tLst (tCons (tOp (rI CMul fun i j => .int (i * j)) (tVar 2) (tCB (fun xs H Q => (∃ i, xs = [.int i] ∧ Q (.int i) H) ∨ ∃ k, xs = [.bl k] ∧ Q (.int (if k then 1 else 0)) H) (tCons (tOp (rI0 fun i j => .bl (decide (j ≤ i))) (tVar 2) (tOp (rI CPow fun i j => .int (i ^ j.toNat)) (tC (.int 10)) (tC (.int 18)))) tNil)))
          (tCons (tOp (rI (fun _ j => 0 < j) fun i j => .int (i % j)) (tOp (rI CPow fun i j => .int (i ^ j.toNat)) (tOp (rI0 fun i j => .int (i + j)) (tOp (rI0 fun i j => .int (i + j)) (tOp (rI (fun _ j => 0 < j) fun i j => .int (i % j)) (tVar 2) (tC (.int 2147483647))) (tOp (rI CMul fun i j => .int (i * j)) (tC (.int 104729)) (tVar 1))) (tC (.int 7))) (tC (.int 5))) (tVar 3)) (tCons (tVar 3) (tCons (tC (.int 0)) tNil))))))
        { nx := fun _ H' => Q .non H', rt := Q } [some (.ref a), some (.int (kk : Nat)), some (.int cell), none] H := by
      intro cell hc
      refine ⟨(by show 8 ≤ sizeLine; decide), fun pl npl => ?_⟩
      obtain ⟨pr, e1, e2, e3⟩ := prime_at kk hk
      refine ⟨_, rfl, _, _, rfl, rfl, (by show (0 : Int) < 8; decide), pl, _, _, _, rfl, rfl, SqL.of upd_same, e1, ?_⟩
      refine ⟨_, rfl, _, rfl, _, _, rfl, rfl, ⟨by decide, by decide, by decide⟩, _, _, rfl, rfl, .inr ⟨_, rfl, _, _, rfl, rfl, .inr ?_, ?_⟩⟩
      · split
        · exact ⟨by decide, by decide⟩
        · exact ⟨by decide, by decide⟩
      · refine ⟨_, rfl, _, _, rfl, rfl, (by show (0 : Int) < 2147483647; decide), _, rfl, _, _, rfl, rfl, .inl ⟨by decide, by decide⟩, _, _, rfl, rfl, _, _, rfl, rfl, _, _, rfl, rfl, ⟨by decide, by decide, ?_⟩, _, rfl, _, _, rfl, rfl, e2, _, rfl, (by show 4 ≤ sizeLine; decide), fun p np => ?_⟩
        · have h1 : 0 ≤ cell % 2147483647 := Int.emod_nonneg _ (by decide)
          have h2 : cell % 2147483647 < 2147483647 := Int.emod_lt_of_pos _ (by decide)
          show (cell % 2147483647 + 104729 * (kk : Int) + 7).natAbs < 2 ^ 64
          omega
        · have hne : H p = none := (Same.new npl).free np
          refine k p _ ((Same.new npl).trans (Same.new np)) hne ⟨_, _, pr, 0, upd_same, ?_, ?_, ?_, e2, e3⟩
          · split
            · simpa using hc
            · simp
          · exact Int.emod_nonneg _ (by omega)
          · exact Int.lt_trans (Int.emod_lt_of_pos _ e2) e3
    refine ⟨_, rfl, _, rfl, a, _, rfl, .inl hS, _, _, rfl, rfl, _, rfl, ?_⟩
    refine ite2 (fun hlt => ?_) (fun _ => rest 0 (by decide))
    have hlt' : kk < ns.length := by
      have := of_decide_eq_true hlt
      rw [List.length_map] at this
      omega
    refine ⟨_, rfl, _, rfl, a, _, _, _, rfl, rfl, hS, atI_nat (v := .int ns[kk]) (by rw [List.getElem?_map, List.getElem?_eq_getElem hlt']; rfl), _, rfl, ?_⟩
    exact rest _ (by split <;> omega)
theorem scTk : FnScope ["_law_bag_here", "_law_many", "_law_digit"] ["_law_bag_here", "_law_many"] (defScope sTake) := ⟨rfl, rfl, rfl, by decide +kernel, rfl, by decide +kernel, by decide +kernel⟩
theorem ok_take {f : Addr} {fd : FuncData} (F : Fun K "_law_take" "_law_take" sTake f fd) : FnOk P w K mg base CX0 1 f fd ["_law_bag_here", "_law_many"] spTake := by
  refine F.ok scTk (fun vs H Q E h => ?_) (fun cdv A outer s H vs Q E hr h => ?_)
  · obtain ⟨p, m, rfl, _⟩ := h
    rfl
  · obtain ⟨p, m, rfl, ⟨x0, x1, pr, x3, hp, h0, h1, h1', hp0, hp1⟩, hm0, hm1, k⟩ := h
    refine ⟨_, pss_cons (ps_if (pt_cmpR op_gt (pe_ix ix_list (pv 0) pe_int (fun _ _ => rfl)) pe_int (nomark _))
        (pss_cons (ps_set (i := 2) scTk.nd rfl (Or.inl rfl) (pe_op op_mod (pe_ix ix_list (pv 0) pe_int (fun _ _ => rfl)) (pv 1)))
        (pss_cons (ps_asg (pe_op op_fdiv (pe_ix ix_list (pv 0) pe_int (fun _ _ => rfl)) (pv 1)) (pg_sub (pv 0) pe_int set_list)) (pss_one (ps_ret (pv 2))))) pss_nil)
      (pss_cons (ps_asg (pe_op op_add (pe_ix ix_list (pv 0) pe_int (fun _ _ => rfl)) pe_int) (pg_sub (pv 0) pe_int set_list))
      (pss_cons (ps_asg (pe_op op_mod (pe_op op_add (pe_op op_add (pe_op op_mul (pe_ix ix_list (pv 0) pe_int (fun _ _ => rfl)) pe_int) (pe_op op_mul pe_int (pe_ix ix_list (pv 0) pe_int (fun _ _ => rfl)))) pe_int) (pe_ix ix_list (pv 0) pe_int (fun _ _ => rfl))) (pg_sub (pv 0) pe_int set_list))
      (pss_one (ps_ret (pe_op op_mod (pe_op op_mod (pe_op op_pow (pe_op op_fdiv (pe_ix ix_list (pv 0) pe_int (fun _ _ => rfl)) pe_int) pe_int) pe_int) (pv 1)))))), ?_⟩
    refine ⟨_, rfl, p, _, _, .int x0, rfl, rfl, SqL.of hp, rfl, _, _, rfl, rfl, _, rfl, ?_⟩
    refine ite2 (fun hlt => ?_) (fun _ => ?_)
    · refine ⟨_, rfl, p, _, _, .int x0, rfl, rfl, SqL.of hp, rfl, _, rfl, _, _, rfl, rfl, hm0, ?_⟩
      refine ⟨_, rfl, p, _, _, .int x0, rfl, rfl, SqL.of hp, rfl, _, rfl, _, _, rfl, rfl, ⟨hm0, hm1⟩, _, rfl, p, _, _, 0, rfl, rfl, hp, rfl, ?_⟩
      refine ⟨_, rfl, k _ _ KB.set ⟨x0 / m, x1, pr, x3, upd_same, ?_, h1, h1', hp0, hp1⟩ ?_ ?_⟩
      · exact Int.ediv_nonneg h0 (by omega)
      · exact Int.emod_nonneg _ (by omega)
      · exact Int.emod_lt_of_pos _ hm0
    · refine ⟨_, rfl, p, _, _, .int x3, rfl, rfl, SqL.of hp, rfl, _, _, rfl, rfl, _, rfl, p, _, _, 3, rfl, rfl, hp, rfl, ?_⟩
      have hp2 : (upd H p (.lst [.int x0, .int x1, .int pr, .int (x3 + 1)])) p = some (.lst [.int x0, .int x1, .int pr, .int (x3 + 1)]) := upd_same
      refine ⟨_, rfl, p, _, _, .int x1, rfl, rfl, SqL.of hp2, rfl, _, _, rfl, rfl, .inr ⟨by decide, by decide⟩, _, rfl, p, _, _, .int (x3 + 1), rfl, rfl, SqL.of hp2, rfl, _, _, rfl, rfl, .inl ⟨by decide, by decide⟩, _, _, rfl, rfl, _, _, rfl, rfl, _, rfl, p, _, _, .int pr, rfl, rfl, SqL.of hp2, rfl, _, _, rfl, rfl, hp0, _, rfl, p, _, _, 1, rfl, rfl, hp2, rfl, ?_⟩
      have g0 : 0 ≤ (x1 * 48271 + 7919 * (x3 + 1) + 11) % pr := Int.emod_nonneg _ (by omega)
      have g1 : (x1 * 48271 + 7919 * (x3 + 1) + 11) % pr < pr := Int.emod_lt_of_pos _ hp0
      have hp3 : (upd (upd H p (.lst [.int x0, .int x1, .int pr, .int (x3 + 1)])) p (.lst [.int x0, .int ((x1 * 48271 + 7919 * (x3 + 1) + 11) % pr), .int pr, .int (x3 + 1)])) p = some (.lst [.int x0, .int ((x1 * 48271 + 7919 * (x3 + 1) + 11) % pr), .int pr, .int (x3 + 1)]) := upd_same
      refine ⟨_, rfl, p, _, _, .int ((x1 * 48271 + 7919 * (x3 + 1) + 11) % pr), rfl, rfl, SqL.of hp3, rfl, _, _, rfl, rfl, ⟨by decide, by decide⟩, _, _, rfl, rfl, ⟨by decide, by decide, ?_⟩, _, _, rfl, rfl, (by show (0 : Int) < 2147483629; decide), _, rfl, _, _, rfl, rfl, hm0, ?_⟩
      · generalize (x1 * 48271 + 7919 * (x3 + 1) + 11) % pr = y at g0 g1
        show (y / 8).natAbs < 2 ^ 64
        omega
      · refine k _ _ (KB.set.trans KB.set) ⟨x0, _, pr, x3 + 1, hp3, h0, g0, by omega, hp0, hp1⟩ ?_ ?_
        · exact Int.emod_nonneg _ (by omega)
        · exact Int.emod_lt_of_pos _ hm0
end
end Js
set_option Elab.async false
set_option linter.all false
set_option maxRecDepth 100000
set_option maxHeartbeats 2000000
namespace Js
open PySem L2
def Def (P : Program) (w : World) (K : PySem.W.Frag) (mg : Str → Option Value) (base : Heap) (x : Str) (k : Nat) (ps : List Str) (sp : Sp) : Prop :=
  ∃ f fd, mg x = some (.ref f) ∧ PySem.W.keepIn K (.ref f) = true ∧ FnOk P w K mg base CX0 k f fd ps sp ∧ Binds K fd ps []
def Spc (P : Program) (w : World) (K : PySem.W.Frag) (mg : Str → Option Value) (base : Heap) (C : Addr) (x : Str) (k : Nat) (ps : List Str) (sp : Sp) : Prop :=
  ∃ f fd, Own K C x f ∧ FnOk P w K mg base CX0 k f fd ps sp ∧ Binds K fd ps []
section
open PyProof.Rows
variable {X : Cx} {C : Addr} {p pos apos : Pos} {e o : Expr} {es : List Expr} {t : TA} {ta : TE} {x : Str} {k : Nat} {ps : List Str} {sp : Sp}
theorem pe_def (D : Def X.prog X.w X.K X.mg X.base x k ps sp) (hr : Room k X.A) (hg : Gl X x) (ha : PA X (e :: es) t) (hdb : (x == ("__debug__" : Str)) = false := by decide)
    (he : starEach (e :: es) X.env = (false, eval e X.env) :: starEach es X.env := by rfl) (hpl : (backTo pos (starEach es X.env)).any (·.1) = false := by rfl) : PE X (.Call (.Name x p) (e :: es) [] pos) (tCall sp [] E0 t) := by
  obtain ⟨f, fd, hm, hk, F, hb⟩ := D
  exact pe_call F hr hg hm hk hb .nil pass0 ha hdb he hpl
theorem OpR.imp {f : Value → Value → Sem Value} {r r' : R2} (h : OpR X f r) (hi : ∀ x y H Q, r' x y H Q → r x y H Q) : OpR X f r' := fun pins s σ H x y v u Q I rx ry q => h pins s σ H x y v u Q I rx ry (hi x y H Q q)
theorem CallR.imp {f : Value} {r r' : List V → Hp → VK → Prop} (h : CallR X f r) (hi : ∀ xs H Q, r' xs H Q → r xs H Q) : CallR X f r' := fun pins s σ H xs us Q I rx q => h pins s σ H xs us Q I rx (hi xs H Q q)
theorem call_strT (S : Spc X.prog X.w X.K X.mg X.base C "__str__" 2 ["self"] (spStr C)) (hr : Room 4 X.A) : CallR X (.type "str") (fun xs H Q => ∃ a t, xs = [.ref a] ∧ Th C H a t ∧ t.size ≤ 4000 ∧ ∀ H', Same H H' → Q (.str t.text) H') := by
  obtain ⟨f, fd, ow, F, hb⟩ := S
  refine CallR.imp (call_strOwn ow F hb hr (pass0)) fun xs H Q h => ?_
  obtain ⟨a, t, rfl, ha, hz, q⟩ := h
  obtain ⟨dx, f1, g1, h1⟩ := ha.obj
  exact ⟨a, dx, _, rfl, h1, a, t, rfl, ha, hz, fun H' s => ⟨_, rfl, q H' s⟩⟩
def DTh (C : Addr) : Tells := fun x y r H => ∃ a b t u, x = .ref a ∧ y = .ref b ∧ Th C H a t ∧ Th C H b u ∧ t.size ≤ 4000 ∧ r = decide (t = u)
end
end Js
set_option Elab.async false
set_option linter.all false
set_option maxRecDepth 100000
set_option maxHeartbeats 2000000
namespace JsQ
open PySem PySem.SeqAt
open AutoSeq1 (wpAny_loadPart')
open MeetsSeq MeetsSeq2 MeetsSeq3 SeqRoads2
section
variable {prog : Program} {w : World} {A : Around} {R : Result → Shared → Prop}
def TwoL (l b : Addr) (N : Nat) (us vs : Array Value) (s : Shared) : Prop := (∃ n, s.heap.get? l = some { cls := .type "list", data := .seq us n }) ∧ (∃ m, s.heap.get? b = some { cls := .type "list", data := .seq vs m }) ∧ us.size = N ∧ vs.size = N
structure Goes (prog : Program) (w : World) (A : Around) (X : Value → Shared → Prop) (l b : Addr) (N : Nat) (J Fa : Nat → Shared → Prop) : Prop where
  turn : ∀ i s, J i s → ∃ us vs : Array Value, TwoL l b N us vs s ∧ ∀ (h1 : i < us.size) (h2 : i < vs.size), wpAny (model prog w) A.in1 (eqBool us[i] vs[i]) (fun r s' => if r = true then J (i + 1) s' else Fa i s') X s
  stay : ∀ i s, Fa i s → ∃ us vs : Array Value, TwoL l b N us vs s
theorem loop_ne (l b : Addr) (N : Nat) (J Fa : Nat → Shared → Prop) (g : Goes prog w A (fun e s' => R (.error e) s') l b N J Fa) (fin : ∀ s, J N s → R (.ok (.ret (.bool false))) s) (brk : ∀ i s, Fa i s → R (.ok (.ret (.bool true))) s) (k : Nat) :
    ∀ i : Nat, N - i = k → i ≤ N → ∀ s, J i s → wpAny (model prog w) A.in1 (Builtin.«list.__eq__.loop» ⟨[.ref l, .ref b, rawInt i, rawInt 3], []⟩) (GQ.FinOf prog w A R) (fun e s' => R (.error e) s') s := by
  induction k with
  | zero =>
    intro i hk hi s h
    obtain ⟨us, vs, ⟨⟨n, c1⟩, ⟨m, c2⟩, z1, z2⟩, _⟩ := g.turn _ _ h
    have ei : i = N := by omega
    have hR : R (.ok (.ret (.bool false))) s := fin s (ei ▸ h)
    obtain ⟨hp, gg, d, tk, os⟩ := s
    wp_walk using wpAny_loadPart' c1, wpAny_loadPart' c2
    have q1 : us[((i : Nat) : Int).toNat]? = none := by simp; omega
    have q2 : vs[((i : Nat) : Int).toNat]? = none := by simp; omega
    rw [q1, q2]
    wp_walk using wpAny_loadPart' c1, wpAny_loadPart' c2
    first
    | (show R (.ok (.ret (.bool (us.size == vs.size)))) _; rw [z1, z2]; simpa using hR)
    | (show R (.ok (.ret (.bool (us.size != vs.size)))) _; rw [z1, z2]; simpa using hR)
  | succ k ih =>
    intro i hk hi s h
    obtain ⟨us, vs, ⟨⟨n, c1⟩, ⟨m, c2⟩, z1, z2⟩, turn⟩ := g.turn _ _ h
    have l1 : i < us.size := by omega
    have l2 : i < vs.size := by omega
    have ht := turn l1 l2
    obtain ⟨hp, gg, d, tk, os⟩ := s
    wp_walk using wpAny_loadPart' c1, wpAny_loadPart' c2
    have q1 : us[((i : Nat) : Int).toNat]? = some us[i] := by simp [l1]
    have q2 : vs[((i : Nat) : Int).toNat]? = some vs[i] := by simp [l2]
    have ec : ((i : Int) + 1) = ((i + 1 : Nat) : Int) := by omega
    rw [q1, q2]
    refine wpAny_bind (wpAny_mono ht (fun r s2 h2 => ?_) fun _ _ x => x)
    cases r with
    | true =>
      rw [if_pos rfl] at h2
      have again := ih (i + 1) (by omega) (by omega) s2 h2
      obtain ⟨hp2, g2, d2, tk2, os2⟩ := s2
      wp_walk
      rw [ec]
      exact ⟨plainId_quiet plain_eq_loop _, codeAny_builtin entry_eq_loop (by rw [Around.under_plainId plain_eq_loop _]; exact again)⟩
    | false =>
      rw [if_neg Bool.false_ne_true] at h2
      obtain ⟨us', vs', ⟨n', c1'⟩, ⟨m', c2'⟩, z1', z2'⟩ := g.stay _ _ h2
      have hR := brk i s2 h2
      obtain ⟨hp2, g2, d2, tk2, os2⟩ := s2
      have p1 : us'[((i : Nat) : Int).toNat]? = some (us'[i]'(by omega)) := by first | (simp; done) | (simp; omega)
      have p2 : vs'[((i : Nat) : Int).toNat]? = some (vs'[i]'(by omega)) := by first | (simp; done) | (simp; omega)
      wp_walk using wpAny_loadPart' c1', wpAny_loadPart' c2'
      first
      | exact hR
      | (rw [p1, p2]; wp_walk; simpa using hR)
theorem list_ne (l b : Addr) (N : Nat) (J Fa : Nat → Shared → Prop) (g : Goes prog w A (fun e s' => R (.error e) s') l b N J Fa) (fin : ∀ s, J N s → R (.ok (.ret (.bool false))) s) (brk : ∀ i s, Fa i s → R (.ok (.ret (.bool true))) s) {s : Shared} (h : J 0 s) :
    wpAny (model prog w) A.in1 (Builtin.«list.__ne__» ⟨[.ref l, .ref b], []⟩) (GQ.FinOf prog w A R) (fun e s' => R (.error e) s') s := by
  obtain ⟨us, vs, ⟨⟨n, c1⟩, ⟨m, c2⟩, z1, z2⟩, _⟩ := g.turn _ _ h
  have go := loop_ne (A := A) (R := R) l b N J Fa g fin brk _ 0 rfl (Nat.zero_le _) s h
  obtain ⟨hp, gg, d, tk, os⟩ := s
  have f3 := AutoSeq1.sub_list_list
  have ne : ¬ (us.size != vs.size) = true := by simp [z1, z2]
  wp_walk using wpAny_loadPart' c1, wpAny_loadPart' c2
  exact ⟨plainId_quiet plain_eq_loop _, codeAny_builtin entry_eq_loop (by rw [Around.under_plainId plain_eq_loop _]; exact go)⟩
theorem far_ne (l b : Addr) (us vs : Array Value) (n m : Nat) (hz : (us.size != vs.size) = true) {s : Shared} (c1 : s.heap.get? l = some { cls := .type "list", data := .seq us n }) (c2 : s.heap.get? b = some { cls := .type "list", data := .seq vs m }) (h : R (.ok (.ret (.bool true))) s) :
    wpAny (model prog w) A.in1 (Builtin.«list.__ne__» ⟨[.ref l, .ref b], []⟩) (GQ.FinOf prog w A R) (fun e s' => R (.error e) s') s := by
  obtain ⟨hp, gg, d, tk, os⟩ := s
  have f3 := AutoSeq1.sub_list_list
  wp_walk using wpAny_loadPart' c1, wpAny_loadPart' c2
  exact h
end
section
variable {prog : Program} {w : World} {A : Around} {E : Value → Shared → Prop} {s : Shared}
theorem rc_list_ne {l b : Addr} {N : Nat} {Q : Value → Shared → Prop} (hu : A.units < cLine) (J Fa : Nat → Shared → Prop) (g : Goes prog w A E l b N J Fa) (fin : ∀ s, J N s → Q (.bool false) s) (brk : ∀ i s, Fa i s → Q (.bool true) s) (h : J 0 s) : wpAny (model prog w) A (richCompare .NotEq (.ref l) (.ref b)) Q E s := by
  obtain ⟨us, vs, ⟨⟨n, c1⟩, ⟨m, c2⟩, _, _⟩, _⟩ := g.turn _ _ h
  refine wpAny_richCompare_same_room (op := .NotEq) ⟨_, c1, rfl⟩ ⟨_, c2, rfl⟩ PySem.F.slot_list_ne (GQ.call_here PySem.F.slot_list_ne ⟨_, c1, rfl⟩ PySem.F.entry_list_ne (PySem.F.args_list_ne_2 _ _) ?_) hu
  exact list_ne (R := wants (fun v s' => v ≠ .notImplemented ∧ Q v s') E) l b N J Fa g (fun s' q => ⟨(fun x => nomatch x), fin s' q⟩) (fun i s' q => ⟨(fun x => nomatch x), brk i s' q⟩) h
theorem rc_far_ne {l b : Addr} {us vs : Array Value} {n m : Nat} {Q : Value → Shared → Prop} (hu : A.units < cLine) (hz : (us.size != vs.size) = true) (c1 : s.heap.get? l = some { cls := .type "list", data := .seq us n }) (c2 : s.heap.get? b = some { cls := .type "list", data := .seq vs m }) (h : Q (.bool true) s) : wpAny (model prog w) A (richCompare .NotEq (.ref l) (.ref b)) Q E s := by
  refine wpAny_richCompare_same_room (op := .NotEq) ⟨_, c1, rfl⟩ ⟨_, c2, rfl⟩ PySem.F.slot_list_ne (GQ.call_here PySem.F.slot_list_ne ⟨_, c1, rfl⟩ PySem.F.entry_list_ne (PySem.F.args_list_ne_2 _ _) ?_) hu
  exact far_ne (R := wants (fun v s' => v ≠ .notImplemented ∧ Q v s') E) l b us vs n m hz c1 c2 ⟨(fun x => nomatch x), h⟩
end
end JsQ
namespace L2
open PySem PySem.Spec PyProof.Rows
section
variable {X : Cx} {n m : Nat} {D D' : Tells}
def MonT (D : Tells) : Prop := ∀ x y r H H', Same H H' → D x y r H → D x y r H'
theorem EqT.mono (h : EqT X n D) (hn : n ≤ m) : EqT X m D := fun A pins s σ H x y u v r sb => h A pins s σ H x y u v r (sb.mono hn)
def TFlat : Tells := fun x y r _ => flatV x = true ∧ flatV y = true ∧ eqV x y = r
theorem eqT_flat : EqT X 0 TFlat := by
  intro A pins s σ H x y u v r sb I rx ry d
  obtain ⟨fx, fy, e⟩ := d
  have q := eqAt_V (A := A) (s := s) rx ry fx fy
  rw [e] at q
  exact q X.prog X.w X.xe _ ⟨rfl, H, I, Same.refl H⟩
def PrsT (D : Tells) (xs ys : List V) (bs : List Bool) (H : Hp) : Prop := bs.length = min xs.length ys.length ∧ ∀ (i : Nat) x y b, xs[i]? = some x → ys[i]? = some y → bs[i]? = some b → (bs.take i).all id = true → D x y b H
def tells (xs ys : List V) (bs : List Bool) : Bool := decide (xs.length = ys.length) && bs.all id
def TList (D : Tells) : Tells := fun x y r H => ∃ a b xs ys bs, x = .ref a ∧ y = .ref b ∧ H a = some (.lst xs) ∧ H b = some (.lst ys) ∧ PrsT D xs ys bs H ∧ r = tells xs ys bs
def JT (X : Cx) (pins : List (Addr × Obj)) (σ : St) (H : Hp) (bs : List Bool) (i : Nat) (s' : Shared) : Prop := (∃ H', Inv X pins σ H' s' ∧ Same H H') ∧ (bs.take i).all id = true
def FT (X : Cx) (pins : List (Addr × Obj)) (σ : St) (H : Hp) (bs : List Bool) (i : Nat) (s' : Shared) : Prop := (∃ H', Inv X pins σ H' s' ∧ Same H H') ∧ bs.all id = false
theorem turnT (hD : MonT D) (h : EqT X n D) {A : Around} (sb : Sub X (n + 1) A) {pins : List (Addr × Obj)} {σ : St} {H : Hp} {xs ys : List V} {bs : List Bool} {us vs : List Value} (p : PrsT D xs ys bs H) (r : Vals xs us) (r2 : Vals ys vs)
    (i : Nat) (h1 : i < us.toArray.size) (h2 : i < vs.toArray.size) (s' : Shared) (l : JT X pins σ H bs i s') :
    wpAny (model X.prog X.w) A.in1 (eqBool us.toArray[i] vs.toArray[i]) (fun r s2 => if r = true then JT X pins σ H bs (i + 1) s2 else FT X pins σ H bs i s2) X.xe s' := by
  obtain ⟨⟨H1, I1, e1⟩, al⟩ := l
  have l1 : i < us.length := by simpa using h1
  have l2 : i < vs.length := by simpa using h2
  have g1 : us[i]? = some us.toArray[i] := by rw [List.getElem?_eq_getElem l1] <;> simp
  have g2 : vs[i]? = some vs.toArray[i] := by rw [List.getElem?_eq_getElem l2] <;> simp
  have k1 : i < xs.length := by rw [r.length]; exact l1
  have k2 : i < ys.length := by rw [r2.length]; exact l2
  have k3 : i < bs.length := by have := p.1; omega
  obtain ⟨u, hu, ru⟩ := r.get (List.getElem?_eq_getElem k1)
  obtain ⟨v, hv, rv⟩ := r2.get (List.getElem?_eq_getElem k2)
  rw [g1] at hu
  rw [g2] at hv
  rw [Option.some.inj hu, Option.some.inj hv]
  refine wpAny_mono (h A.in1 pins s' σ H1 _ _ u v _ sb.in1 I1 ru rv (hD _ _ _ _ _ e1 (p.2 i _ _ _ (List.getElem?_eq_getElem k1) (List.getElem?_eq_getElem k2) (List.getElem?_eq_getElem k3) al))) (fun q s2 z => ?_) fun _ _ x => x
  obtain ⟨rfl, H2, I2, e2⟩ := z
  cases hb : bs[i] with
  | true =>
    rw [if_pos rfl]
    refine ⟨⟨H2, I2, e1.trans e2⟩, ?_⟩
    rw [List.take_succ_eq_append_getElem k3, List.all_append, al, hb]
    rfl
  | false =>
    rw [if_neg Bool.false_ne_true]
    refine ⟨⟨H2, I2, e1.trans e2⟩, ?_⟩
    rw [List.all_eq_false]
    exact ⟨bs[i], List.getElem_mem k3, by rw [hb]; decide⟩
def RcT (X : Cx) (op : CmpOp) (f : Bool → Bool) (n : Nat) (D : Tells) : Prop :=
  ∀ (A : Around) (pins : List (Addr × Obj)) (s : Shared) (σ : St) (H : Hp) (x y : V) (u v : Value) (r : Bool), Sub X n A → Inv X pins σ H s → RelV x u → RelV y v → D x y r H →
    wpAny (model X.prog X.w) A (richCompare op u v) (fun z s' => z = .bool (f r) ∧ ∃ H', Inv X pins σ H' s' ∧ Same H H') X.xe s
theorem rcT_list_ne (hD : MonT D) (h : EqT X n D) : RcT X .NotEq not (n + 1) (TList D) := by
  intro A pins s σ H x y u v r sb I rx ry d
  obtain ⟨a, b, xs, ys, bs, rfl, rfl, ha, hb, p, rfl⟩ := d
  cases rx
  cases ry
  by_cases hl : xs.length = ys.length
  · have el : bs.length = xs.length := by have := p.1; omega
    refine JsQ.rc_list_ne (N := xs.length) sb.room.units0 (JT X pins σ H bs) (FT X pins σ H bs) ⟨fun i s' q => ?_, fun i s' q => ?_⟩ (fun s' q => ⟨?_, q.1⟩) (fun i s' q => ⟨?_, q.1⟩) ⟨⟨H, I, Same.refl H⟩, by simp⟩
    · obtain ⟨H1, I1, e1⟩ := q.1
      obtain ⟨z, us, k, r1, e⟩ := I1.hok a _ (e1 _ _ ha)
      obtain ⟨z2, vs, k2, r2, e2⟩ := I1.hok b _ (e1 _ _ hb)
      exact ⟨us.toArray, vs.toArray, ⟨⟨k, e⟩, ⟨k2, e2⟩, by rw [List.size_toArray, ← r1.length], by rw [List.size_toArray, ← r2.length, ← hl]⟩, fun h1 h2 => turnT hD h sb p r1 r2 i h1 h2 s' q⟩
    · obtain ⟨H1, I1, e1⟩ := q.1
      obtain ⟨z, us, k, r1, e⟩ := I1.hok a _ (e1 _ _ ha)
      obtain ⟨z2, vs, k2, r2, e2⟩ := I1.hok b _ (e1 _ _ hb)
      exact ⟨us.toArray, vs.toArray, ⟨k, e⟩, ⟨k2, e2⟩, by rw [List.size_toArray, ← r1.length], by rw [List.size_toArray, ← r2.length, ← hl]⟩
    · have q2 := q.2
      rw [← el, List.take_length] at q2
      rw [tells, q2, decide_eq_true hl]
      rfl
    · rw [tells, q.2, decide_eq_true hl]
      rfl
  · obtain ⟨z, us, k, r1, e⟩ := I.hok a _ ha
    obtain ⟨z2, vs, k2, r2, e2⟩ := I.hok b _ hb
    refine JsQ.rc_far_ne sb.room.units0 ?_ e e2 ⟨?_, H, I, Same.refl H⟩
    · rw [List.size_toArray, List.size_toArray, ← r1.length, ← r2.length]
      simpa using hl
    · rw [tells, decide_eq_false hl]
      rfl
def rCmpT (D : Tells) (f : Bool → Bool) : R2 := fun x y H Q => ∃ r, D x y r H ∧ ∀ H', Same H H' → Q (.bl (f r)) H'
theorem op_neTl (h : RcT X .NotEq not n D) (hr : Room n X.A) : OpR X (compareOp .NotEq) (rCmpT D not) := by
  intro pins s σ H x y v u Q I rx ry hq
  obtain ⟨r, d, q⟩ := hq
  show wpAny (model X.prog X.w) X.A (richCompare .NotEq v u) (EP X pins σ Q) X.xe s
  refine wpAny_mono (h X.A pins s σ H x y v u r ⟨hr, rfl⟩ I rx ry d) (fun z s' q1 => ?_) fun _ _ x => x
  obtain ⟨rfl, H', I', e⟩ := q1
  exact ⟨.bl _, H', I', rfl, q H' e⟩
end
end L2
set_option Elab.async false
set_option linter.all false
set_option maxRecDepth 100000
set_option maxHeartbeats 2000000
namespace Js
open PySem L2
inductive Dd where
  | told (a : Nat) (t : Tr)
  | take (s : Bool) (a b : Nat)
  | two (s : Bool) (a b c : Nat)
  | wh (a : Nat) (r : List Dd)
  | iff (a : Nat) (r o : List Dd)
def takeS : Bool → Str
  | false => "first"
  | true => "second"
def twoS : Bool → Str
  | false => "pair"
  | true => "same"
mutual
def Dd.flat : Dd → List Dd
  | .told a t => [.told a t]
  | .take s a b => [.take s a b]
  | .two s a b c => [.two s a b c]
  | .wh a r => .wh a r :: flatR r
  | .iff a r o => .iff a r o :: (flatR r ++ flatR o)
def flatR : List Dd → List Dd
  | [] => []
  | d :: r => d.flat ++ flatR r
end
def Dd.many (d : Dd) : Nat := d.flat.length
def manyR (r : List Dd) : Nat := (flatR r).length
mutual
def Dd.deep : Dd → Nat
  | .told _ _ => 0
  | .take _ _ _ => 0
  | .two _ _ _ _ => 0
  | .wh _ r => deepR r + 1
  | .iff _ r o => max (deepR r) (deepR o) + 1
def deepR : List Dd → Nat
  | [] => 0
  | d :: r => max d.deep (deepR r)
end
theorem many_nil : manyR [] = 0 := rfl
theorem many_cons (d : Dd) (r : List Dd) : manyR (d :: r) = d.many + manyR r := by
  rw [manyR, flatR, List.length_append]
  rfl
theorem many_wh (a : Nat) (r : List Dd) : (Dd.wh a r).many = manyR r + 1 := by
  rw [Dd.many, Dd.flat, List.length_cons]
  rfl
theorem many_iff (a : Nat) (r o : List Dd) : (Dd.iff a r o).many = manyR r + manyR o + 1 := by
  rw [Dd.many, Dd.flat, List.length_cons, List.length_append]
  rfl
theorem many_told (a : Nat) (t : Tr) : (Dd.told a t).many = 1 := rfl
theorem many_take (s : Bool) (a b : Nat) : (Dd.take s a b).many = 1 := rfl
theorem many_two (s : Bool) (a b c : Nat) : (Dd.two s a b c).many = 1 := rfl
theorem many_pos : ∀ d : Dd, 0 < d.many
  | .told _ _ => Nat.zero_lt_one
  | .take _ _ _ => Nat.zero_lt_one
  | .two _ _ _ _ => Nat.zero_lt_one
  | .wh a r => by rw [many_wh]; omega
  | .iff a r o => by rw [many_iff]; omega
def Dd.rows : Dd → List (List Dd)
  | .wh _ r => [r]
  | .iff _ r o => [r, o]
  | _ => []
mutual
def Dd.ends : Dd → Nat → List Nat
  | .told _ _, n => [n + 1]
  | .take _ _ _, n => [n + 1]
  | .two _ _ _ _, n => [n + 1]
  | .wh _ r, n => (n + 1 + manyR r) :: endsR r (n + 1)
  | .iff _ r o, n => (n + 1 + manyR r + manyR o) :: (endsR r (n + 1) ++ endsR o (n + 1 + manyR r))
def endsR : List Dd → Nat → List Nat
  | [], _ => []
  | d :: r, n => d.ends n ++ endsR r (n + d.many)
end
mutual
def Dd.lay : Dd → Nat → Nat → List (Dd × List Nat)
  | .told a t, f, _ => [(.told a t, [f])]
  | .take s a b, f, _ => [(.take s a b, [f])]
  | .two s a b c, f, _ => [(.two s a b c, [f])]
  | .wh a r, f, n => (.wh a r, [if r.isEmpty then n else n + 1, f]) :: layR r n (n + 1)
  | .iff a r o, f, n => (.iff a r o, [if r.isEmpty then f else n + 1, if o.isEmpty then f else n + 1 + manyR r]) :: (layR r f (n + 1) ++ layR o f (n + 1 + manyR r))
def layR : List Dd → Nat → Nat → List (Dd × List Nat)
  | [], _, _ => []
  | d :: r, f, n => d.lay (if r.isEmpty then f else n + d.many) n ++ layR r f (n + d.many)
end
mutual
theorem ends_len : ∀ (d : Dd) (n : Nat), (d.ends n).length = d.many
  | .told _ _, _ => rfl
  | .take _ _ _, _ => rfl
  | .two _ _ _ _, _ => rfl
  | .wh a r, n => by rw [Dd.ends, List.length_cons, endsR_len r, many_wh]
  | .iff a r o, n => by rw [Dd.ends, List.length_cons, List.length_append, endsR_len r, endsR_len o, many_iff]
theorem endsR_len : ∀ (r : List Dd) (n : Nat), (endsR r n).length = manyR r
  | [], _ => rfl
  | d :: r, n => by rw [endsR, List.length_append, ends_len d, endsR_len r, many_cons]
end
mutual
theorem lay_len : ∀ (d : Dd) (f n : Nat), (d.lay f n).length = d.many
  | .told _ _, _, _ => rfl
  | .take _ _ _, _, _ => rfl
  | .two _ _ _ _, _, _ => rfl
  | .wh a r, f, n => by rw [Dd.lay, List.length_cons, layR_len r, many_wh]
  | .iff a r o, f, n => by rw [Dd.lay, List.length_cons, List.length_append, layR_len r, layR_len o, many_iff]
theorem layR_len : ∀ (r : List Dd) (f n : Nat), (layR r f n).length = manyR r
  | [], _, _ => rfl
  | d :: r, f, n => by rw [layR, List.length_append, lay_len d, layR_len r, many_cons]
end
mutual
def DAt (K : PySem.W.Frag) (C : Addr) (H : Hp) : V → Dd → Prop
  | v, .told a t => ∃ p x, v = .ref p ∧ SqT K H p [.str "told", .int (a : Nat), .ref x] ∧ a < 10 ∧ Th C H x t ∧ t.size ≤ 4000
  | v, .take s a b => ∃ p, v = .ref p ∧ SqT K H p [.str (takeS s), .int (a : Nat), .int (b : Nat)] ∧ a < 10 ∧ b < 10
  | v, .two s a b c => ∃ p, v = .ref p ∧ SqT K H p [.str (twoS s), .int (a : Nat), .int (b : Nat), .int (c : Nat)] ∧ a < 10 ∧ b < 10 ∧ c < 10
  | v, .wh a r => ∃ p q vs, v = .ref p ∧ SqT K H p [.str "while", .int (a : Nat), .ref q] ∧ a < 10 ∧ SqT K H q vs ∧ DsAt K C H vs r
  | v, .iff a r o => ∃ p q vs q2 vs2, v = .ref p ∧ SqT K H p [.str "if", .int (a : Nat), .ref q, .ref q2] ∧ a < 10 ∧ SqT K H q vs ∧ DsAt K C H vs r ∧ SqT K H q2 vs2 ∧ DsAt K C H vs2 o
def DsAt (K : PySem.W.Frag) (C : Addr) (H : Hp) : List V → List Dd → Prop
  | vs, [] => vs = []
  | vs, d :: r => ∃ v us, vs = v :: us ∧ DAt K C H v d ∧ DsAt K C H us r
end
def RAt (K : PySem.W.Frag) (C : Addr) (H : Hp) (q : Addr) (r : List Dd) : Prop := ∃ vs, SqT K H q vs ∧ DsAt K C H vs r
theorem sqt_kt {K : PySem.W.Frag} {H H' : Hp} (k : KT H H') {a : Addr} {xs : List V} (h : SqT K H a xs) : SqT K H' a xs :=
  h.elim (fun h => .inl (h.elim (fun h => .inl (k _ _ h (fun _ e => nomatch e))) fun ⟨o, h⟩ => .inr ⟨o, k _ _ h (fun _ e => nomatch e)⟩)) fun h => .inr h
mutual
theorem DAt_kt {K : PySem.W.Frag} {C : Addr} {H H' : Hp} (k : KT H H') : ∀ (d : Dd) (v : V), DAt K C H v d → DAt K C H' v d
  | .told a t, v, h => by
    obtain ⟨p, x, e, h1, h2, h3, h4⟩ := h
    exact ⟨p, x, e, sqt_kt k h1, h2, h3.kt k, h4⟩
  | .take s a b, v, h => by
    obtain ⟨p, e, h1, h2⟩ := h
    exact ⟨p, e, sqt_kt k h1, h2⟩
  | .two s a b c, v, h => by
    obtain ⟨p, e, h1, h2⟩ := h
    exact ⟨p, e, sqt_kt k h1, h2⟩
  | .wh a r, v, h => by
    obtain ⟨p, q, vs, e, h1, h2, h3, h4⟩ := h
    exact ⟨p, q, vs, e, sqt_kt k h1, h2, sqt_kt k h3, DsAt_kt k r vs h4⟩
  | .iff a r o, v, h => by
    obtain ⟨p, q, vs, q2, vs2, e, h1, h2, h3, h4, h5, h6⟩ := h
    exact ⟨p, q, vs, q2, vs2, e, sqt_kt k h1, h2, sqt_kt k h3, DsAt_kt k r vs h4, sqt_kt k h5, DsAt_kt k o vs2 h6⟩
theorem DsAt_kt {K : PySem.W.Frag} {C : Addr} {H H' : Hp} (k : KT H H') : ∀ (r : List Dd) (vs : List V), DsAt K C H vs r → DsAt K C H' vs r
  | [], vs, h => h
  | d :: r, vs, h => by
    obtain ⟨v, us, e, h1, h2⟩ := h
    exact ⟨v, us, e, DAt_kt k d v h1, DsAt_kt k r us h2⟩
end
theorem RAt.kt {K : PySem.W.Frag} {C : Addr} {H H' : Hp} (k : KT H H') {q : Addr} {r : List Dd} (h : RAt K C H q r) : RAt K C H' q r := by
  obtain ⟨vs, h1, h2⟩ := h
  exact ⟨vs, sqt_kt k h1, DsAt_kt k r vs h2⟩
theorem RAt.same {K : PySem.W.Frag} {C : Addr} {H H' : Hp} (s : Same H H') {q : Addr} {r : List Dd} (h : RAt K C H q r) : RAt K C H' q r := h.kt (KT.of s)
theorem DsAt.length {K : PySem.W.Frag} {C : Addr} {H : Hp} : ∀ (r : List Dd) (vs : List V), DsAt K C H vs r → vs.length = r.length
  | [], vs, h => by
    have e : vs = [] := h
    rw [e]
    rfl
  | d :: r, vs, h => by
    obtain ⟨v, us, e, h1, h2⟩ := h
    rw [e, List.length_cons, List.length_cons, DsAt.length r us h2]
theorem DsAt.get {K : PySem.W.Frag} {C : Addr} {H : Hp} : ∀ (r : List Dd) (vs : List V) (i : Nat) (v : V), DsAt K C H vs r → vs[i]? = some v → ∃ d, r[i]? = some d ∧ DAt K C H v d
  | [], vs, i, v, h, e => by
    have e' : vs = [] := h
    rw [e'] at e
    cases e
  | d :: r, vs, i, v, h, e => by
    obtain ⟨w, us, e', h1, h2⟩ := h
    rw [e'] at e
    cases i with
    | zero =>
      cases Option.some.inj e
      exact ⟨d, rfl, h1⟩
    | succ i =>
      obtain ⟨d', g1, g2⟩ := DsAt.get r us i v h2 e
      exact ⟨d', g1, g2⟩
theorem sqt_ty {K : PySem.W.Frag} {H : Hp} {a : Addr} {xs : List V} (h : SqT K H a xs) : TyX K H (.ref a) (.type "tuple") := by
  rcases h with (h | ⟨o, h⟩) | ⟨o, its, n, h, c, _⟩
  · exact .base (.tup h)
  · exact .fTuple h
  · exact .kTuple h c
end Js
set_option Elab.async false
set_option linter.all false
set_option maxRecDepth 100000
set_option maxHeartbeats 2000000
namespace JsZ
open PySem PySem.Spec PyProof.Rows L2
abbrev zs1 (h : Heap) (l : Addr) : Heap := h.push { cls := .type "tuple_iterator", data := .fields #[.ref l, .int 0 0] }
abbrev zs2 (h : Heap) (l : Addr) (x : Str) (t : Tok) : Heap := (zs1 h l).push { cls := .type (strIterType x), data := .fields #[.str x t, .int 0 0] }
abbrev zs3 (h : Heap) (l : Addr) (x : Str) (t : Tok) : Heap := (zs2 h l x t).push { cls := .type "tuple", data := .seq #[.ref h.objs.size, .ref (zs1 h l).objs.size] }
abbrev zs4 (h : Heap) (l : Addr) (x : Str) (t : Tok) : Heap := (zs3 h l x t).push { cls := .type "tuple", data := .seq #[.none, .none] }
abbrev zs5 (h : Heap) (l : Addr) (x : Str) (t : Tok) : Heap := (zs4 h l x t).push { cls := .type "zip", data := .fields #[.none, .bool false, .bool false, .ref (zs2 h l x t).objs.size, .ref (zs3 h l x t).objs.size] }
theorem new_zipTS (l : Addr) (x : Str) (t : Tok) (us : Array Value) :
    Meets (Builtin.«zip.__new__» ⟨[.type "zip", .ref l, .str x t], []⟩) (fun _ R s => s.heap.IsTuple l us ∧ R (.ok (.ret (.ref (zs4 s.heap l x t).objs.size))) { s with heap := zs5 s.heap l x t }) :=
  .of_wp fun prog w A R s h => by
    obtain ⟨hp, g, d, tk, os⟩ := s; obtain ⟨h1, h⟩ := h
    have hsub := sub_zip
    have hL : Heap.IsTuple (Shared.heap ⟨hp, g, d, tk, os⟩) l us := h1
    wp_walk using wpAny_pyIter_tuple hL, wpAny_pyIter_strU
    exact ⟨_, rfl, h⟩
section
variable {prog : Program} {w : World} {A : Around} {E : Value → Shared → Prop} {s : Shared}
theorem call_zipTS {l : Addr} {x : Str} {t : Tok} {us : Array Value} {Q : Value → Shared → Prop} (hl : s.heap.IsTuple l us)
    (h : ∀ h', IsZip h' (s.heap.objs.size + 4) (s.heap.objs.size + 2) (s.heap.objs.size + 3) .none → IsPair h' (s.heap.objs.size + 2) (.ref s.heap.objs.size) (.ref (s.heap.objs.size + 1)) →
      IsPair h' (s.heap.objs.size + 3) .none .none → h'.IsTupleIter s.heap.objs.size l 0 → h'.IsStrIter (s.heap.objs.size + 1) (strIterType x) x t 0 → h'.objs.size = s.heap.objs.size + 5 →
      (∀ c o, s.heap.get? c = some o → h'.get? c = some o) → Q (.ref (s.heap.objs.size + 4)) { s with heap := h' }) :
    wpAny (model prog w) A (call (.type "zip") [.ref l, .str x t]) Q E s := by
  refine callType_new F.called_zip (by decide) (F.typeCall_zip_2 _ _) (F.newCall_zip_2 _ _) (fun obj => F.args_object_init_3 obj _ _) F.entry_zip_new (new_zipTS l x t us) ⟨hl, ?_⟩
  have z1 : (zs1 s.heap l).objs.size = s.heap.objs.size + 1 := Heap.size_push ..
  have z2 : (zs2 s.heap l x t).objs.size = s.heap.objs.size + 2 := by rw [Heap.size_push, z1]
  have z3 : (zs3 s.heap l x t).objs.size = s.heap.objs.size + 3 := by rw [Heap.size_push, z2]
  have z4 : (zs4 s.heap l x t).objs.size = s.heap.objs.size + 4 := by rw [Heap.size_push, z3]
  have z5 : (zs5 s.heap l x t).objs.size = s.heap.objs.size + 5 := by rw [Heap.size_push, z4]
  have g5 : (zs5 s.heap l x t).get? (zs4 s.heap l x t).objs.size = some _ := Heap.get?_push_size _ rfl
  have g4 : (zs5 s.heap l x t).get? (zs3 s.heap l x t).objs.size = some _ := Heap.get?_push_of_some _ (Heap.get?_push_size _ rfl)
  have g3 : (zs5 s.heap l x t).get? (zs2 s.heap l x t).objs.size = some _ := Heap.get?_push_of_some _ (Heap.get?_push_of_some _ (Heap.get?_push_size _ rfl))
  have g2 : (zs5 s.heap l x t).get? (zs1 s.heap l).objs.size = some _ := Heap.get?_push_of_some _ (Heap.get?_push_of_some _ (Heap.get?_push_of_some _ (Heap.get?_push_size _ rfl)))
  have g1 : (zs5 s.heap l x t).get? s.heap.objs.size = some _ := Heap.get?_push_of_some _ (Heap.get?_push_of_some _ (Heap.get?_push_of_some _ (Heap.get?_push_of_some _ (Heap.get?_push_size _ rfl))))
  show _ ∧ _
  rw [z2, z3, z4] at g5
  rw [z1, z2] at g3
  rw [z3] at g4
  rw [z1] at g2
  rw [z4]
  exact ⟨⟨_, g5, rfl⟩, h _ g5 g3 g4 ⟨_, g1, rfl, rfl⟩ ⟨_, g2, rfl, rfl⟩ z5 fun c o q => Heap.get?_push_of_some _ (Heap.get?_push_of_some _ (Heap.get?_push_of_some _ (Heap.get?_push_of_some _ (Heap.get?_push_of_some _ q))))⟩
end
def ItTS (K : PySem.W.Frag) (a : Addr) (t : Str) : It :=
  ⟨fun i H => ∃ (xs : List V) (x : V) (c : Nat), SqT K H a xs ∧ xs[i]? = some x ∧ t.cps[i]? = some c,
    fun i H v H' => ∃ T x c, v = .ref T ∧ H T = none ∧ H' = upd H T (.tup [x, .str ⟨#[c]⟩]) ∧ (∀ xs, SqT K H a xs → xs[i]? = some x) ∧ t.cps[i]? = some c,
    fun i H => ∃ xs : List V, SqT K H a xs ∧ i ≤ xs.length ∧ i ≤ t.cps.size ∧ (i = xs.length ∨ i = t.cps.size)⟩
theorem turn_TS {P : Program} {w : World} {K : PySem.W.Frag} {elts : List Expr} {kk : Nat} {tpos : Pos} {a z TI TO i1 i2 : Addr} (t : Str) (tk : Tok) (D : ZipSep2 z TI TO i1 i2 [i1, a] [i2]) (ha : a ≠ i1) :
    Turn P w K (.Tuple elts kk tpos) (ItTS K a t) [z, TI, TO, i1, i2] z (fun i h => IsZip h z TI TO .none ∧ IsPair h TI (.ref i1) (.ref i2) ∧ (∃ x y, IsPair h TO x y) ∧ h.IsTupleIter i1 a i ∧ h.IsStrIter i2 (strIterType t) t tk i) where
  mem := by simp
  obj := fun i h st c hc => by
    obtain ⟨hz, hTI, ⟨x, y, hTO⟩, ⟨o1, e1, _, d1⟩, ⟨o2, e2, _, d2⟩⟩ := st
    have e' : c = z ∨ c = TI ∨ c = TO ∨ c = i1 ∨ c = i2 := by simpa using hc
    rcases e' with q | q | q | q | q
    · rw [q]; exact ⟨_, hz, fun v q => nomatch q⟩
    · rw [q]; exact ⟨_, hTI, fun v q => nomatch q⟩
    · rw [q]; exact ⟨_, hTO, fun v q => nomatch q⟩
    · rw [q]; exact ⟨o1, e1, fun v q => by rw [d1] at q; cases q⟩
    · rw [q]; exact ⟨o2, e2, fun v q => by rw [d2] at q; cases q⟩
  keep := fun i h h' st k => by
    obtain ⟨hz, hTI, ⟨x, y, hTO⟩, h1, ⟨o, ho, r⟩⟩ := st
    exact ⟨k z (by simp) _ hz, k TI (by simp) _ hTI, ⟨x, y, k TO (by simp) _ hTO⟩, h1.at fun o q => k i1 (by simp) o q, ⟨o, k i2 (by simp) o ho, r⟩⟩
  item := by
    intro X hP hw hK hc i pins s σ H E I hf st hg
    subst hP hw hK
    obtain ⟨hz, hTI, ⟨x0, y0, hTO⟩, h1, h2⟩ := st
    obtain ⟨xs, x, c, hqx, hx, hcx⟩ := hg
    obtain ⟨us, rv, p, _⟩ := I.tuple hqx
    obtain ⟨u, hu, ru⟩ := rv.get hx
    have hzl : z < s.heap.objs.size := Heap.lt_size hz
    have hh : X.A.in1.handled = none := I.ok.hd hc
    have li : i < us.toArray.size := by
      have := (List.getElem?_eq_some_iff.mp hu).1
      simpa using this
    have lc : i < t.cps.size := (Array.getElem?_eq_some_iff.mp hcx).1
    refine wpAny_pyNext_zipD2_item D (Draws.tuple hh i1 a ha us.toArray) (Draws.text hh i2 t tk) hz hTI hTO ⟨h1, p⟩ h2 li lc fun v1 v2 h' tk' q1 q2 z' TO' s1' s2' hT hsz hk => ?_
    obtain ⟨c', tu, hc', rfl⟩ := q2
    have ev : v1 = u := by
      have : us.toArray[i]? = some u := by simpa using hu
      exact Option.some.inj (q1.symm.trans this)
    subst ev
    cases Option.some.inj (hc'.symm.trans hcx)
    refine ⟨_, rfl, wpAny_letOwnedTupleGo_zip (s := { s with heap := h', toks := tk' }) z' fun h'' z'' sb => ?_⟩
    have hT2 : h''.get? s.heap.objs.size = some { cls := .type "tuple", data := .seq #[v1, .str ⟨#[c]⟩ tu] } := (sb.2 _ (Nat.ne_of_gt hzl)).trans hT
    have new : ObjOk X.prog X.w (upd H s.heap.objs.size (.tup [x, .str ⟨#[c]⟩])) h'' s.heap.objs.size (.tup [x, .str ⟨#[c]⟩]) := ⟨by show 2 ≤ sizeLine; decide, [v1, .str ⟨#[c]⟩ tu], .cons ru (.cons ⟨_, rfl⟩ .nil), ⟨_, hT2, rfl, _, rfl⟩⟩
    have I1 : Inv X pins σ (upd H s.heap.objs.size (.tup [x, .str ⟨#[c]⟩])) { s with heap := h'', toks := tk' } :=
      I.turnedNew (ch := [z, TI, TO, i1, i2]) (fun c o hb q => (sb.2 c (fun q' => hb (by simp [q']))).trans (hk c o (fun q' => hb (by simp [q'])) (fun q' => hb (by simp [q'])) (fun q' => hb (by simp [q'])) (fun q' => hb (by simp [q'])) q)) hf (Nat.le_refl _) new
    refine ⟨.ref s.heap.objs.size, _, I1, rfl, ⟨_, x, c, rfl, I.hok.fresh (Nat.le_refl _), rfl, fun l hl => by rw [I.tuple_inj hl hqx]; exact hx, hcx⟩, ⟨z'', ?_, ⟨v1, .str ⟨#[c]⟩ tu, ?_⟩, ?_, ?_⟩, fun b hb => ?_⟩
    · exact (sb.2 _ D.TIz).trans (hk _ _ D.TIz D.TITO D.TIi1 D.TIi2 hTI)
    · exact (sb.2 _ D.TOz).trans TO'
    · exact s1'.1.at fun o q => (sb.2 _ (Ne.symm D.zi1)).trans q
    · obtain ⟨o, ho, r⟩ := s2'
      exact ⟨o, (sb.2 _ (Ne.symm D.zi2)).trans ho, r⟩
    · have hlt : b < s.heap.objs.size := by
        have e' : b = z ∨ b = TI ∨ b = TO ∨ b = i1 ∨ b = i2 := by simpa using hb
        rcases e' with q | q | q | q | q
        · rw [q]; exact hzl
        · rw [q]; exact Heap.lt_size hTI
        · rw [q]; exact Heap.lt_size hTO
        · rw [q]; obtain ⟨_, e1, _⟩ := h1; exact Heap.lt_size e1
        · rw [q]; obtain ⟨_, e2, _⟩ := h2; exact Heap.lt_size e2
      rw [upd_ne (Nat.ne_of_lt hlt)]
      exact (hf b hb).1
  done := by
    intro X hP hw hK hc i pins s σ H E I hf st hg
    subst hP hw hK
    obtain ⟨hz, hTI, ⟨x0, y0, hTO⟩, h1, h2⟩ := st
    obtain ⟨xs, hqx, l1, l2, hend⟩ := hg
    obtain ⟨us, rv, p, _⟩ := I.tuple hqx
    have lu : us.toArray.size = xs.length := by rw [List.size_toArray, ← rv.length]
    have hh : X.A.in1.handled = none := I.ok.hd hc
    exact wpAny_pyNext_zipD2_end D (Draws.tuple hh i1 a ha us.toArray) (Draws.text hh i2 t tk) hz hTI hTO ⟨h1, p⟩ h2 (by omega) l2 (by omega) fun h' tk' hk => ⟨rfl, I.turnedL (t' := tk') (ch := [z, TI, TO, i1, i2]) (fun c o hb q =>
      hk c o (fun q' => hb (by simp [q'])) (fun q' => hb (by simp [q'])) (fun q' => hb (by simp [q'])) (fun q' => hb (by simp [q'])) q) hf⟩
  self := fun A i s Q E st h => wpAny_pyIter_zip st.1 h
end JsZ
namespace L2
open PySem PySem.Spec PyProof.Rows
def iZipTS (K : PySem.W.Frag) (ta : TA) : TI := fun σ H R => ta σ H fun vs H1 => ∃ a t xs, vs = [.ref a, .str t] ∧ SqT K H1 a xs ∧ R (JsZ.ItTS K a t) H1
theorem pi_zipTS {X : Cx} {e e2 : Expr} {ta : TA} {p pos tpos : Pos} {elts : List Expr} {kk : Nat} (hg : Gl X "zip") (hm : X.mg "zip" = none) (ha : PA X [e, e2] ta)
    (hs : starEach [e, e2] X.env = (false, eval e X.env) :: starEach [e2] X.env := by rfl) (hpl : (backTo pos (starEach [e2] X.env)).any (·.1) = false := by rfl) : PI X (.Tuple elts kk tpos) (.Call (.Name "zip" p) [e, e2] [] pos) (iZipTS X.K ta) := by
  refine ⟨fun pins s σ H R I h => ?_⟩
  refine Call_ (ld_blt I hg hm PyProof.Rows.boot_zip (PyProof.Rows.callWith_type1 (thn (ha.run pos pins s σ H _ I h) fun us s1 ⟨vs, H1, I1, r1, q1⟩ => ?_) hs hpl))
  obtain ⟨a, t, xs, ex, hqx, q⟩ := q1
  subst ex
  cases r1 with
  | cons r rr =>
    cases rr with
    | cons r' rr =>
      cases rr
      cases r
      obtain ⟨tk, rfl⟩ := r'
      have fresh5 : ∀ c, c ∈ [s1.heap.objs.size + 4, s1.heap.objs.size + 2, s1.heap.objs.size + 3, s1.heap.objs.size, s1.heap.objs.size + 1] → FpOk X pins H1 c := fun c hcm => by
        have hle : s1.heap.objs.size ≤ c := by
          simp only [List.mem_cons, List.not_mem_nil, or_false] at hcm
          omega
        exact I1.fpOk hle (I1.hok.fresh hle)
      obtain ⟨its, rv, p1, _⟩ := I1.tuple hqx
      obtain ⟨o1, ho1, _⟩ := id p1
      have la := Heap.lt_size ho1
      refine JsZ.call_zipTS p1 fun h' hz hTI hTO h1 h2 hsz hk => wpAny_pyIter_zip hz ?_
      have I2 : Inv X pins σ H1 { s1 with heap := h' } := I1.kept (t' := s1.toks) hk
      have D : ZipSep2 (s1.heap.objs.size + 4) (s1.heap.objs.size + 2) (s1.heap.objs.size + 3) s1.heap.objs.size (s1.heap.objs.size + 1) [s1.heap.objs.size, a] [s1.heap.objs.size + 1] := by
        have la2 : ∀ k, s1.heap.objs.size + k ≠ a := fun k h => absurd la (by rw [← h]; exact Nat.not_lt.mpr (Nat.le_add_right _ _))
        constructor <;> simp <;> first | omega | exact la2 _
      exact ⟨s1.heap.objs.size + 4, [s1.heap.objs.size + 4, s1.heap.objs.size + 2, s1.heap.objs.size + 3, s1.heap.objs.size, s1.heap.objs.size + 1], _, _, H1, rfl, I2, JsZ.turn_TS t tk D (Nat.ne_of_lt la), ⟨hz, hTI, ⟨_, _, hTO⟩, h1, h2⟩, fresh5, q⟩
theorem walk_zipTS {K : PySem.W.Frag} {a : Addr} {t : Str} {xs : List V} {n : Nat} (hn : n = min xs.length t.cps.size) : Walk (JsZ.ItTS K a t) n (fun H => SqT K H a xs) (fun i H v H' => ∃ T x c, v = .ref T ∧ H T = none ∧ H' = upd H T (.tup [x, .str ⟨#[c]⟩]) ∧ xs[i]? = some x ∧ t.cps[i]? = some c) :=
  ⟨fun i H hi hq => by
      have h1 : i < xs.length := by omega
      have h2 : i < t.cps.size := by omega
      exact ⟨xs, xs[i], t.cps[i], hq, List.getElem?_eq_getElem h1, Array.getElem?_eq_getElem h2⟩, fun H hq => ⟨xs, hq, by omega, by omega, by omega⟩, fun i H v H' hi hq y => by
      obtain ⟨T, x, c, e1, e2, e3, e4, e5⟩ := y
      exact ⟨T, x, c, e1, e2, e3, e4 xs hq, e5⟩⟩
end L2
set_option Elab.async false
set_option linter.all false
set_option maxRecDepth 100000
set_option maxHeartbeats 2000000
namespace Js
open PySem L2
abbrev sThing : Stmt := top 53
theorem lc_yes {te : TE} {σ : St} {H : Hp} {R : VK} {B : Hp → Prop} (h : te σ H R) : tYes σ H (fun b H3 => if b = true then te σ H3 R else B H3) := by
  show if true = true then te σ H R else B H
  rw [if_pos rfl]
  exact h
theorem paired_split {α β : Type} {F : α → β → Prop} : ∀ (n : Nat) {xs : List α} {ts : List β}, Paired F xs ts → n + 1 < xs.length →
    ∃ xp x y xq tp t u tq, xs = xp ++ x :: y :: xq ∧ ts = tp ++ t :: u :: tq ∧ xp.length = n ∧ tp.length = n ∧ Paired F xp tp ∧ F x t ∧ F y u ∧ Paired F xq tq
  | 0, _, _, .nil, h => absurd h (by simp)
  | 0, _, _, .cons _ .nil, h => absurd h (by simp)
  | 0, _, _, .cons h1 (.cons h2 r), _ => ⟨[], _, _, _, [], _, _, _, rfl, rfl, rfl, rfl, .nil, h1, h2, r⟩
  | n + 1, _, _, .nil, h => absurd h (by simp)
  | n + 1, _, _, .cons (a := a0) (b := b0) h1 r, h => by
    obtain ⟨xp, x, y, xq, tp, t, u, tq, e1, e2, l1, l2, p1, f1, f2, p2⟩ := paired_split n r (by simpa using h)
    exact ⟨_ :: xp, x, y, xq, _ :: tp, t, u, tq, by rw [e1]; rfl, by rw [e2]; rfl, by simp [l1], by simp [l2], .cons h1 p1, f1, f2, p2⟩
theorem paired_append {α β : Type} {F : α → β → Prop} : ∀ {xs xs' : List α} {ys ys' : List β}, Paired F xs ys → Paired F xs' ys' → Paired F (xs ++ xs') (ys ++ ys')
  | _, _, _, _, .nil, h => h
  | _, _, _, _, .cons h t, h' => .cons h (paired_append t h')
def tsz (ts : List Tr) : Nat := (ts.map Tr.size).sum
theorem tsz_append (a b : List Tr) : tsz (a ++ b) = tsz a + tsz b := by simp [tsz]
theorem tsz_cons (a : Tr) (b : List Tr) : tsz (a :: b) = a.size + tsz b := by simp [tsz]
def spThing (C : Addr) : Sp := fun vs H Q _ => ∃ (p : Addr) (m : Nat), vs = [.ref p, .int (m : Nat)] ∧ BagOk H p ∧ m ≤ 3000 ∧ ∀ a t H', KB p H H' → BagOk H' p → Th C H' a t → t.size = m → Q (.ref a) H'
section
variable {P : Program} {w : World} {K : PySem.W.Frag} {mg : Str → Option Value} {base : Heap} {C fI : Addr} {fdI : FuncData}
theorem scTh : FnScope ["_law_bag_here", "_law_many", "_law_some", "_law_at", "_law_k"] ["_law_bag_here", "_law_many"] (defScope sThing) := ⟨rfl, rfl, rfl, by decide +kernel, rfl, by decide +kernel, by decide +kernel⟩
theorem ok_thing {f fT : Addr} {fd fdT : FuncData} (F : Fun K "_law_thing" "_law_thing" sThing f fd) (B : Blt mg) (mk : Maker P w K mg base C fI fdI) (AT : At K mg "_law_take" sTake ["_law_bag_here", "_law_many"] fT fdT) : FnOk P w K mg base CX0 4 f fd ["_law_bag_here", "_law_many"] (spThing C) := by
  have GT : FnOk P w K mg base CX0 1 fT fdT ["_law_bag_here", "_law_many"] spTake := ok_take AT.F
  refine F.ok scTh (fun vs H Q E h => ?_) (fun cdv A outer s H vs Q E hr h => ?_)
  · obtain ⟨p, m, rfl, _⟩ := h
    rfl
  · obtain ⟨p, m, rfl, hbag, hm, k⟩ := h
    have hr1 : Room 1 _ := hr.mono (by decide)
    refine ⟨_, pss_cons (ps_setLc (i := 2) (own := [("_law_k", 4)]) (g := gName 4) (tt := tYes) rfl scTh.nd rfl rfl (sw_true rfl rfl rfl (by decide +kernel)) (pi_range1 rfl B.range (pa_cons (pe_op op_add (pv 1) pe_int) pa_nil))
        (blkOk_by (N := ["_law_bag_here", "_law_many", "_law_some", "_law_at", "_law_k"]) (sc := defScope sThing) (by decide +kernel)) (fun _ _ _ _ _ => pg_name (i := 4) scTh.nd rfl (Or.inl rfl)) (fun _ _ _ _ _ => pts_nil) (fun _ _ _ _ _ => pe_T0 mk hr rfl))
      (pss_cons (ps_while PassesOwn.never (pt_cmpR op_gt (pe_callB call_len_seq (by rfl) B.len PySem.boot_len (pa_cons (pv 2) pa_nil)) pe_int (nomark _))
        (pss_cons (ps_set (i := 3) scTh.nd rfl (Or.inl rfl) (pe_call GT hr1 rfl AT.mgf AT.F.kp AT.b .nil pass0 (pa_cons (pv 0) (pa_cons (pe_op op_sub (pe_callB call_len_seq (by rfl) B.len PySem.boot_len (pa_cons (pv 2) pa_nil)) pe_int) pa_nil))))
        (pss_one (ps_asg (pe_lst (pa_cons (pe_T2 mk hr rfl (pa_cons (pe_ix ix_list (pv 2) (pv 3) (fun _ _ => rfl)) (pa_cons (pe_ix ix_list (pv 2) (pe_op op_add (pv 3) pe_int) (fun _ _ => rfl)) pa_nil))) pa_nil)) (pg_slice (pv 2) (po_some (pv 3)) (po_some (pe_op op_add (pv 3) pe_int)))))))
      (pss_one (ps_ret (pe_ix ix_list (pv 2) pe_int (fun _ _ => rfl))))), ?_⟩
    have hsl := line4
    obtain ⟨bx, hbx⟩ := hbag.some
    refine ⟨_, rfl, _, _, rfl, rfl, _, rfl, by omega, by omega, fun D nD => lc_range (n := ((m : Int) + 1).toNat) (fun i H' => ∃ xs, Same H H' ∧ H' D = some (.lst xs) ∧ Paired (ThV C H') xs (List.replicate i .nil)) ⟨[], Same.new nD, upd_same, .nil⟩ ?_ ?_⟩
    · rintro i H1 hi ⟨xs, s1, hD, hps⟩
      refine ⟨rfl, lc_yes fun z H2 s2 _ h2 => ?_⟩
      have hlen := Paired.length hps
      rw [List.length_replicate] at hlen
      have hD2 := s2 _ _ hD
      refine ⟨xs, hD2, by omega, xs ++ [.ref z], (s1.trans s2).set nD, upd_same, ?_⟩
      have kk : KT H2 (upd H2 D (.lst (xs ++ [.ref z]))) := KT.lst hD2
      have e : List.replicate (i + 1) Tr.nil = List.replicate i .nil ++ [.nil] := List.replicate_succ'
      rw [e]
      exact paired_snoc (ths_kt kk (ths_kt (KT.of s2) hps)) ⟨z, rfl, h2.kt kk⟩
    · rintro H1 ⟨xs, s1, hD, hps⟩
      have em : ((m : Int) + 1).toNat = m + 1 := by omega
      rw [em] at hps
      have npD : p ≠ D := ne_of_none hbx nD
      refine ⟨fun mm σ H' => ∃ (xs : List V) (ts : List Tr) (x3 x4 : Option V), σ = [some (.ref p), some (.int (m : Nat)), some (.ref D), x3, x4] ∧ KB p H H' ∧ BagOk H' p ∧ H' D = some (.lst xs) ∧ Paired (ThV C H') xs ts ∧ tsz ts + ts.length = m + 1 ∧ ts ≠ [] ∧ mm = ts.length, ⟨_, xs, _, none, none, rfl, KB.of s1, hbag.same s1, hD, hps, ?_, by simp, rfl⟩, ?_⟩
      · have : ∀ n, tsz (List.replicate n .nil) = 0 := by
          intro n
          induction n with
          | zero => rfl
          | succ n ih => rw [List.replicate_succ, tsz_cons, ih]; rfl
        rw [this, List.length_replicate]
        omega
      · rintro mm σ H2 ⟨xs, ts, x3, x4, rfl, k2, hbag2, hD2, hps2, hsz, hne, rfl⟩
        have hlen := Paired.length hps2
        refine ⟨_, rfl, D, _, rfl, .inl (SqL.of hD2), _, _, rfl, rfl, _, rfl, ?_⟩
        by_cases h1 : 1 < xs.length
        · have ed : decide ((1 : Int) < ((xs.length : Nat) : Int)) = true := decide_eq_true (by omega)
          rw [ed]
          refine iteT ⟨fun σ' H3 => ∃ m', m' < ts.length ∧ _, fun σ' H3 z => z, ?_⟩
          refine ⟨_, rfl, _, rfl, D, _, rfl, .inl (SqL.of hD2), _, _, rfl, rfl, p, _, rfl, hbag2, by omega, by omega, fun d H3 k3 hbag3 hd0 hd1 => ?_⟩
          have hD3 := k3 _ _ (Ne.symm npD) hD2
          have hps3 := ths_kt (hbag2.kt k3) hps2
          obtain ⟨dn, rfl⟩ := Int.eq_ofNat_of_zero_le hd0
          obtain ⟨xp, x, y, xq, tp, t, u, tq, rfl, rfl, l1, l2, p1, f1, f2, p2⟩ := paired_split dn hps3 (by omega)
          obtain ⟨a1, rfl, g1⟩ := f1
          obtain ⟨a2, rfl, g2⟩ := f2
          simp only [tsz_append, tsz_cons, List.length_append, List.length_cons] at hsz
          have ix1 : atI (xp ++ V.ref a1 :: V.ref a2 :: xq) ((dn : Nat) : Int) = some (.ref a1) := atI_nat (by rw [List.getElem?_append_right (by omega), l1, Nat.sub_self]; rfl)
          have ix2 : atI (xp ++ V.ref a1 :: V.ref a2 :: xq) (((dn : Nat) : Int) + 1) = some (.ref a2) := by
            have e : (((dn : Nat) : Int) + 1) = ((dn + 1 : Nat) : Int) := by omega
            rw [e]
            exact atI_nat (by rw [List.getElem?_append_right (by omega), l1]; simp)
          refine ⟨_, rfl, _, rfl, D, _, _, _, rfl, rfl, SqL.of hD3, ix1, _, rfl, _, rfl, _, _, rfl, rfl, D, _, _, _, rfl, rfl, SqL.of hD3, ix2, a1, a2, t, u, rfl, g1, g2, by omega, fun z H4 s4 _ h4 => ?_⟩
          refine ⟨(by show 1 ≤ sizeLine; decide), fun q nq => ?_⟩
          have hD4 := s4 _ _ hD3
          have nqD : D ≠ q := ne_of_none hD4 nq
          have hlx : (xp ++ V.ref a1 :: V.ref a2 :: xq).length = dn + 2 + xq.length := by
            rw [List.length_append, List.length_cons, List.length_cons]
            omega
          have hD5 : (upd H4 q (.lst [.ref z])) D = some (.lst (xp ++ V.ref a1 :: V.ref a2 :: xq)) := (upd_ne nqD).trans hD4
          have hle : xq.length = tq.length := Paired.length p2
          refine ⟨_, rfl, _, rfl, _, rfl, _, rfl, _, _, rfl, rfl, _, rfl, D, q, _, _, _, _, rfl, rfl, rfl, rfl, hD5, upd_same, nqD, by omega, by omega, by rw [hlx]; omega, by rw [hlx]; show _ + 1 ≤ _; omega, ?_⟩
          have e1 : (xp ++ V.ref a1 :: V.ref a2 :: xq).take ((dn : Nat) : Int).toNat = xp := by
            rw [Int.toNat_natCast, ← l1, List.take_left]
          have e2 : (xp ++ V.ref a1 :: V.ref a2 :: xq).drop (((dn : Nat) : Int) + 1 + 1).toNat = xq := by
            have e : (((dn : Nat) : Int) + 1 + 1).toNat = xp.length + 2 := by omega
            rw [e, List.drop_append]
            simp
          have e3 : (((dn : Nat) : Int) + 2).toNat = (((dn : Nat) : Int) + 1 + 1).toNat := by omega
          rw [e1]
          try rw [e3]
          rw [e2]
          have k5 : KT H4 (upd (upd H4 q (.lst [.ref z])) D (.lst (xp ++ [.ref z] ++ xq))) := (KT.new nq).trans (KT.lst hD5)
          have k45 := (KT.of s4).trans k5
          refine ⟨(tp ++ [Tr.pr t u] ++ tq).length, ?_, xp ++ [.ref z] ++ xq, tp ++ [.pr t u] ++ tq, _, _, rfl, ?_, ?_, upd_same, paired_append (paired_append (ths_kt k45 p1) (.cons ⟨z, rfl, h4.kt k5⟩ .nil)) (ths_kt k45 p2), ?_, ?_, rfl⟩
          · simp
          · intro a o na h
            have h4' := s4 _ _ (k3 _ _ na (k2 _ _ na h))
            rw [upd_ne (ne_of_none h nD), upd_ne (ne_of_none h4' nq)]
            exact h4'
          · obtain ⟨x0, x1, pr, x3', h, r⟩ := hbag3.ex
            exact ⟨x0, x1, pr, x3', (upd_ne npD).trans ((upd_ne (ne_of_none (s4 _ _ h) nq)).trans (s4 _ _ h)), r⟩
          · simp only [tsz_append, tsz_cons, List.length_append, List.length_cons, Tr.size]
            simp [tsz]
            simp [tsz] at hsz
            omega
          · simp
        · have ed : decide ((1 : Int) < ((xs.length : Nat) : Int)) = false := decide_eq_false (by omega)
          rw [ed]
          refine iteF ?_
          cases hps2 with
          | nil => exact absurd rfl hne
          | @cons v t vs ts hv hps2 =>
            cases hps2 with
            | cons _ _ => simp at h1
            | nil =>
              obtain ⟨a, rfl, ha⟩ := hv
              refine ⟨_, rfl, D, _, _, .ref a, rfl, rfl, SqL.of hD2, rfl, k a t H2 k2 hbag2 ha ?_⟩
              simp [tsz] at hsz
              omega
end
end Js
set_option Elab.async false
set_option linter.all false
set_option maxRecDepth 100000
set_option maxHeartbeats 2000000
namespace Js
open PySem L2
abbrev sIsName : Stmt := top 26
abbrev sFits : Stmt := top 27
abbrev sHasForm : Stmt := top 28
abbrev sRowsIn : Stmt := top 30
def kindOf : Dd → Str
  | .told _ _ => "told"
  | .take s _ _ => takeS s
  | .two s _ _ _ => twoS s
  | .wh _ _ => "while"
  | .iff _ _ _ => "if"
def formOf : Dd → Str
  | .told _ _ => "nt"
  | .take _ _ _ => "nn"
  | .two _ _ _ _ => "nnn"
  | .wh _ _ => "nr"
  | .iff _ _ _ => "nrr"
def forms : List (Str × Str) := [("told", "nt"), ("first", "nn"), ("second", "nn"), ("pair", "nnn"), ("same", "nnn"), ("while", "nr"), ("if", "nrr")]
theorem form_in : ∀ d : Dd, (kindOf d, formOf d) ∈ forms
  | .told _ _ => by simp [kindOf, formOf, forms]
  | .take false _ _ => by simp [kindOf, formOf, forms, takeS]
  | .take true _ _ => by simp [kindOf, formOf, forms, takeS]
  | .two false _ _ _ => by simp [kindOf, formOf, forms, twoS]
  | .two true _ _ _ => by simp [kindOf, formOf, forms, twoS]
  | .wh _ _ => by simp [kindOf, formOf, forms]
  | .iff _ _ _ => by simp [kindOf, formOf, forms]
structure FrmC (K : PySem.W.Frag) (w : World) (mg : Str → Option Value) : Prop where
  ex : ∃ dF es n, mg "FORMS" = some (.ref dF) ∧ KDict K w dF es n ∧ ∀ kf ∈ forms, ∃ t, PySem.W.nsIn K dF kf.1 = some (some (.str kf.2 t))
  mM : ∃ t, mg "MANY_NAMES" = some (.int 10 t)
  mD : ∃ t, mg "MOST_DEEDS" = some (.int 4000 t)
  mF : ∃ t, mg "MOST_FLOORS" = some (.int 8 t)
  mb : mg "bool" = none
  mt : mg "tuple" = none
  mz : mg "zip" = none
  me : mg "enumerate" = none
  ii : PySem.W.kitOne K (.type "int") (.type "int") = some true
  ib : PySem.W.kitOne K (.type "int") (.type "bool") = some false
  tt : PySem.W.kitOne K (.type "tuple") (.type "tuple") = some true
  ss : PySem.W.kitOne K (.type "str") (.type "str") = some true
theorem all_rep (n : Nat) : (List.replicate n true).all id = true := by
  rw [List.all_eq_true]
  intro b hb
  rw [(List.mem_replicate.mp hb).2]
  rfl
def FitsV (K : PySem.W.Frag) (C : Addr) (H : Hp) (x : V) (c : Nat) : Prop := (c = 110 ∧ ∃ a : Nat, a < 10 ∧ x = .int (a : Nat)) ∨ (c = 116 ∧ ∃ a t, x = .ref a ∧ Th C H a t) ∨ (c = 114 ∧ ∃ q vs, x = .ref q ∧ SqT K H q vs)
theorem FitsV.same {K : PySem.W.Frag} {C : Addr} {H H' : Hp} (s : Same H H') {x : V} {c : Nat} (h : FitsV K C H x c) : FitsV K C H' x c := by
  rcases h with h | ⟨e, a, t, e2, h⟩ | ⟨e, q, vs, e2, h⟩
  · exact .inl h
  · exact .inr (.inl ⟨e, a, t, e2, h.same s⟩)
  · exact .inr (.inr ⟨e, q, vs, e2, sqt_kt (KT.of s) h⟩)
theorem cps_nt : ("nt" : Str).cps = #[110, 116] := by decide +kernel
theorem cps_nn : ("nn" : Str).cps = #[110, 110] := by decide +kernel
theorem cps_nnn : ("nnn" : Str).cps = #[110, 110, 110] := by decide +kernel
theorem cps_nr : ("nr" : Str).cps = #[110, 114] := by decide +kernel
theorem cps_nrr : ("nrr" : Str).cps = #[110, 114, 114] := by decide +kernel
theorem shape {K : PySem.W.Frag} {C : Addr} {H : Hp} {v : V} : ∀ (d : Dd), DAt K C H v d → ∃ p its, v = .ref p ∧ SqT K H p (.str (kindOf d) :: its) ∧ its.length = (formOf d).cps.size ∧ its ≠ [] ∧ its.length ≤ 3 ∧ ∀ (i : Nat) x c, its[i]? = some x → (formOf d).cps[i]? = some c → FitsV K C H x c
  | .told a t, h => by
    obtain ⟨p, x, e, h1, h2, h3, h4⟩ := h
    refine ⟨p, _, e, h1, by rw [formOf, cps_nt]; rfl, by simp, by simp, fun i y c g1 g2 => ?_⟩
    rw [formOf, cps_nt] at g2
    match i, g1, g2 with
    | 0, g1, g2 => cases Option.some.inj g1; cases Option.some.inj g2; exact .inl ⟨rfl, a, h2, rfl⟩
    | 1, g1, g2 => cases Option.some.inj g1; cases Option.some.inj g2; exact .inr (.inl ⟨rfl, x, t, rfl, h3⟩)
    | i + 2, g1, g2 => simp at g1
  | .take s a b, h => by
    obtain ⟨p, e, h1, h2, h3⟩ := h
    refine ⟨p, _, e, h1, by rw [formOf, cps_nn]; rfl, by simp, by simp, fun i y c g1 g2 => ?_⟩
    rw [formOf, cps_nn] at g2
    match i, g1, g2 with
    | 0, g1, g2 => cases Option.some.inj g1; cases Option.some.inj g2; exact .inl ⟨rfl, a, h2, rfl⟩
    | 1, g1, g2 => cases Option.some.inj g1; cases Option.some.inj g2; exact .inl ⟨rfl, b, h3, rfl⟩
    | i + 2, g1, g2 => simp at g1
  | .two s a b c, h => by
    obtain ⟨p, e, h1, h2, h3, h4⟩ := h
    refine ⟨p, _, e, h1, by rw [formOf, cps_nnn]; rfl, by simp, by simp, fun i y z g1 g2 => ?_⟩
    rw [formOf, cps_nnn] at g2
    match i, g1, g2 with
    | 0, g1, g2 => cases Option.some.inj g1; cases Option.some.inj g2; exact .inl ⟨rfl, a, h2, rfl⟩
    | 1, g1, g2 => cases Option.some.inj g1; cases Option.some.inj g2; exact .inl ⟨rfl, b, h3, rfl⟩
    | 2, g1, g2 => cases Option.some.inj g1; cases Option.some.inj g2; exact .inl ⟨rfl, c, h4, rfl⟩
    | i + 3, g1, g2 => simp at g1
  | .wh a r, h => by
    obtain ⟨p, q, vs, e, h1, h2, h3, h4⟩ := h
    refine ⟨p, _, e, h1, by rw [formOf, cps_nr]; rfl, by simp, by simp, fun i y c g1 g2 => ?_⟩
    rw [formOf, cps_nr] at g2
    match i, g1, g2 with
    | 0, g1, g2 => cases Option.some.inj g1; cases Option.some.inj g2; exact .inl ⟨rfl, a, h2, rfl⟩
    | 1, g1, g2 => cases Option.some.inj g1; cases Option.some.inj g2; exact .inr (.inr ⟨rfl, q, vs, rfl, h3⟩)
    | i + 2, g1, g2 => simp at g1
  | .iff a r o, h => by
    obtain ⟨p, q, vs, q2, vs2, e, h1, h2, h3, h4, h5, h6⟩ := h
    refine ⟨p, _, e, h1, by rw [formOf, cps_nrr]; rfl, by simp, by simp, fun i y c g1 g2 => ?_⟩
    rw [formOf, cps_nrr] at g2
    match i, g1, g2 with
    | 0, g1, g2 => cases Option.some.inj g1; cases Option.some.inj g2; exact .inl ⟨rfl, a, h2, rfl⟩
    | 1, g1, g2 => cases Option.some.inj g1; cases Option.some.inj g2; exact .inr (.inr ⟨rfl, q, vs, rfl, h3⟩)
    | 2, g1, g2 => cases Option.some.inj g1; cases Option.some.inj g2; exact .inr (.inr ⟨rfl, q2, vs2, rfl, h5⟩)
    | i + 3, g1, g2 => simp at g1
def RowsAt (K : PySem.W.Frag) (C : Addr) (H : Hp) (ws : List V) (rs : List (List Dd)) : Prop := Paired (fun v r => ∃ q, v = .ref q ∧ RAt K C H q r) ws rs
theorem RowsAt.kt {K : PySem.W.Frag} {C : Addr} {H H' : Hp} (k : KT H H') : ∀ {ws : List V} {rs : List (List Dd)}, RowsAt K C H ws rs → RowsAt K C H' ws rs
  | _, _, .nil => .nil
  | _, _, .cons ⟨q, e, h⟩ t => .cons ⟨q, e, h.kt k⟩ (RowsAt.kt k t)
def spIsName : Sp := fun vs H Q _ => ∃ a : Nat, vs = [.int (a : Nat)] ∧ a < 10 ∧ Q (.bl true) H
def spFits (K : PySem.W.Frag) (C : Addr) : Sp := fun vs H Q _ => ∃ x c, vs = [x, .str ⟨#[c]⟩] ∧ FitsV K C H x c ∧ Q (.bl true) H
def spHasForm (K : PySem.W.Frag) (C : Addr) : Sp := fun vs H Q _ => ∃ v d, vs = [v] ∧ DAt K C H v d ∧ ∀ H', Same H H' → Q (.bl true) H'
def spRowsIn (K : PySem.W.Frag) (C : Addr) : Sp := fun vs H Q _ => ∃ v d, vs = [v] ∧ DAt K C H v d ∧ ∀ p ws H', Same H H' → SqT K H' p ws → RowsAt K C H' ws d.rows → Q (.ref p) H'
theorem c_n : ("n" : Str) = ⟨#[110]⟩ := by decide +kernel
theorem c_t : ("t" : Str) = ⟨#[116]⟩ := by decide +kernel
theorem c_r : ("r" : Str) = ⟨#[114]⟩ := by decide +kernel
theorem sg_eq (a b : Nat) : decide (V.str ⟨#[a]⟩ = V.str ⟨#[b]⟩) = decide (a = b) := by simp
section
variable {P : Program} {w : World} {K : PySem.W.Frag} {mg : Str → Option Value} {base : Heap} {C : Addr}
theorem scIN : FnScope ["part"] ["part"] (defScope sIsName) := ⟨rfl, rfl, rfl, by decide +kernel, rfl, by decide +kernel, by decide +kernel⟩
theorem ok_isName {f : Addr} {fd : FuncData} (F : Fun K "is_name" "is_name" sIsName f fd) (B : Blt mg) (T : Txt K mg C) (G : FrmC K w mg) : FnOk P w K mg base CX0 1 f fd ["part"] spIsName := by
  obtain ⟨tm, mM⟩ := G.mM
  refine F.ok scIN (fun vs H Q E h => ?_) (fun cdv A outer s H vs Q E hr h => ?_)
  · obtain ⟨a, rfl, _⟩ := h
    rfl
  · obtain ⟨a, rfl, ha, k⟩ := h
    refine ⟨_, pss_one (ps_ret (pe_and (pe_callB (r := rIsi K) call_isi (by rfl) T.isi PyProof.Rows.boot_isinstance (pa_cons (pv 0) (pa_cons (pe_bltn (v := .ty "int") rfl B.int PyProof.Rows.boot_int rfl) pa_nil))) (pe_and (pe_not (pe_callB (r := rIsi K) call_isi (by rfl) T.isi PyProof.Rows.boot_isinstance (pa_cons (pv 0) (pa_cons (pe_bltn (v := .ty "bool") rfl G.mb PyProof.Rows.boot_bool rfl) pa_nil)))) (pe_one (pe_chain op_le op_lt pe_int (pv 0) (pe_glob (v := .int 10) rfl mM ⟨_, rfl⟩)))))), ?_⟩
    refine ⟨_, rfl, _, _, _, _, true, rfl, .ty "int", .base (.int _), G.ii, _, rfl, iteT ?_⟩
    refine ⟨_, rfl, _, _, _, _, false, rfl, .ty "bool", .base (.int _), G.ib, _, rfl, _, rfl, iteT ?_⟩
    refine ⟨_, rfl, _, _, rfl, rfl, _, rfl, ?_⟩
    rw [decide_eq_true (show (0 : Int) ≤ ((a : Nat) : Int) by omega)]
    refine iteT ?_
    refine ⟨_, _, rfl, rfl, ?_⟩
    show Q (.bl (decide (((a : Nat) : Int) < 10))) H
    rw [decide_eq_true (show ((a : Nat) : Int) < 10 by omega)]
    exact k
theorem scFt : FnScope ["part", "sign"] ["part", "sign"] (defScope sFits) := ⟨rfl, rfl, rfl, by decide +kernel, rfl, by decide +kernel, by decide +kernel⟩
theorem ok_fits {f : Addr} {fd : FuncData} (F : Fun K "fits" "fits" sFits f fd) (B : Blt mg) (T : Txt K mg C) (G : FrmC K w mg) (DI : Def P w K mg base "is_name" 1 ["part"] spIsName) : FnOk P w K mg base CX0 2 f fd ["part", "sign"] (spFits K C) := by
  refine F.ok scFt (fun vs H Q E h => ?_) (fun cdv A outer s H vs Q E hr h => ?_)
  · obtain ⟨x, c, rfl, _⟩ := h
    rfl
  · obtain ⟨x, c, rfl, hf, k⟩ := h
    refine ⟨_, pss_cons (ps_if (pt_cmpR op_eq (pv 1) pe_str (nomark _)) (pss_one (ps_ret (pe_def DI hr rfl (pa_cons (pv 0) pa_nil)))) pss_nil) (pss_cons (ps_if (pt_cmpR op_eq (pv 1) pe_str (nomark _)) (pss_one (ps_ret (pe_callB (r := rIsi K) call_isi (by rfl) T.isi PyProof.Rows.boot_isinstance (pa_cons (pv 0) (pa_cons (pe_glob (v := .ref C) rfl T.mgC rfl) pa_nil))))) pss_nil) (pss_one (ps_ret (pe_callB (r := rIsi K) call_isi (by rfl) T.isi PyProof.Rows.boot_isinstance (pa_cons (pv 0) (pa_cons (pe_bltn (v := .ty "tuple") rfl G.mt PyProof.Rows.boot_tuple rfl) pa_nil)))))), ?_⟩
    refine ⟨_, rfl, rfl, _, rfl, ?_⟩
    rw [c_n, sg_eq]
    rcases hf with ⟨rfl, a, ha, rfl⟩ | ⟨rfl, a, t, rfl, ha⟩ | ⟨rfl, q, vs, rfl, hq⟩
    · rw [decide_eq_true rfl]
      refine iteT ?_
      exact ⟨_, rfl, a, rfl, ha, k⟩
    · rw [decide_eq_false (by decide)]
      refine iteF ?_
      refine ⟨_, rfl, rfl, _, rfl, ?_⟩
      rw [c_t, sg_eq, decide_eq_true rfl]
      refine iteT ?_
      obtain ⟨dx, f1, g1, h1⟩ := ha.obj
      exact ⟨_, rfl, _, _, _, _, true, rfl, ClsV.own C, .base (.ins h1 T.cl T.ca T.cn T.ct T.cm), kit_self _ _, k⟩
    · rw [decide_eq_false (by decide)]
      refine iteF ?_
      refine ⟨_, rfl, rfl, _, rfl, ?_⟩
      rw [c_t, sg_eq, decide_eq_false (by decide)]
      refine iteF ?_
      exact ⟨_, rfl, _, _, _, _, true, rfl, .ty "tuple", sqt_ty hq, G.tt, k⟩
theorem scHF : FnScope ["deed", "kind", "form", "part", "sign"] ["deed"] (defScope sHasForm) := ⟨rfl, rfl, rfl, by decide +kernel, rfl, by decide +kernel, by decide +kernel⟩
theorem at0 (x : V) (xs : List V) : atI (x :: xs) 0 = some x := by
  have h : atI (x :: xs) ((0 : Nat) : Int) = some x := atI_nat rfl
  exact h
theorem cut1 (x : V) (its : List V) : cutV (x :: its) (some 1) none = its := by
  have e : HT.sIx (its.length + 1) 0 (some 1) = 1 := by
    show min 1 (its.length + 1) = 1
    omega
  unfold cutV
  rw [List.length_cons, e, HT.sIx_none, Nat.add_sub_cancel, List.drop_succ_cons, List.drop_zero, List.take_length]
theorem cut2 (x y : V) (its : List V) : cutV (x :: y :: its) (some 2) none = its := by
  have e : HT.sIx (its.length + 1 + 1) 0 (some 2) = 2 := by
    show min 2 (its.length + 1 + 1) = 2
    omega
  unfold cutV
  rw [List.length_cons, List.length_cons, e, HT.sIx_none, show its.length + 1 + 1 - 2 = its.length from rfl, List.drop_succ_cons, List.drop_succ_cons, List.drop_zero, List.take_length]
theorem ok_hasForm {f : Addr} {fd : FuncData} (F : Fun K "has_form" "has_form" sHasForm f fd) (B : Blt mg) (T : Txt K mg C) (G : FrmC K w mg) (DF : Def P w K mg base "fits" 2 ["part", "sign"] (spFits K C)) : FnOk P w K mg base CX0 3 f fd ["deed"] (spHasForm K C) := by
  obtain ⟨dF, es, n, mF, kd, hk⟩ := G.ex
  refine F.ok scHF (fun vs H Q E h => ?_) (fun cdv A outer s H vs Q E hr h => ?_)
  · obtain ⟨v, d, rfl, _⟩ := h
    rfl
  · obtain ⟨v, d, rfl, hd, k⟩ := h
    refine ⟨_, pss_cons (ps_if (PW.pt (pw_or (pt_not (pt_val (pe_callB (r := rIsi K) call_isi (by rfl) T.isi PyProof.Rows.boot_isinstance (pa_cons (pv 0) (pa_cons (pe_bltn (v := .ty "tuple") rfl G.mt PyProof.Rows.boot_tuple rfl) pa_nil))))) (pw_or1 (pt_cmpR op_eq (pe_callB call_len_seq (by rfl) B.len PySem.boot_len (pa_cons (pv 0) pa_nil)) pe_int (nomark _))))) (pss_one (ps_ret pe_bl)) pss_nil) (pss_cons (ps_set (i := 1) scHF.nd rfl (Or.inl rfl) (pe_ix (r := rIxT K) ix_tup (pv 0) pe_int (fun _ _ => rfl))) (pss_cons (ps_if (PW.pt (pw_or (pt_not (pt_val (pe_callB (r := rIsi K) call_isi (by rfl) T.isi PyProof.Rows.boot_isinstance (pa_cons (pv 1) (pa_cons (pe_bltn (v := .ty "str") rfl B.str PyProof.Rows.boot_str rfl) pa_nil))))) (pw_or1 (pt_cmpR (op_notIn_kd kd) (pv 1) (pe_glob (v := .ref dF) rfl mF rfl) rfl)))) (pss_one (ps_ret pe_bl)) pss_nil) (pss_cons (ps_set (i := 2) scHF.nd rfl (Or.inl rfl) (pe_ix (r := rIxD K w) ix_kdict (pe_glob (v := .ref dF) rfl mF rfl) (pv 1) (fun _ _ => rfl))) (pss_one (ps_ret (pe_and (pe_cmpR op_eq (pe_callB call_len_seq (by rfl) B.len PySem.boot_len (pa_cons (pv 0) pa_nil)) (pe_op op_add pe_int (pe_callB call_len_str (by rfl) B.len PySem.boot_len (pa_cons (pv 2) pa_nil))) (nomark _)) (pe_one (pe_callB (cr_all rfl) (by rfl) B.all (by decide +kernel) (pa_cons (pe_lc (own := [("part", 3), ("sign", 4)]) (g := gTup K 2 (gCons (gName 3) (gCons (gName 4) gNil))) (tt := tYes) rfl scHF.nd (pi_zipTS rfl G.mz (pa_cons (pe_slice sl_tup (pv 0) (po_some pe_int) po_none) (pa_cons (pv 2) pa_nil))) (blkOk_by (N := ["deed", "kind", "form", "part", "sign"]) (sc := defScope sHasForm) (by decide +kernel)) (fun _ _ _ _ _ => by exact (pg_tup rfl (pgs_cons (pg_name (i := 3) scHF.nd rfl (Or.inl rfl)) (pgs_cons (pg_name (i := 4) scHF.nd rfl (Or.inl rfl)) pgs_nil)))) (fun _ _ _ _ _ => pts_nil) (fun _ _ _ _ _ => (pe_def DF hr rfl (pa_cons (pv 3) (pa_cons (pv 4) pa_nil))))) pa_nil))))))))), ?_⟩
    obtain ⟨p, its, rfl, hp, hl, hne, hl3, hall⟩ := shape d hd
    obtain ⟨tk, hk⟩ := hk _ (form_in d)
    have hsl := line4
    refine ⟨_, rfl, _, _, _, _, true, rfl, .ty "tuple", sqt_ty hp, G.tt, _, rfl, iteF ?_⟩
    refine ⟨_, rfl, p, _, rfl, .inr hp, rfl, _, rfl, ?_⟩
    have e0 : decide (V.int ((((V.str (kindOf d)) :: its).length : Nat) : Int) = V.int 0) = false := by
      rw [List.length_cons]
      simp only [decide_eq_false_iff_not, V.int.injEq]
      omega
    rw [e0]
    refine iteF ?_
    refine ⟨_, rfl, p, _, 0, _, rfl, rfl, hp, at0 _ _, ?_⟩
    refine ⟨_, rfl, _, _, _, _, true, rfl, .ty "str", .base (.str _), G.ss, _, rfl, iteF ?_⟩
    refine ⟨_, rfl, _, _, rfl, rfl, hk, _, rfl, iteF ?_⟩
    refine ⟨_, rfl, dF, _, .str (formOf d), rfl, rfl, ⟨es, n, _, kd.at_, kd.lit, hk, ⟨_, rfl⟩⟩, ?_⟩
    refine ⟨_, rfl, p, _, rfl, .inr hp, ?_⟩
    have fl : (formOf d).length = its.length := hl.symm
    refine ⟨_, rfl, formOf d, rfl, by omega, _, _, rfl, rfl, rfl, _, rfl, ?_⟩
    have e1 : decide (V.int ((((V.str (kindOf d)) :: its).length : Nat) : Int) = V.int (1 + (((formOf d).length : Nat) : Int))) = true := by
      rw [List.length_cons, fl]
      simp only [decide_eq_true_eq, V.int.injEq]
      omega
    rw [e1]
    refine iteT ?_
    refine ⟨_, rfl, _, rfl, p, _, rfl, hp, ?_, fun q nq => ?_⟩
    · rintro ⟨h0, _⟩
      have e : HT.sIx (its.length + 1) 0 (some 1) = 1 := by
        show min 1 (its.length + 1) = 1
        omega
      rw [List.length_cons, e] at h0
      cases h0
    rw [cut1]
    have sq := Same.new nq (o := .tup its)
    refine ⟨_, rfl, q, _, its, rfl, SqT.of upd_same, fun D nD => lc_it (n := its.length) (walk_zipTS (K := K) (a := q) (t := formOf d) (xs := its) (by rw [← hl, Nat.min_self])) (fun i H' => Same (upd H q (.tup its)) H' ∧ SqT K H' q its ∧ H' D = some (.lst (List.replicate i (.bl true)))) ⟨Same.new nD, SqT.of (Same.new nD _ _ upd_same), upd_same⟩ (fun i H' _ z => z.2.1) ?_ ?_⟩
    · rintro i y H1 H2 hi ⟨s1, hq1, hD1⟩ ⟨T, x, c, rfl, nT, rfl, hx, hc⟩
      have sT := Same.new nT (o := .tup [x, .str ⟨#[c]⟩])
      refine ⟨T, _, rfl, SqT.of upd_same, rfl, _, _, rfl, _, _, rfl, rfl, rfl, lc_yes ?_⟩
      refine ⟨_, rfl, _, rfl, x, c, rfl, (hall i x c hx hc).same ((sq.trans s1).trans sT), ?_⟩
      refine ⟨_, sT _ _ hD1, by rw [List.length_replicate]; omega, (s1.trans sT).set nD, ?_, ?_⟩
      · have nDq : q ≠ D := fun z => by
          rw [← z, upd_same] at nD
          cases nD
        exact sqt_kt (KT.lst (sT _ _ hD1)) (sqt_kt (KT.of sT) hq1)
      · rw [upd_same, List.replicate_succ']
    · rintro H1 ⟨s1, hq1, hD1⟩
      refine ⟨D, List.replicate its.length true, rfl, SqL.of ?_, ?_⟩
      · rw [hD1, List.map_replicate]
      · have ea : ((List.replicate its.length true).all id) = true := all_rep _
        rw [ea]
        exact k H1 (sq.trans s1)
theorem scRI : FnScope ["deed"] ["deed"] (defScope sRowsIn) := ⟨rfl, rfl, rfl, by decide +kernel, rfl, by decide +kernel, by decide +kernel⟩
theorem rows_look {K : PySem.W.Frag} {C : Addr} {H : Hp} {v : V} : ∀ (d : Dd), DAt K C H v d → ∃ p y its, v = .ref p ∧ SqT K H p (.str (kindOf d) :: y :: its) ∧ ((decide (114 ∈ (formOf d).cps.toList) = true ∧ RowsAt K C H its d.rows) ∨ (decide (114 ∈ (formOf d).cps.toList) = false ∧ d.rows = []))
  | .told a t, h => by
    obtain ⟨p, x, e, h1, h2, h3, h4⟩ := h
    exact ⟨p, _, _, e, h1, .inr ⟨by rw [formOf, cps_nt]; decide, rfl⟩⟩
  | .take s a b, h => by
    obtain ⟨p, e, h1, h2, h3⟩ := h
    exact ⟨p, _, _, e, h1, .inr ⟨by rw [formOf, cps_nn]; decide, rfl⟩⟩
  | .two s a b c, h => by
    obtain ⟨p, e, h1, h2, h3, h4⟩ := h
    exact ⟨p, _, _, e, h1, .inr ⟨by rw [formOf, cps_nnn]; decide, rfl⟩⟩
  | .wh a r, h => by
    obtain ⟨p, q, vs, e, h1, h2, h3, h4⟩ := h
    exact ⟨p, _, _, e, h1, .inl ⟨by rw [formOf, cps_nr]; decide, .cons ⟨q, rfl, vs, h3, h4⟩ .nil⟩⟩
  | .iff a r o, h => by
    obtain ⟨p, q, vs, q2, vs2, e, h1, h2, h3, h4, h5, h6⟩ := h
    exact ⟨p, _, _, e, h1, .inl ⟨by rw [formOf, cps_nrr]; decide, .cons ⟨q, rfl, vs, h3, h4⟩ (.cons ⟨q2, rfl, vs2, h5, h6⟩ .nil)⟩⟩
theorem ok_rowsIn {f : Addr} {fd : FuncData} (F : Fun K "rows_in" "rows_in" sRowsIn f fd) (G : FrmC K w mg) : FnOk P w K mg base CX0 1 f fd ["deed"] (spRowsIn K C) := by
  obtain ⟨dF, es, n, mF, kd, hk⟩ := G.ex
  refine F.ok scRI (fun vs H Q E h => ?_) (fun cdv A outer s H vs Q E hr h => ?_)
  · obtain ⟨v, d, rfl, _⟩ := h
    rfl
  · obtain ⟨v, d, rfl, hd, k⟩ := h
    refine ⟨_, pss_one (ps_ret (pe_ifExp (pt_cmpR op_in_sign pe_str (pe_ix (r := rIxD K w) ix_kdict (pe_glob (v := .ref dF) rfl mF rfl) (pe_ix (r := rIxT K) ix_tup (pv 0) pe_int (fun _ _ => rfl)) (fun _ _ => rfl)) rfl) (pe_slice sl_tup (pv 0) (po_some pe_int) po_none) (pe_tup pa_nil))), ?_⟩
    obtain ⟨p, y, its, rfl, hp, hrs⟩ := rows_look d hd
    obtain ⟨tk, hk⟩ := hk _ (form_in d)
    have hsl := line4
    refine ⟨_, rfl, p, _, 0, _, rfl, rfl, hp, at0 _ _, dF, _, .str (formOf d), rfl, rfl, ⟨es, n, _, kd.at_, kd.lit, hk, ⟨_, rfl⟩⟩, 114, formOf d, congrArg V.str c_r, rfl, _, rfl, ?_⟩
    rcases hrs with ⟨e, hrs⟩ | ⟨e, hrs⟩
    · rw [e]
      refine iteT ?_
      refine ⟨_, rfl, _, rfl, p, _, rfl, hp, ?_, fun q nq => ?_⟩
      · rintro ⟨h0, _⟩
        have e : HT.sIx (its.length + 1 + 1) 0 (some 2) = 2 := by
          show min 2 (its.length + 1 + 1) = 2
          omega
        rw [List.length_cons, List.length_cons, e] at h0
        cases h0
      rw [cut2]
      exact k q its _ (Same.new nq) (SqT.of upd_same) (hrs.kt (KT.of (Same.new nq)))
    · rw [e]
      refine iteF ?_
      refine ⟨Nat.zero_le _, fun q nq => ?_⟩
      exact k q [] _ (Same.new nq) (SqT.of upd_same) (by rw [hrs]; exact .nil)
end
end Js
set_option Elab.async false
set_option linter.all false
set_option maxRecDepth 100000
set_option maxHeartbeats 2000000
namespace Js
open PySem L2
abbrev sLook : Stmt := top 31
def manyL : List (List Dd) → Nat
  | [] => 0
  | r :: rs => manyR r + manyL rs
def endsL : List (List Dd) → Nat → List Nat
  | [], _ => []
  | r :: rs, n => endsR r n ++ endsL rs (n + manyR r)
def deepL : List (List Dd) → Nat
  | [] => 0
  | r :: rs => max (deepR r) (deepL rs)
theorem many_rows : ∀ d : Dd, d.many = manyL d.rows + 1
  | .told _ _ => rfl
  | .take _ _ _ => rfl
  | .two _ _ _ _ => rfl
  | .wh a r => by rw [many_wh, Dd.rows, manyL, manyL, Nat.add_zero]
  | .iff a r o => by rw [many_iff]; simp only [Dd.rows, manyL]; omega
theorem ends_rows : ∀ (d : Dd) (n : Nat), d.ends n = (n + d.many) :: endsL d.rows (n + 1)
  | .told _ _, _ => rfl
  | .take _ _ _, _ => rfl
  | .two _ _ _ _, _ => rfl
  | .wh a r, n => by
    rw [Dd.ends, many_wh, Dd.rows, endsL, endsL, List.append_nil, Nat.add_assoc n, Nat.add_comm 1]
  | .iff a r o, n => by
    rw [Dd.ends, many_iff, Dd.rows, endsL, endsL, endsL, List.append_nil]
    congr 1
    omega
theorem deep_rows : ∀ (d : Dd), d.rows ≠ [] → d.deep = deepL d.rows + 1
  | .told _ _, h => absurd rfl h
  | .take _ _ _, h => absurd rfl h
  | .two _ _ _ _, h => absurd rfl h
  | .wh a r, _ => by rw [Dd.deep, Dd.rows, deepL, deepL, Nat.max_eq_left (Nat.zero_le _)]
  | .iff a r o, _ => by rw [Dd.deep, Dd.rows, deepL, deepL, deepL, Nat.max_eq_left (Nat.zero_le _)]
theorem endsL_len : ∀ (rs : List (List Dd)) (n : Nat), (endsL rs n).length = manyL rs
  | [], _ => rfl
  | r :: rs, n => by rw [endsL, List.length_append, endsR_len, endsL_len rs, manyL]
theorem manyR_app : ∀ (a b : List Dd), manyR (a ++ b) = manyR a + manyR b
  | [], b => by rw [List.nil_append, many_nil, Nat.zero_add]
  | d :: a, b => by rw [List.cons_append, many_cons, many_cons, manyR_app a b]; omega
theorem endsR_app : ∀ (a b : List Dd) (n : Nat), endsR (a ++ b) n = endsR a n ++ endsR b (n + manyR a)
  | [], b, n => by rw [List.nil_append, many_nil, endsR, List.nil_append, Nat.add_zero]
  | d :: a, b, n => by rw [List.cons_append, endsR, endsR_app a b, endsR, many_cons, List.append_assoc, Nat.add_assoc]
theorem manyL_app : ∀ (a b : List (List Dd)), manyL (a ++ b) = manyL a + manyL b
  | [], b => by rw [List.nil_append, manyL, Nat.zero_add]
  | r :: a, b => by rw [List.cons_append, manyL, manyL, manyL_app a b]; omega
theorem endsL_app : ∀ (a b : List (List Dd)) (n : Nat), endsL (a ++ b) n = endsL a n ++ endsL b (n + manyL a)
  | [], b, n => by rw [List.nil_append, manyL, endsL, List.nil_append, Nat.add_zero]
  | r :: a, b, n => by rw [List.cons_append, endsL, endsL_app a b, endsL, manyL, List.append_assoc, Nat.add_assoc]
theorem manyR_one (d : Dd) : manyR [d] = d.many := by rw [many_cons, many_nil, Nat.add_zero]
theorem endsR_one (d : Dd) (n : Nat) : endsR [d] n = d.ends n := by rw [endsR, endsR, List.append_nil]
theorem manyL_one (r : List Dd) : manyL [r] = manyR r := by rw [manyL, manyL, Nat.add_zero]
theorem endsL_one (r : List Dd) (n : Nat) : endsL [r] n = endsR r n := by rw [endsL, endsL, List.append_nil]
theorem deepR_mem : ∀ (r : List Dd) (d : Dd), d ∈ r → d.deep ≤ deepR r
  | e :: r, d, h => by
    rw [deepR]
    rcases List.mem_cons.mp h with rfl | h
    · exact Nat.le_max_left _ _
    · exact Nat.le_trans (deepR_mem r d h) (Nat.le_max_right _ _)
theorem deepL_mem : ∀ (rs : List (List Dd)) (r : List Dd), r ∈ rs → deepR r ≤ deepL rs
  | e :: rs, r, h => by
    rw [deepL]
    rcases List.mem_cons.mp h with rfl | h
    · exact Nat.le_max_left _ _
    · exact Nat.le_trans (deepL_mem rs r h) (Nat.le_max_right _ _)
theorem manyL_take : ∀ (rs : List (List Dd)) (j : Nat) (r : List Dd), rs[j]? = some r → manyL (rs.take j) + manyR r ≤ manyL rs
  | e :: rs, 0, r, h => by
    cases Option.some.inj h
    simp only [List.take_zero, manyL]
    omega
  | e :: rs, j + 1, r, h => by
    have := manyL_take rs j r h
    simp only [List.take_succ_cons, manyL]
    omega
theorem manyR_take : ∀ (rs : List Dd) (j : Nat) (r : Dd), rs[j]? = some r → manyR (rs.take j) + r.many ≤ manyR rs
  | e :: rs, 0, r, h => by
    cases Option.some.inj h
    rw [List.take_zero, many_nil, many_cons]
    omega
  | e :: rs, j + 1, r, h => by
    have := manyR_take rs j r h
    rw [List.take_succ_cons, many_cons, many_cons]
    omega
theorem take_snoc {α : Type} {l : List α} {i : Nat} {x : α} (h : l[i]? = some x) : l.take (i + 1) = l.take i ++ [x] := by
  obtain ⟨hi, e⟩ := List.getElem?_eq_some_iff.mp h
  rw [List.take_succ_eq_append_getElem hi, e]
def numsV (ns : List Nat) : List V := ns.map fun n => .int (n : Nat)
theorem ixN_at (n k : Nat) (h : k < n) : ixN n ((k : Nat) : Int) = some k := by
  unfold ixN
  rw [if_pos (by omega), if_pos (by omega), Int.toNat_natCast]
theorem numsV_len (ns : List Nat) : (numsV ns).length = ns.length := by rw [numsV, List.length_map]
theorem numsV_app (a b : List Nat) : numsV (a ++ b) = numsV a ++ numsV b := by rw [numsV, List.map_append]; rfl
def spLook (K : PySem.W.Frag) (C : Addr) (n : Nat) : Sp := fun vs H Q _ => ∃ (q e : Addr) (f : Nat) (r : List Dd) (es : List Nat), vs = [.ref q, .int (f : Nat), .ref e] ∧ RAt K C H q r ∧ deepR r < n ∧ f + deepR r ≤ 8 ∧ H e = some (.lst (numsV es)) ∧ es.length + manyR r ≤ 4000 ∧
  ∀ H', KB e H H' → H' e = some (.lst (numsV (es ++ endsR r es.length))) → Q .non H'
section
variable {P : Program} {w : World} {K : PySem.W.Frag} {mg : Str → Option Value} {base : Heap} {C : Addr}
theorem scLk : FnScope ["row", "floors", "ends", "deed", "place", "inner", "part"] ["row", "floors", "ends"] (defScope sLook) := ⟨rfl, rfl, rfl, by decide +kernel, rfl, by decide +kernel, by decide +kernel⟩
theorem ok_look {f : Addr} {fd : FuncData} (F : Fun K "look_through" "look_through" sLook f fd) (mgf : mg "look_through" = some (.ref f)) (b : Binds K fd ["row", "floors", "ends"] []) (B : Blt mg) (T : Txt K mg C) (G : FrmC K w mg)
    (DH : Def P w K mg base "has_form" 3 ["deed"] (spHasForm K C)) (DR : Def P w K mg base "rows_in" 1 ["deed"] (spRowsIn K C)) : ∀ n, FnOk P w K mg base CX0 (n + 4) f fd ["row", "floors", "ends"] (spLook K C n) := by
  obtain ⟨t1, mD⟩ := G.mD
  obtain ⟨t2, mFl⟩ := G.mF
  intro n
  induction n with
  | zero =>
    refine F.ok scLk (fun vs H Q E h => ?_) (fun cdv A outer s H vs Q E hr h => ?_)
    · obtain ⟨q, e, f, r, es, rfl, _⟩ := h
      rfl
    · obtain ⟨q, e, f, r, es, _, _, h, _⟩ := h
      exact absurd h (Nat.not_lt_zero _)
  | succ n G' =>
  refine F.ok scLk (fun vs H Q E h => ?_) (fun cdv A outer s H vs Q E hr h => ?_)
  · obtain ⟨q, e, f, r, es, rfl, _⟩ := h
    rfl
  · obtain ⟨q, e, f, r, es, rfl, ⟨vs, hq, hvs⟩, hdp, hfl, he, hmany, k⟩ := h
    have hr1 : Room 1 _ := hr.mono (by omega)
    have hr3 : Room 3 _ := hr.mono (by omega)
    refine ⟨_, PSs.nox (pss_one (ps_for PassesOwn.never rfl (pi_tup (pv 0)) (pg_name (i := 3) scLk.nd rfl (Or.inl rfl)) (pss_cons (ps_set (i := 4) scLk.nd rfl (Or.inl rfl) (pe_callB call_len_seq (by rfl) B.len PySem.boot_len (pa_cons (pv 2) pa_nil))) (pss_cons (ps_if (PW.pt (pw_or (pt_cmpR op_eq (pv 4) (pe_glob (v := .int 4000) rfl mD ⟨_, rfl⟩) (nomark _)) (pw_or1 (pt_not (pt_val (pe_def DH hr3 rfl (pa_cons (pv 3) pa_nil))))))) (pss_one ps_never) pss_nil) (pss_cons (ps_set (i := 5) scLk.nd rfl (Or.inl rfl) (pe_def DR hr1 rfl (pa_cons (pv 3) pa_nil))) (pss_cons (ps_if (PW.pt (pw_and (pt_truth (pv 5) (by intro _; rfl)) (pw_and1 (pt_cmpR op_eq (pv 1) (pe_glob (v := .int 8) rfl mFl ⟨_, rfl⟩) (nomark _))))) (pss_one ps_never) pss_nil) (pss_cons (ps_expr (pe_bm PySem.F.plainAttrs_list PySem.F.slot_list_append PySem.F.type_list_append mt_append (pv 2) (pa_cons (pe_op op_add (pv 4) pe_int) pa_nil))) (pss_cons (ps_for PassesOwn.never rfl (pi_tup (pv 5)) (pg_name (i := 6) scLk.nd rfl (Or.inl rfl)) (pss_one (ps_expr (pe_call G' hr rfl mgf F.kp b .nil pass0 (pa_cons (pv 6) (pa_cons (pe_op op_add (pv 1) pe_int) (pa_cons (pv 2) pa_nil))))))) (pss_one (ps_asg (pe_callB call_len_seq (by rfl) B.len PySem.boot_len (pa_cons (pv 2) pa_nil)) (pg_sub (pv 2) (pv 4) set_list))))))))))), ?_⟩
    have hsl := line4
    have hlen := DsAt.length r vs hvs
    refine ⟨_, rfl, q, rfl, ⟨_, hq⟩, for_tup (K := K) (a := q) (xs := vs) (fun i σ H' => ∃ x3 x4 x5 x6 : Option V, σ = [some (.ref q), some (.int (f : Nat)), some (.ref e), x3, x4, x5, x6] ∧ KB e H H' ∧ H' e = some (.lst (numsV (es ++ endsR (r.take i) es.length)))) ⟨none, none, none, none, rfl, KB.refl e H, by simpa [endsR] using he⟩ ?_ ?_ ?_⟩
    · rintro i σ H1 _ ⟨x3, x4, x5, x6, rfl, kb1, he1⟩
      exact sqt_kt (kb1.kt he) hq
    · rintro i v σ H1 hv ⟨x3, x4, x5, x6, rfl, kb1, he1⟩
      obtain ⟨d, hd, hdv⟩ := DsAt.get r vs i v hvs hv
      have hdm := List.mem_of_getElem? hd
      have hdd := deepR_mem r d hdm
      have hmt := manyR_take r i d hd
      have hpos := many_pos d
      have hdv1 := DAt_kt (kb1.kt he) d v hdv
      obtain ⟨pl, hpl⟩ : ∃ pl, es.length + manyR (r.take i) = pl := ⟨_, rfl⟩
      have hl1 : (numsV (es ++ endsR (r.take i) es.length)).length = pl := by rw [numsV_len, List.length_append, endsR_len, hpl]
      refine ⟨_, rfl, e, _, rfl, .inl (SqL.of he1), ?_⟩
      rw [hl1]
      refine ⟨_, rfl, rfl, _, rfl, ?_⟩
      have e0 : decide (V.int ((pl : Nat) : Int) = V.int 4000) = false := by
        simp only [decide_eq_false_iff_not, V.int.injEq]
        omega
      rw [e0]
      refine iteF ?_
      refine ⟨_, rfl, v, d, rfl, hdv1, fun H2 s2 => ⟨_, rfl, iteF ?_⟩⟩
      have hdv2 := DAt_kt (KT.of s2) d v hdv1
      refine ⟨_, rfl, v, d, rfl, hdv2, fun ip ws H3 s3 hip hws => ?_⟩
      have hwl := Paired.length hws
      refine ⟨_, rfl, !ws.isEmpty, .inr (.inl ⟨ws, hip, rfl⟩), ?_⟩
      have hrows : ∀ {Z : Prop}, Z → Z := fun z => z
      have step2 : ∀ (R : Bool → Hp → Prop), R false H3 → (if (!ws.isEmpty) = true then (tTest (tOp rEq (tVar 1) (tC (.int 8)))) [some (.ref q), some (.int (f : Nat)), some (.ref e), some v, some (.int ((pl : Nat) : Int)), some (.ref ip), x6] H3 R else R false H3) := by
        intro R hR
        cases hw : ws with
        | nil => exact iteF hR
        | cons w0 wr =>
          refine iteT ?_
          refine ⟨_, rfl, rfl, _, rfl, ?_⟩
          have hne : d.rows ≠ [] := fun z => by
            rw [z, hw] at hwl
            cases hwl
          have := deep_rows d hne
          have e1 : decide (V.int ((f : Nat) : Int) = V.int 8) = false := by
            simp only [decide_eq_false_iff_not, V.int.injEq]
            omega
          rw [e1]
          exact hR
      refine step2 _ ?_
      refine iteF ?_
      have he3 := s3 _ _ (s2 _ _ he1)
      obtain ⟨as, has⟩ : ∃ as, es ++ endsR (r.take i) es.length = as := ⟨_, rfl⟩
      rw [has] at he3 hl1
      rw [numsV_len] at hl1
      have hmr := many_rows d
      refine ⟨_, rfl, .inl ⟨rfl, _, SqL.of he3⟩, _, rfl, _, _, rfl, rfl, e, _, _, rfl, rfl, he3, by rw [numsV_len]; omega, ?_⟩
      have kb3 : KB e H H3 := (kb1.trans (KB.of s2)).trans (KB.of s3)
      have e4 : numsV as ++ [V.int (((pl : Nat) : Int) + 1)] = numsV (as ++ [pl + 1]) := by
        rw [numsV_app]
        rfl
      rw [e4]
      have he4 : (upd H3 e (.lst (numsV (as ++ [pl + 1])))) e = some (.lst (numsV (as ++ [pl + 1]))) := upd_same
      have kb4 : KB e H3 (upd H3 e (.lst (numsV (as ++ [pl + 1])))) := KB.set
      revert he4 kb4
      generalize upd H3 e (.lst (numsV (as ++ [pl + 1]))) = H4
      intro he4 kb4
      have kt4 : KT H3 H4 := kb4.kt he3
      refine ⟨_, rfl, ip, rfl, ⟨_, sqt_kt kt4 hip⟩, for_tup (K := K) (a := ip) (xs := ws) (fun j σ H' => ∃ x6 : Option V, σ = [some (.ref q), some (.int (f : Nat)), some (.ref e), some v, some (.int ((pl : Nat) : Int)), some (.ref ip), x6] ∧ KB e H4 H' ∧ H' e = some (.lst (numsV (as ++ [pl + 1] ++ endsL (d.rows.take j) (pl + 1))))) ⟨_, rfl, KB.refl e H4, by simpa [endsL] using he4⟩ ?_ ?_ ?_⟩
      · rintro j σ H5 _ ⟨x6, rfl, kb5, he5⟩
        exact sqt_kt (kb5.kt he4) (sqt_kt kt4 hip)
      · rintro j v6 σ H5 hv6 ⟨x6, rfl, kb5, he5⟩
        obtain ⟨r6, hr6, q6, rfl, hq6⟩ := paired_get hws hv6
        have hml := manyL_take d.rows j r6 hr6
        have hdl := deepL_mem d.rows r6 (List.mem_of_getElem? hr6)
        have hne : d.rows ≠ [] := fun z => by
          rw [z] at hr6
          cases hr6
        have hdr := deep_rows d hne
        have l5 : (as ++ [pl + 1] ++ endsL (d.rows.take j) (pl + 1)).length = pl + 1 + manyL (d.rows.take j) := by
          rw [List.length_append, List.length_append, endsL_len, hl1]
          rfl
        refine ⟨_, rfl, _, rfl, _, _, rfl, rfl, _, rfl, q6, e, f + 1, r6, _, rfl, (hq6.kt kt4).kt (kb5.kt he4), by omega, by omega, he5, by omega, fun H6 kb6 he6 => ?_⟩
        refine ⟨_, rfl, kb5.trans kb6, ?_⟩
        rw [he6, take_snoc hr6, endsL_app, endsL_one, l5, List.append_assoc (as ++ [pl + 1])]
      · rintro σ H5 ⟨x6, rfl, kb5, he5⟩
        rw [hwl, List.take_length] at he5
        have l5 : (as ++ [pl + 1] ++ endsL d.rows (pl + 1)).length = pl + d.many := by
          rw [List.length_append, List.length_append, endsL_len, hl1, hmr]
          simp only [List.length_cons, List.length_nil]
          omega
        refine ⟨_, rfl, e, _, rfl, .inl (SqL.of he5), ?_⟩
        rw [numsV_len, l5]
        refine ⟨_, rfl, _, rfl, e, _, _, pl, rfl, rfl, he5, ?_, ?_⟩
        · rw [numsV_len, l5]
          exact ixN_at _ _ (by omega)
        · have es5 : (numsV (as ++ [pl + 1] ++ endsL d.rows (pl + 1))).set pl (V.int (((pl + d.many : Nat)) : Int)) = numsV (es ++ endsR (r.take (i + 1)) es.length) := by
            rw [take_snoc hd, endsR_app, endsR_one, ends_rows, ← List.append_assoc, has, hpl, List.append_assoc, numsV_app, numsV_app]
            rw [List.set_append_right _ _ (by rw [numsV_len, hl1]; exact Nat.le_refl _), numsV_len, hl1, Nat.sub_self, numsV_app]
            rfl
          refine ⟨_, _, _, _, rfl, ((kb3.trans kb4).trans kb5).trans KB.set, ?_⟩
          rw [upd_same, ← es5]
    · rintro σ H1 ⟨x3, x4, x5, x6, rfl, kb1, he1⟩
      rw [hlen, List.take_length] at he1
      exact k H1 kb1 he1
end
end Js
set_option Elab.async false
set_option linter.all false
set_option maxRecDepth 100000
set_option maxHeartbeats 2000000
namespace JsZ
open PySem PySem.Spec PyProof.Rows L2
abbrev ht1 (h : Heap) (l : Addr) : Heap := h.push { cls := .type "tuple_iterator", data := .fields #[.ref l, .int 0 0] }
abbrev ht2 (h : Heap) (l : Addr) : Heap := (ht1 h l).push { cls := .type "enumerate", data := .fields #[.none, .bool false, .ref h.objs.size, rawInt 0, .none, .none] }
theorem new_enumT (l : Addr) (us : Array Value) :
    Meets (Builtin.«enumerate.__new__» ⟨[.type "enumerate", .ref l], []⟩) (fun _ R s => s.heap.IsTuple l us ∧ R (.ok (.ret (.ref (ht1 s.heap l).objs.size))) { s with heap := ht2 s.heap l }) :=
  .of_wp fun prog w A R s h => by
    obtain ⟨hp, g, d, tk, os⟩ := s; obtain ⟨h1, h⟩ := h
    have hsub := sub_enumerate
    have hL : Heap.IsTuple (Shared.heap ⟨hp, g, d, tk, os⟩) l us := h1
    wp_walk
    refine wpAny_stack_any fun st => wpAny_pure ?_
    split
    · rename_i c _ _ _ _ _
      cases (c == Value.type "enumerate")
      · wp_walk using wpAny_pyIter_tuple hL
        exact ⟨_, rfl, h⟩
      · wp_walk using wpAny_pyIter_tuple hL
        exact ⟨_, rfl, h⟩
    · wp_walk using wpAny_pyIter_tuple hL
      exact ⟨_, rfl, h⟩
section
variable {prog : Program} {w : World} {A : Around} {E : Value → Shared → Prop} {s : Shared}
theorem call_enumT {l : Addr} {us : Array Value} {Q : Value → Shared → Prop} (hL : s.heap.IsTuple l us)
    (h : ∀ h', IsEnum h' (s.heap.objs.size + 1) s.heap.objs.size 0 .none → h'.IsTupleIter s.heap.objs.size l 0 → h'.objs.size = s.heap.objs.size + 2 → (∀ b o, s.heap.get? b = some o → h'.get? b = some o) → Q (.ref (s.heap.objs.size + 1)) { s with heap := h' }) :
    wpAny (model prog w) A (call (.type "enumerate") [.ref l]) Q E s := by
  refine callType_new F.called_enumerate (by decide) (F.typeCall_enumerate_1 _) (F.newCall_enumerate_1 _) (fun obj => F.args_object_init_2 obj _) F.entry_enumerate_new (new_enumT l us) ⟨hL, ?_⟩
  have hz : (ht1 s.heap l).objs.size = s.heap.objs.size + 1 := Heap.size_push ..
  show _ ∧ _
  rw [hz]
  have he : IsEnum (ht2 s.heap l) (s.heap.objs.size + 1) s.heap.objs.size 0 .none := by
    have := Heap.get?_push_size (ht1 s.heap l) (o := { cls := .type "enumerate", data := .fields #[.none, .bool false, .ref s.heap.objs.size, rawInt 0, .none, .none] }) rfl
    rw [hz] at this
    exact this
  refine ⟨⟨_, he, rfl⟩, h _ he ⟨_, Heap.get?_push_of_some _ (Heap.get?_push_size _ rfl), rfl, rfl⟩ (by rw [Heap.size_push, hz]) fun b o q => Heap.get?_push_of_some _ (Heap.get?_push_of_some _ q)⟩
end
def ItE (K : PySem.W.Frag) (a : Addr) : It :=
  ⟨fun i H => ∃ (xs : List V) (x : V), SqT K H a xs ∧ xs[i]? = some x,
    fun i H v H' => ∃ T x, v = .ref T ∧ H T = none ∧ H' = upd H T (.tup [.int (i : Nat), x]) ∧ ∀ xs, SqT K H a xs → xs[i]? = some x,
    fun i H => ∃ xs : List V, SqT K H a xs ∧ i = xs.length⟩
theorem turn_E {P : Program} {w : World} {K : PySem.W.Frag} {elts : List Expr} {kk : Nat} {tpos : Pos} (a e it : Addr) (ha : a ≠ it) (hea : e ≠ a) :
    Turn P w K (.Tuple elts kk tpos) (ItE K a) [e, it] e (fun i h => (∃ old, IsEnum h e it ((i : Nat) : Int) old) ∧ h.IsTupleIter it a i ∧ e ≠ it) where
  mem := by simp
  obj := fun i h st b hb => by
    obtain ⟨⟨old, he⟩, ⟨o, ho, hc, hd⟩, _⟩ := st
    have e' : b = e ∨ b = it := by simpa using hb
    rcases e' with z | z
    · rw [z]; exact ⟨_, he, fun v q => nomatch q⟩
    · rw [z]; exact ⟨o, ho, fun v q => by rw [hd] at q; cases q⟩
  keep := fun i h h' st k => let ⟨⟨old, he⟩, hi, hne⟩ := st; ⟨⟨old, k e (by simp) _ he⟩, hi.at fun o q => k it (by simp) o q, hne⟩
  item := by
    intro X hP hw hK hc i pins s σ H E I hf st hg
    subst hP hw hK
    obtain ⟨⟨old, he⟩, hit, hne⟩ := st
    obtain ⟨xs, x, hqx, hx⟩ := hg
    obtain ⟨us, rv, p, _⟩ := I.tuple hqx
    obtain ⟨u, hu, ru⟩ := rv.get hx
    have hel : e < s.heap.objs.size := Heap.lt_size he
    have hil : it < s.heap.objs.size := by obtain ⟨_, q, _⟩ := hit; exact Heap.lt_size q
    have hh : X.A.in1.handled = none := I.ok.hd hc
    have li : i < us.toArray.size := by
      have := (List.getElem?_eq_some_iff.mp hu).1
      simpa using this
    refine wpAny_pyNext_enum_itemD (Draws.tuple hh it a ha us.toArray) he ⟨hit, p⟩ li hne (by simp [hne, hea]) fun v h' tk hPx ho hit' hT hsz hk => ?_
    have ev : v = u := by
      have : us.toArray[i]? = some u := by simpa using hu
      exact Option.some.inj (hPx.symm.trans this)
    subst ev
    refine ⟨_, rfl, wpAny_letOwnedTupleGo_enum (s := { s with heap := h', toks := tk + 1 }) ho fun h'' he' sb => ?_⟩
    have hT2 : h''.get? s.heap.objs.size = some { cls := .type "tuple", data := .seq #[.int i tk, v] } := (sb.2 _ (Nat.ne_of_gt hel)).trans hT
    have new : ObjOk X.prog X.w (upd H s.heap.objs.size (.tup [.int (i : Nat), x])) h'' s.heap.objs.size (.tup [.int (i : Nat), x]) := ⟨by show 2 ≤ sizeLine; decide, [.int i tk, v], .cons ⟨_, rfl⟩ (.cons ru .nil), ⟨_, hT2, rfl, _, rfl⟩⟩
    have I1 : Inv X pins σ (upd H s.heap.objs.size (.tup [.int (i : Nat), x])) { s with heap := h'', toks := tk + 1 } :=
      I.turnedNew (ch := [e, it]) (fun b ob hb q => (sb.2 b (fun z => hb (by simp [z]))).trans (hk b ob (fun z => hb (by simp [z])) (fun z => hb (by simp [z])) q)) hf (Nat.le_refl _) new
    refine ⟨.ref s.heap.objs.size, _, I1, rfl, ⟨_, x, rfl, I.hok.fresh (Nat.le_refl _), rfl, fun l hl => by rw [I.tuple_inj hl hqx]; exact hx⟩, ⟨⟨v, ?_⟩, ?_, hne⟩, fun b hb => ?_⟩
    · have e1 : ((i + 1 : Nat) : Int) = (i : Int) + 1 := by omega
      rw [e1]; exact he'
    · exact hit'.1.at fun o q => (sb.2 it (Ne.symm hne)).trans q
    · have hb' : b < s.heap.objs.size := by
        have e' : b = e ∨ b = it := by simpa using hb
        rcases e' with z | z
        · rw [z]; exact hel
        · rw [z]; exact hil
      rw [upd_ne (Nat.ne_of_lt hb')]
      exact (hf b hb).1
  done := by
    intro X hP hw hK hc i pins s σ H E I hf st hg
    subst hP hw hK
    obtain ⟨⟨old, he⟩, hit, hne⟩ := st
    obtain ⟨xs, hqx, rfl⟩ := hg
    obtain ⟨us, rv, p, _⟩ := I.tuple hqx
    obtain ⟨f0, f1, f2, f3, f4, f5⟩ := hf it (by simp)
    have hh : X.A.in1.handled = none := I.ok.hd hc
    have lu : us.toArray.size = xs.length := by rw [List.size_toArray, ← rv.length]
    exact wpAny_pyNext_enum_endD (Draws.tuple hh it a ha us.toArray) he (by rw [lu]; exact ⟨hit, p⟩) fun h' eb => ⟨rfl, I.turned (t' := s.toks) (fun b o hb q => eb b o hb q) f0 f1 f3 f4 f5⟩
  self := fun A i s Q E st h => let ⟨⟨_, he⟩, _⟩ := st; wpAny_pyIter_enum he h
end JsZ
namespace L2
open PySem PySem.Spec PyProof.Rows
def iEnumT (K : PySem.W.Frag) (ta : TA) : TI := fun σ H R => ta σ H fun vs H1 => ∃ a xs, vs = [.ref a] ∧ SqT K H1 a xs ∧ R (JsZ.ItE K a) H1
theorem pi_enumT {X : Cx} {e : Expr} {ta : TA} {p pos tpos : Pos} {elts : List Expr} {kk : Nat} (hg : Gl X "enumerate") (hm : X.mg "enumerate" = none) (ha : PA X [e] ta) (hs : starEach [e] X.env = [(false, eval e X.env)] := by rfl) :
    PI X (.Tuple elts kk tpos) (.Call (.Name "enumerate" p) [e] [] pos) (iEnumT X.K ta) := by
  refine ⟨fun pins s σ H R I h => ?_⟩
  refine Call_ (ld_blt I hg hm boot_enumerate (PyProof.Rows.callWith_type1 (thn (ha.run pos pins s σ H _ I h) fun us s1 ⟨vs, H1, I1, r1, q1⟩ => ?_) hs rfl))
  obtain ⟨a, xs, ex, hqx, q⟩ := q1
  subst ex
  obtain ⟨u, rfl, ru⟩ := vals1 r1
  cases (show u = Value.ref a from ru)
  obtain ⟨its, rv, p1, _⟩ := I1.tuple hqx
  obtain ⟨o1, ho1, _⟩ := id p1
  have la := Heap.lt_size ho1
  refine JsZ.call_enumT p1 fun h' he hit hsz hk => wpAny_pyIter_enum he ?_
  have I2 : Inv X pins σ H1 { s1 with heap := h' } := I1.kept (t' := s1.toks) hk
  refine ⟨s1.heap.objs.size + 1, [s1.heap.objs.size + 1, s1.heap.objs.size], _, _, H1, rfl, I2, JsZ.turn_E a (s1.heap.objs.size + 1) s1.heap.objs.size (Nat.ne_of_lt la) (fun z => absurd la (by rw [← z]; exact Nat.not_lt.mpr (Nat.le_succ _))), ⟨⟨.none, he⟩, hit, Nat.succ_ne_self _⟩, fun b hb => ?_, q⟩
  have e' : b = s1.heap.objs.size + 1 ∨ b = s1.heap.objs.size := by simpa using hb
  have hle : s1.heap.objs.size ≤ b := by
    rcases e' with z | z
    · rw [z]; exact Nat.le_add_right _ _
    · rw [z]; exact Nat.le_refl _
  exact I1.fpOk hle (I1.hok.fresh hle)
theorem walk_enumT {K : PySem.W.Frag} {a : Addr} {xs : List V} : Walk (JsZ.ItE K a) xs.length (fun H => SqT K H a xs) (fun i H v H' => ∃ T x, v = .ref T ∧ H T = none ∧ H' = upd H T (.tup [.int (i : Nat), x]) ∧ xs[i]? = some x) :=
  ⟨fun i H hi hq => ⟨xs, xs[i], hq, List.getElem?_eq_getElem hi⟩, fun H hq => ⟨xs, hq, rfl⟩, fun i H v H' hi hq y => by
      obtain ⟨T, x, e1, e2, e3, e4⟩ := y
      exact ⟨T, x, e1, e2, e3, e4 xs hq⟩⟩
end L2
set_option Elab.async false
set_option linter.all false
set_option maxRecDepth 100000
set_option maxHeartbeats 2000000
namespace Js
open PySem L2
abbrev sLay : Stmt := top 32
def Dd.isW : Dd → Bool
  | .wh _ _ => true
  | _ => false
def Dd.isF : Dd → Bool
  | .iff _ _ _ => true
  | _ => false
theorem kind_w : ∀ d : Dd, decide (V.str (kindOf d) = V.str "while") = d.isW
  | .told _ _ => (by decide +kernel : decide (V.str (("told" : Str)) = V.str "while") = false)
  | .take false _ _ => (by decide +kernel : decide (V.str (("first" : Str)) = V.str "while") = false)
  | .take true _ _ => (by decide +kernel : decide (V.str (("second" : Str)) = V.str "while") = false)
  | .two false _ _ _ => (by decide +kernel : decide (V.str (("pair" : Str)) = V.str "while") = false)
  | .two true _ _ _ => (by decide +kernel : decide (V.str (("same" : Str)) = V.str "while") = false)
  | .wh _ _ => (by decide +kernel : decide (V.str (("while" : Str)) = V.str "while") = true)
  | .iff _ _ _ => (by decide +kernel : decide (V.str (("if" : Str)) = V.str "while") = false)
theorem kind_f : ∀ d : Dd, (!decide (V.str (kindOf d) = V.str "if")) = !d.isF
  | .told _ _ => (by decide +kernel : (!decide (V.str (("told" : Str)) = V.str "if")) = true)
  | .take false _ _ => (by decide +kernel : (!decide (V.str (("first" : Str)) = V.str "if")) = true)
  | .take true _ _ => (by decide +kernel : (!decide (V.str (("second" : Str)) = V.str "if")) = true)
  | .two false _ _ _ => (by decide +kernel : (!decide (V.str (("pair" : Str)) = V.str "if")) = true)
  | .two true _ _ _ => (by decide +kernel : (!decide (V.str (("same" : Str)) = V.str "if")) = true)
  | .wh _ _ => (by decide +kernel : (!decide (V.str (("while" : Str)) = V.str "if")) = true)
  | .iff _ _ _ => (by decide +kernel : (!decide (V.str (("if" : Str)) = V.str "if")) = false)
def wayL : List (List Dd) → Nat → Nat → List Nat
  | [], _, _ => []
  | r :: rs, b, n => (if r.isEmpty then b else n) :: wayL rs b (n + manyR r)
def layL : List (List Dd) → Nat → Nat → List (Dd × List Nat)
  | [], _, _ => []
  | r :: rs, b, n => layR r b n ++ layL rs b (n + manyR r)
def Dd.back (d : Dd) (f n : Nat) : Nat := if d.isW then n else f
def Dd.ways (d : Dd) (f n : Nat) : List Nat := wayL d.rows (d.back f n) (n + 1) ++ (if d.isF then [] else [f])
theorem lay_rows : ∀ (d : Dd) (f n : Nat), d.lay f n = (d, d.ways f n) :: layL d.rows (d.back f n) (n + 1)
  | .told _ _, _, _ => rfl
  | .take _ _ _, _, _ => rfl
  | .two _ _ _ _, _, _ => rfl
  | .wh a r, f, n => by
    rw [Dd.lay]
    simp [Dd.ways, Dd.back, Dd.isW, Dd.isF, Dd.rows, wayL, layL]
  | .iff a r o, f, n => by
    rw [Dd.lay]
    simp [Dd.ways, Dd.back, Dd.isW, Dd.isF, Dd.rows, wayL, layL]
theorem layL_len : ∀ (rs : List (List Dd)) (b n : Nat), (layL rs b n).length = manyL rs
  | [], _, _ => rfl
  | r :: rs, b, n => by rw [layL, List.length_append, layR_len, layL_len rs, manyL]
theorem layL_app : ∀ (a c : List (List Dd)) (b n : Nat), layL (a ++ c) b n = layL a b n ++ layL c b (n + manyL a)
  | [], c, b, n => by rw [List.nil_append, manyL, layL, List.nil_append, Nat.add_zero]
  | r :: a, c, b, n => by rw [List.cons_append, layL, layL_app a c, layL, manyL, List.append_assoc, Nat.add_assoc]
theorem layL_one (r : List Dd) (b n : Nat) : layL [r] b n = layR r b n := by rw [layL, layL, List.append_nil]
theorem wayL_app : ∀ (a c : List (List Dd)) (b n : Nat), wayL (a ++ c) b n = wayL a b n ++ wayL c b (n + manyL a)
  | [], c, b, n => by rw [List.nil_append, manyL, wayL, List.nil_append, Nat.add_zero]
  | r :: a, c, b, n => by rw [List.cons_append, wayL, wayL_app a c, wayL, manyL, List.cons_append, Nat.add_assoc]
theorem wayL_one (r : List Dd) (b n : Nat) : wayL [r] b n = [if r.isEmpty then b else n] := rfl
theorem wayL_len : ∀ (rs : List (List Dd)) (b n : Nat), (wayL rs b n).length = rs.length
  | [], _, _ => rfl
  | r :: rs, b, n => by rw [wayL, List.length_cons, wayL_len rs, List.length_cons]
theorem take_over {α : Type} (L R : List α) (k m : Nat) (h : L.length = k) : (L ++ R).take (k + m) = L ++ R.take m := by
  subst h
  exact List.take_length_add_append m
theorem lay_step : ∀ (r : List Dd) (b n i : Nat) (d : Dd), r[i]? = some d →
    (layR r b n).take (manyR (r.take (i + 1))) = (layR r b n).take (manyR (r.take i)) ++ d.lay (if i + 1 < r.length then n + manyR (r.take i) + d.many else b) (n + manyR (r.take i))
  | e :: r, b, n, 0, d, h => by
    cases Option.some.inj h
    have t0 := take_over (e.lay (if r.isEmpty = true then b else n + e.many) n) (layR r b (n + e.many)) e.many 0 (lay_len _ _ _)
    rw [List.take_zero, List.append_nil] at t0
    show (layR (e :: r) b n).take (manyR [e]) = (layR (e :: r) b n).take 0 ++ e.lay (if 0 + 1 < (e :: r).length then n + 0 + e.many else b) (n + 0)
    rw [manyR_one, List.take_zero, List.nil_append, layR]
    refine t0.trans ?_
    cases r with
    | nil => rfl
    | cons x y =>
      rw [if_pos (show 0 + 1 < (e :: x :: y).length by simp only [List.length_cons]; omega)]
      rfl
  | e :: r, b, n, i + 1, d, h => by
    have ih := lay_step r b (n + e.many) i d h
    rw [List.take_succ_cons, List.take_succ_cons, many_cons, many_cons, layR, take_over _ _ _ _ (lay_len _ _ _), take_over _ _ _ _ (lay_len _ _ _), ih, List.append_assoc]
    have ec : (i + 1 + 1 < (e :: r).length) = (i + 1 < r.length) := by
      rw [List.length_cons]
      exact propext ⟨fun h => by omega, fun h => by omega⟩
    simp only [ec, Nat.add_assoc]
theorem seq_via {ta : TE} {g : TG} {rest : TS} {D : Ends} {σ : L2.St} {H : Hp} (v : V) (h : ∀ R : VK, R v H → ta σ H R) (k : g v σ H (rest D)) : tSeq (tAsg ta g) rest D σ H := h _ k
theorem via {T : VK → Prop} {K0 : VK} (v : V) (H : Hp) (h : ∀ R : VK, R v H → T R) (k : K0 v H) : T K0 := h K0 k
theorem ends_at : ∀ (r : List Dd) (n i : Nat) (d : Dd), r[i]? = some d → ∃ rest, endsR r n = endsR (r.take i) n ++ (d.ends (n + manyR (r.take i)) ++ rest)
  | e :: r, n, 0, d, h => by
    cases Option.some.inj h
    exact ⟨endsR r (n + e.many), by rw [List.take_zero, many_nil, endsR, endsR, List.nil_append, Nat.add_zero]⟩
  | e :: r, n, i + 1, d, h => by
    obtain ⟨rest, ih⟩ := ends_at r (n + e.many) i d h
    exact ⟨rest, by rw [List.take_succ_cons, many_cons, endsR, ih, endsR, List.append_assoc, Nat.add_assoc]⟩
theorem endsL_at : ∀ (rs : List (List Dd)) (n j : Nat) (r : List Dd), rs[j]? = some r → ∃ rest, endsL rs n = endsL (rs.take j) n ++ (endsR r (n + manyL (rs.take j)) ++ rest)
  | e :: rs, n, 0, r, h => by
    cases Option.some.inj h
    exact ⟨endsL rs (n + manyR e), by rw [List.take_zero, manyL, endsL, endsL, List.nil_append, Nat.add_zero]⟩
  | e :: rs, n, j + 1, r, h => by
    obtain ⟨rest, ih⟩ := endsL_at rs (n + manyR e) j r h
    exact ⟨rest, by rw [List.take_succ_cons, manyL, endsL, ih, endsL, List.append_assoc, Nat.add_assoc]⟩
def Pre (E : List Nat) (k : Nat) (l : List Nat) : Prop := ∀ i x, l[i]? = some x → E[k + i]? = some x
theorem Pre.right {E : List Nat} {k : Nat} {a b : List Nat} (h : Pre E k (a ++ b)) : Pre E (k + a.length) b := fun i x e => by
  have := h (a.length + i) x (by rw [List.getElem?_append_right (Nat.le_add_right _ _), Nat.add_sub_cancel_left]; exact e)
  rw [Nat.add_assoc]
  exact this
theorem Pre.left {E : List Nat} {k : Nat} {a b : List Nat} (h : Pre E k (a ++ b)) : Pre E k a := fun i x e => h i x (by
  rw [List.getElem?_append_left (List.getElem?_eq_some_iff.mp e).1]
  exact e)
theorem Pre.whole (E : List Nat) : Pre E 0 E := fun i x e => by
  rw [Nat.zero_add]
  exact e
def PlE (K : PySem.W.Frag) (C : Addr) (H : Hp) (v : V) (x : Dd × List Nat) : Prop := ∃ t wv dv, v = .ref t ∧ H t = some (.tup [dv, .ref wv]) ∧ H wv = some (.tup (numsV x.2)) ∧ DAt K C H dv x.1
theorem PlE.kt {K : PySem.W.Frag} {C : Addr} {H H' : Hp} (k : KT H H') {v : V} {x : Dd × List Nat} (h : PlE K C H v x) : PlE K C H' v x := by
  obtain ⟨t, wv, dv, e, h1, h2, h3⟩ := h
  exact ⟨t, wv, dv, e, k _ _ h1 (fun _ e => nomatch e), k _ _ h2 (fun _ e => nomatch e), DAt_kt k _ _ h3⟩
theorem pls_kt {K : PySem.W.Frag} {C : Addr} {H H' : Hp} (k : KT H H') : ∀ {ys : List V} {ps : List (Dd × List Nat)}, Paired (PlE K C H) ys ps → Paired (PlE K C H') ys ps
  | _, _, .nil => .nil
  | _, _, .cons h t => .cons (h.kt k) (pls_kt k t)
theorem paired_app {α β : Type} {R : α → β → Prop} : ∀ {xs : List α} {ys : List β} {xs' : List α} {ys' : List β}, Paired R xs ys → Paired R xs' ys' → Paired R (xs ++ xs') (ys ++ ys')
  | _, _, _, _, .nil, h => h
  | _, _, _, _, .cons h t, h' => .cons h (paired_app t h')
def spLay (K : PySem.W.Frag) (C : Addr) (n : Nat) : Sp := fun vs H Q _ => ∃ (q e p : Addr) (f : Nat) (r : List Dd) (E : List Nat) (xs : List V), vs = [.ref q, .int (f : Nat), .ref e, .ref p] ∧ RAt K C H q r ∧ deepR r < n ∧ H e = some (.lst (numsV E)) ∧ Pre E xs.length (endsR r xs.length) ∧
  H p = some (.lst xs) ∧ e ≠ p ∧ xs.length + manyR r ≤ 4000 ∧ ∀ H' ys, KB p H H' → H' p = some (.lst (xs ++ ys)) → Paired (PlE K C H') ys (layR r f xs.length) → Q .non H'
section
variable {P : Program} {w : World} {K : PySem.W.Frag} {mg : Str → Option Value} {base : Heap} {C : Addr}
theorem scLy : FnScope ["row", "behind", "ends", "plan", "at", "deed", "point", "after", "back", "ways", "part"] ["row", "behind", "ends", "plan"] (defScope sLay) := ⟨rfl, rfl, rfl, by decide +kernel, rfl, by decide +kernel, by decide +kernel⟩
theorem ok_lay {f : Addr} {fd : FuncData} (F : Fun K "lay_out" "lay_out" sLay f fd) (mgf : mg "lay_out" = some (.ref f)) (b : Binds K fd ["row", "behind", "ends", "plan"] []) (B : Blt mg) (G : FrmC K w mg)
    (DR : Def P w K mg base "rows_in" 1 ["deed"] (spRowsIn K C)) : ∀ n, FnOk P w K mg base CX0 (n + 2) f fd ["row", "behind", "ends", "plan"] (spLay K C n) := by
  intro n
  induction n with
  | zero =>
    refine F.ok scLy (fun vs H Q E h => ?_) (fun cdv A outer s H vs Q E hr h => ?_)
    · obtain ⟨q, e, p, f, r, E, xs, rfl, _⟩ := h
      rfl
    · obtain ⟨q, e, p, f, r, E, xs, _, _, h, _⟩ := h
      exact absurd h (Nat.not_lt_zero _)
  | succ n G' =>
  refine F.ok scLy (fun vs H Q E h => ?_) (fun cdv A outer s H vs Q E hr h => ?_)
  · obtain ⟨q, e, p, f, r, E, xs, rfl, _⟩ := h
    rfl
  · obtain ⟨q, e, p, f, r, En, xs, rfl, ⟨vs, hq, hvs⟩, hdp, he, hpre, hp, hep, hmany, k⟩ := h
    have hr1 : Room 1 _ := hr.mono (by omega)
    refine ⟨_, pss_one (ps_for PassesOwn.never rfl (pi_enumT rfl G.me (pa_cons (pv 0) pa_nil)) (pg_tup rfl (pgs_cons (pg_name (i := 4) scLy.nd rfl (Or.inl rfl)) (pgs_cons (pg_name (i := 5) scLy.nd rfl (Or.inl rfl)) pgs_nil))) (pss_cons (ps_set (i := 6) scLy.nd rfl (Or.inl rfl) (pe_callB call_len_seq (by rfl) B.len PySem.boot_len (pa_cons (pv 3) pa_nil))) (pss_cons (ps_set (i := 7) scLy.nd rfl (Or.inl rfl) (pe_ifExp (pt_cmpR op_lt (pe_op op_add (pv 4) pe_int) (pe_callB call_len_seq (by rfl) B.len PySem.boot_len (pa_cons (pv 0) pa_nil)) (nomark _)) (pe_ix (r := rIxL K) ix_list (pv 2) (pv 6) (fun _ _ => rfl)) (pv 1))) (pss_cons (ps_set (i := 8) scLy.nd rfl (Or.inl rfl) (pe_ifExp (pt_cmpR op_eq (pe_ix (r := rIxT K) ix_tup (pv 5) pe_int (fun _ _ => rfl)) pe_str (nomark _)) (pv 6) (pv 7))) (pss_cons (ps_expr (pe_bm PySem.F.plainAttrs_list PySem.F.slot_list_append PySem.F.type_list_append mt_append (pv 3) (pa_cons pe_non pa_nil))) (pss_cons (ps_set (i := 9) scLy.nd rfl (Or.inl rfl) (pe_lst pa_nil)) (pss_cons (ps_for PassesOwn.never rfl (pi_tup (pe_def DR hr1 rfl (pa_cons (pv 5) pa_nil))) (pg_name (i := 10) scLy.nd rfl (Or.inl rfl)) (pss_cons (ps_expr (pe_bm PySem.F.plainAttrs_list PySem.F.slot_list_append PySem.F.type_list_append mt_append (pv 9) (pa_cons (pe_ifExp (pt_truth (pv 10) (by intro _; rfl)) (pe_callB call_len_seq (by rfl) B.len PySem.boot_len (pa_cons (pv 3) pa_nil)) (pv 8)) pa_nil))) (pss_one (ps_expr (pe_call G' hr rfl mgf F.kp b .nil pass0 (pa_cons (pv 10) (pa_cons (pv 8) (pa_cons (pv 2) (pa_cons (pv 3) pa_nil))))))))) (pss_cons (ps_if (pt_cmpR op_ne (pe_ix (r := rIxT K) ix_tup (pv 5) pe_int (fun _ _ => rfl)) pe_str (nomark _)) (pss_one (ps_expr (pe_bm PySem.F.plainAttrs_list PySem.F.slot_list_append PySem.F.type_list_append mt_append (pv 9) (pa_cons (pv 7) pa_nil)))) pss_nil) (pss_one (ps_asg (pe_tup (pa_cons (pv 5) (pa_cons (pe_callTy call_tuple_of (by rfl) G.mt PyProof.Rows.boot_tuple (pa_cons (pv 9) pa_nil)) pa_nil))) (pg_sub (pv 3) (pv 6) set_list))))))))))), ?_⟩
    have hsl := line4
    have hlen := DsAt.length r vs hvs
    refine ⟨_, rfl, q, vs, rfl, hq, for_it (walk_enumT (K := K) (a := q) (xs := vs)) (fun i σ H' => ∃ x4 x5 x6 x7 x8 x9 x10 : Option V, ∃ ys : List V, σ = [some (.ref q), some (.int (f : Nat)), some (.ref e), some (.ref p), x4, x5, x6, x7, x8, x9, x10] ∧ KB p H H' ∧ H' p = some (.lst (xs ++ ys)) ∧ Paired (PlE K C H') ys ((layR r f xs.length).take (manyR (r.take i)))) ⟨none, none, none, none, none, none, none, [], rfl, KB.refl p H, by rw [List.append_nil]; exact hp, by rw [List.take_zero, many_nil, List.take_zero]; exact .nil⟩ ?_ ?_ ?_⟩
    · rintro i σ H1 _ ⟨x4, x5, x6, x7, x8, x9, x10, ys, rfl, kb1, hp1, hys⟩
      exact sqt_kt (kb1.kt hp) hq
    · rintro i y σ H1 H2 hi ⟨x4, x5, x6, x7, x8, x9, x10, ys, rfl, kb1, hp1, hys⟩ ⟨T, v, rfl, nT, rfl, hv⟩
      obtain ⟨d, hd, hdv⟩ := DsAt.get r vs i v hvs hv
      have hdd := deepR_mem r d (List.mem_of_getElem? hd)
      have hmt := manyR_take r i d hd
      have hpos := many_pos d
      have hmr := many_rows d
      have sT := Same.new nT (o := .tup [.int (i : Nat), v])
      have kb2 : KB p H (upd H1 T (.tup [.int (i : Nat), v])) := kb1.trans (KB.of sT)
      have hp2 := sT _ _ hp1
      have hys2 := pls_kt (KT.of sT) hys
      have hdv2 : DAt K C (upd H1 T (.tup [.int (i : Nat), v])) v d := DAt_kt (kb2.kt hp) d v hdv
      have hq2 : SqT K (upd H1 T (.tup [.int (i : Nat), v])) q vs := sqt_kt (kb2.kt hp) hq
      have he2 := kb2 _ _ hep he
      have hT2 : (upd H1 T (.tup [.int (i : Nat), v])) T = some (.tup [.int (i : Nat), v]) := upd_same
      revert kb2 hp2 hys2 hdv2 hq2 he2 hT2
      generalize upd H1 T (.tup [.int (i : Nat), v]) = H2
      intro kb2 hp2 hys2 hdv2 hq2 he2 hT2
      refine ⟨T, _, rfl, SqT.of hT2, rfl, _, _, rfl, _, _, rfl, rfl, ?_⟩
      obtain ⟨pt, hpt⟩ : ∃ pt, xs.length + manyR (r.take i) = pt := ⟨_, rfl⟩
      have lys : ys.length = manyR (r.take i) := by
        rw [Paired.length hys, List.length_take, layR_len]
        omega
      have lxy : (xs ++ ys).length = pt := by rw [List.length_append, lys, hpt]
      refine ⟨_, rfl, p, _, rfl, .inl (SqL.of hp2), ?_⟩
      rw [lxy]
      -- after
      obtain ⟨af, haf⟩ : ∃ af, (if i + 1 < r.length then pt + d.many else f) = af := ⟨_, rfl⟩
      obtain ⟨rest, hen⟩ := ends_at r xs.length i d hd
      have hpre2 : Pre En pt (d.ends pt) := by
        rw [hen] at hpre
        have := hpre.right
        rw [endsR_len, hpt] at this
        exact this.left
      have hpre3 : En[pt]? = some (pt + d.many) := by
        have := hpre2 0 (pt + d.many) (by rw [ends_rows]; rfl)
        exact this
      dsimp only [gName]
      refine seq_via (.int (af : Nat)) (fun R hR => ?_) ?_
      · refine ⟨_, rfl, _, _, rfl, rfl, _, rfl, q, vs, rfl, .inr hq2, _, _, rfl, rfl, _, rfl, ?_⟩
        rw [hlen]
        by_cases hlt : i + 1 < r.length
        · rw [decide_eq_true (show ((i : Nat) : Int) + 1 < ((r.length : Nat) : Int) by omega)]
          refine iteT ?_
          rw [if_pos hlt] at haf
          refine ⟨_, rfl, _, rfl, e, _, _, .int (af : Nat), rfl, rfl, SqL.of he2, ?_, hR⟩
          refine atI_nat ?_
          rw [numsV, List.getElem?_map, hpre3, ← haf]
          rfl
        · rw [decide_eq_false (show ¬ ((i : Nat) : Int) + 1 < ((r.length : Nat) : Int) by omega)]
          refine iteF ?_
          rw [if_neg hlt] at haf
          subst haf
          exact ⟨_, rfl, hR⟩
      -- back
      obtain ⟨pd, its, ev, hpd, _⟩ := shape d hdv2
      subst ev
      refine seq_via (.int ((d.back af pt : Nat) : Int)) (fun R hR => ?_) ?_
      · refine ⟨_, rfl, pd, _, 0, _, rfl, rfl, hpd, at0 _ _, rfl, _, rfl, ?_⟩
        rw [kind_w]
        unfold Dd.back at hR
        cases hw : d.isW with
        | true =>
          rw [hw] at hR
          exact iteT ⟨_, rfl, hR⟩
        | false =>
          rw [hw] at hR
          exact iteF ⟨_, rfl, hR⟩
      obtain ⟨bk, hbk⟩ : ∃ bk, d.back af pt = bk := ⟨_, rfl⟩
      rw [hbk]
      refine ⟨_, rfl, .inl ⟨rfl, _, SqL.of hp2⟩, p, _, _, rfl, rfl, hp2, by omega, ?_⟩
      have kb3 : KB p H (upd H2 p (.lst (xs ++ ys ++ [.non]))) := kb2.trans KB.set
      have kt3 : KT H2 (upd H2 p (.lst (xs ++ ys ++ [.non]))) := KT.lst hp2
      have hp3 : (upd H2 p (.lst (xs ++ ys ++ [.non]))) p = some (.lst (xs ++ ys ++ [.non])) := upd_same
      have he3 : (upd H2 p (.lst (xs ++ ys ++ [.non]))) e = some (.lst (numsV En)) := by rw [upd_ne hep]; exact he2
      revert kb3 kt3 hp3 he3
      generalize upd H2 p (.lst (xs ++ ys ++ [.non])) = H3
      intro kb3 kt3 hp3 he3
      refine ⟨Nat.zero_le _, fun wl nwl => ?_⟩
      have s4 : Same H3 (upd H3 wl (.lst [])) := Same.new nwl
      have hwl4 : (upd H3 wl (.lst [])) wl = some (.lst []) := upd_same
      have hwp : wl ≠ p := fun z => by rw [z, hp3] at nwl; cases nwl
      have hwe : wl ≠ e := fun z => by rw [z, he3] at nwl; cases nwl
      have nwH : H wl = none := by
        cases hw : H wl with
        | none => rfl
        | some o =>
          have := kb3 _ _ hwp hw
          rw [nwl] at this
          cases this
      revert s4 hwl4
      generalize upd H3 wl (.lst []) = H4
      intro s4 hwl4
      have kt24 : KT H2 H4 := kt3.trans (KT.of s4)
      have hdv4 := DAt_kt kt24 d _ hdv2
      refine ⟨_, rfl, _, d, rfl, hdv4, fun ip ws H5 s5 hip hws => ?_⟩
      have hwl5 := Paired.length hws
      have kb5 : KB p H H5 := (kb3.trans (KB.of s4)).trans (KB.of s5)
      have kt25 : KT H2 H5 := kt24.trans (KT.of s5)
      have hp5 := s5 _ _ (s4 _ _ hp3)
      have he5 := s5 _ _ (s4 _ _ he3)
      have hw5 := s5 _ _ hwl4
      refine ⟨ip, rfl, ⟨_, hip⟩, for_tup (K := K) (a := ip) (xs := ws) (fun j σ H' => ∃ (x10 : Option V) (zs : List V), σ = [some (.ref q), some (.int (f : Nat)), some (.ref e), some (.ref p), some (.int (i : Nat)), some (.ref pd), some (.int (pt : Nat)), some (.int (af : Nat)), some (.int (bk : Nat)), some (.ref wl), x10] ∧ KB p H H' ∧ KT H5 H' ∧ H' e = some (.lst (numsV En)) ∧ H' wl = some (.lst (numsV (wayL (d.rows.take j) bk (pt + 1)))) ∧ H' p = some (.lst (xs ++ ys ++ [.non] ++ zs)) ∧ Paired (PlE K C H') zs (layL (d.rows.take j) bk (pt + 1))) ⟨_, [], rfl, kb5, KT.refl H5, he5, hw5, by rw [List.append_nil]; exact hp5, .nil⟩ ?_ ?_ ?_⟩
      · rintro j σ H6 _ ⟨x10, zs, rfl, kb6, kt6, he6, hw6, hp6, hzs⟩
        exact sqt_kt kt6 hip
      · rintro j v10 σ H6 hv10 ⟨x10, zs, rfl, kb6, kt6, he6, hw6, hp6, hzs⟩
        obtain ⟨r6, hr6, q6, rfl, hq6⟩ := paired_get hws hv10
        have hml := manyL_take d.rows j r6 hr6
        have hdl := deepL_mem d.rows r6 (List.mem_of_getElem? hr6)
        have hne : d.rows ≠ [] := fun z => by
          rw [z] at hr6
          cases hr6
        have hdr := deep_rows d hne
        have hjl := (List.getElem?_eq_some_iff.mp hv10).1
        have lzs : zs.length = manyL (d.rows.take j) := by rw [Paired.length hzs, layL_len]
        have lp6 : (xs ++ ys ++ [V.non] ++ zs).length = pt + 1 + manyL (d.rows.take j) := by
          rw [List.length_append, List.length_append, lxy, lzs]
          rfl
        obtain ⟨vs6, hsq6, hds6⟩ := hq6.kt kt6
        have l6 := DsAt.length r6 vs6 hds6
        refine ⟨_, rfl, .inl ⟨rfl, _, SqL.of hw6⟩, ?_⟩
        refine via (T := (tIf _ _ _) _ H6) (.int (((if r6.isEmpty then bk else pt + 1 + manyL (d.rows.take j) : Nat)) : Int)) H6 (fun R hR => ?_) ?_
        · refine ⟨_, rfl, !vs6.isEmpty, .inr (.inl ⟨vs6, hsq6, rfl⟩), ?_⟩
          cases r6 with
          | nil =>
            cases vs6 with
            | nil => exact iteF ⟨_, rfl, hR⟩
            | cons x y => cases l6
          | cons x y =>
            cases vs6 with
            | nil => cases l6
            | cons x' y' =>
              refine iteT ⟨_, rfl, p, _, rfl, .inl (SqL.of hp6), ?_⟩
              rw [lp6]
              exact hR
        obtain ⟨wn, hwn⟩ : ∃ wn, (if r6.isEmpty then bk else pt + 1 + manyL (d.rows.take j) : Nat) = wn := ⟨_, rfl⟩
        rw [hwn]
        have hrl : d.rows.length ≤ 2 := by
          cases d <;> simp [Dd.rows]
        refine ⟨wl, _, _, rfl, rfl, hw6, by rw [numsV_len, wayL_len, List.length_take]; omega, ?_⟩
        have kt7 : KT H6 (upd H6 wl (.lst (numsV (wayL (d.rows.take j) bk (pt + 1)) ++ [.int (wn : Nat)]))) := KT.lst hw6
        have e7 : numsV (wayL (d.rows.take j) bk (pt + 1)) ++ [.int (wn : Nat)] = numsV (wayL (d.rows.take (j + 1)) bk (pt + 1)) := by
          rw [take_snoc hr6, wayL_app, wayL_one, numsV_app, hwn]
          rfl
        rw [e7] at kt7 ⊢
        have hw7 : (upd H6 wl (.lst (numsV (wayL (d.rows.take (j + 1)) bk (pt + 1))))) wl = some (.lst (numsV (wayL (d.rows.take (j + 1)) bk (pt + 1)))) := upd_same
        have he7 : (upd H6 wl (.lst (numsV (wayL (d.rows.take (j + 1)) bk (pt + 1))))) e = some (.lst (numsV En)) := by rw [upd_ne (Ne.symm hwe)]; exact he6
        have hp7 : (upd H6 wl (.lst (numsV (wayL (d.rows.take (j + 1)) bk (pt + 1))))) p = some (.lst (xs ++ ys ++ [.non] ++ zs)) := by rw [upd_ne (Ne.symm hwp)]; exact hp6
        have kb7 : KB p H (upd H6 wl (.lst (numsV (wayL (d.rows.take (j + 1)) bk (pt + 1))))) := fun a o na ha => by
          rw [upd_ne (ne_of_none ha nwH)]
          exact kb6 _ _ na ha
        revert kt7 hw7 he7 hp7 kb7
        generalize upd H6 wl (.lst (numsV (wayL (d.rows.take (j + 1)) bk (pt + 1)))) = H7
        intro kt7 hw7 he7 hp7 kb7
        have hpre7 : Pre En (xs ++ ys ++ [V.non] ++ zs).length (endsR r6 (xs ++ ys ++ [V.non] ++ zs).length) := by
          rw [lp6]
          have h1 : Pre En (pt + 1) (endsL d.rows (pt + 1)) := by
            have := hpre2
            rw [ends_rows] at this
            exact Pre.right (a := [pt + d.many]) this
          obtain ⟨rest2, hen2⟩ := endsL_at d.rows (pt + 1) j r6 hr6
          rw [hen2] at h1
          have h2 := h1.right
          rw [endsL_len] at h2
          exact h2.left
        refine ⟨_, rfl, _, rfl, _, rfl, _, rfl, q6, e, p, bk, r6, En, _, rfl, (hq6.kt kt6).kt kt7, by omega, he7, hpre7, hp7, hep, by rw [lp6]; omega, fun H8 zs2 kb8 hp8 hzs2 => ?_⟩
        have kt8 : KT H7 H8 := kb8.kt hp7
        rw [lp6] at hzs2
        refine ⟨_, zs ++ zs2, rfl, kb7.trans kb8, (kt6.trans kt7).trans kt8, kb8 _ _ hep he7, kb8 _ _ hwp hw7, by rw [hp8, List.append_assoc (xs ++ ys ++ [V.non])], ?_⟩
        rw [take_snoc hr6, layL_app, layL_one]
        exact paired_app (pls_kt (kt7.trans kt8) hzs) hzs2
      · rintro σ H6 ⟨x10, zs, rfl, kb6, kt6, he6, hw6, hp6, hzs⟩
        rw [hwl5, List.take_length] at hw6 hzs
        have hpd6 := sqt_kt (kt25.trans kt6) hpd
        refine ⟨_, rfl, pd, _, 0, _, rfl, rfl, hpd6, at0 _ _, rfl, _, rfl, ?_⟩
        rw [kind_f]
        cases hF : d.isF with
        | true =>
          refine iteF ?_
          have ew : wayL d.rows bk (pt + 1) = d.ways af pt := by
            rw [Dd.ways, hbk, hF, if_pos rfl, List.append_nil]
          rw [ew] at hw6
          refine ⟨_, rfl, _, rfl, wl, _, rfl, .inl ⟨SqL.of hw6, fun wt nwt => ?_⟩⟩
          have s8 : Same H6 (upd H6 wt (.tup (numsV (d.ways af pt)))) := Same.new nwt
          have hwt8 : (upd H6 wt (.tup (numsV (d.ways af pt)))) wt = some (.tup (numsV (d.ways af pt))) := upd_same
          revert s8 hwt8
          generalize upd H6 wt (.tup (numsV (d.ways af pt))) = H8
          intro s8 hwt8
          refine ⟨by show 2 ≤ sizeLine; decide, fun tt ntt => ?_⟩
          have s9 : Same H8 (upd H8 tt (.tup [.ref pd, .ref wt])) := Same.new ntt
          have htt9 : (upd H8 tt (.tup [.ref pd, .ref wt])) tt = some (.tup [.ref pd, .ref wt]) := upd_same
          revert s9 htt9
          generalize upd H8 tt (.tup [.ref pd, .ref wt]) = H9
          intro s9 htt9
          have s79 := s8.trans s9
          have hp9 := s79 _ _ hp6
          have kt9 : KT H9 (upd H9 p (.lst ((xs ++ ys ++ [V.non] ++ zs).set pt (.ref tt)))) := KT.lst hp9
          refine ⟨_, rfl, _, rfl, p, _, _, pt, rfl, rfl, hp9, ixN_at _ _ (by rw [List.length_append, List.length_append, lxy]; simp only [List.length_cons]; omega), ?_⟩
          have es : (xs ++ ys ++ [V.non] ++ zs).set pt (.ref tt) = xs ++ (ys ++ (.ref tt :: zs)) := by
            rw [List.append_assoc (xs ++ ys), List.set_append_right _ _ (by rw [lxy]; exact Nat.le_refl _), lxy, Nat.sub_self, List.append_assoc]
            rfl
          have ktz : KT H2 (upd H9 p (.lst ((xs ++ ys ++ [V.non] ++ zs).set pt (.ref tt)))) := ((kt25.trans kt6).trans (KT.of s79)).trans kt9
          refine ⟨_, _, _, _, _, _, _, ys ++ (.ref tt :: zs), rfl, (kb6.trans (KB.of s79)).trans KB.set, by rw [upd_same, es], ?_⟩
          rw [lay_step r f xs.length i d hd, hpt, haf, lay_rows, hbk]
          refine paired_app (pls_kt ktz hys2) (.cons ⟨tt, wt, .ref pd, rfl, kt9 _ _ htt9 (fun _ e => nomatch e), kt9 _ _ (s9 _ _ hwt8) (fun _ e => nomatch e), DAt_kt ktz d _ hdv2⟩ (pls_kt ((KT.of s79).trans kt9) hzs))
        | false =>
          refine iteT ?_
          have hrl : d.rows.length ≤ 2 := by
            cases d <;> simp [Dd.rows]
          refine ⟨_, rfl, .inl ⟨rfl, _, SqL.of hw6⟩, _, rfl, wl, _, _, rfl, rfl, hw6, by rw [numsV_len, wayL_len]; omega, ?_⟩
          have ew : numsV (wayL d.rows bk (pt + 1)) ++ [.int (af : Nat)] = numsV (d.ways af pt) := by
            rw [Dd.ways, hbk, hF, if_neg Bool.false_ne_true, numsV_app]
            rfl
          rw [ew]
          have kt7 : KT H6 (upd H6 wl (.lst (numsV (d.ways af pt)))) := KT.lst hw6
          have hw7 : (upd H6 wl (.lst (numsV (d.ways af pt)))) wl = some (.lst (numsV (d.ways af pt))) := upd_same
          have hp7 : (upd H6 wl (.lst (numsV (d.ways af pt)))) p = some (.lst (xs ++ ys ++ [.non] ++ zs)) := by rw [upd_ne (Ne.symm hwp)]; exact hp6
          have kb7 : KB p H (upd H6 wl (.lst (numsV (d.ways af pt)))) := fun a o na ha => by
            rw [upd_ne (ne_of_none ha nwH)]
            exact kb6 _ _ na ha
          have hzs7 := pls_kt kt7 hzs
          revert kt7 hw7 hp7 kb7 hzs7
          generalize upd H6 wl (.lst (numsV (d.ways af pt))) = H7
          intro kt7 hw7 hp7 kb7 hzs7
          refine ⟨_, rfl, _, rfl, wl, _, rfl, .inl ⟨SqL.of hw7, fun wt nwt => ?_⟩⟩
          have s8 : Same H7 (upd H7 wt (.tup (numsV (d.ways af pt)))) := Same.new nwt
          have hwt8 : (upd H7 wt (.tup (numsV (d.ways af pt)))) wt = some (.tup (numsV (d.ways af pt))) := upd_same
          revert s8 hwt8
          generalize upd H7 wt (.tup (numsV (d.ways af pt))) = H8
          intro s8 hwt8
          refine ⟨by show 2 ≤ sizeLine; decide, fun tt ntt => ?_⟩
          have s9 : Same H8 (upd H8 tt (.tup [.ref pd, .ref wt])) := Same.new ntt
          have htt9 : (upd H8 tt (.tup [.ref pd, .ref wt])) tt = some (.tup [.ref pd, .ref wt]) := upd_same
          revert s9 htt9
          generalize upd H8 tt (.tup [.ref pd, .ref wt]) = H9
          intro s9 htt9
          have s79 := s8.trans s9
          have hp9 := s79 _ _ hp7
          have kt9 : KT H9 (upd H9 p (.lst ((xs ++ ys ++ [V.non] ++ zs).set pt (.ref tt)))) := KT.lst hp9
          refine ⟨_, rfl, _, rfl, p, _, _, pt, rfl, rfl, hp9, ixN_at _ _ (by rw [List.length_append, List.length_append, lxy]; simp only [List.length_cons]; omega), ?_⟩
          have es : (xs ++ ys ++ [V.non] ++ zs).set pt (.ref tt) = xs ++ (ys ++ (.ref tt :: zs)) := by
            rw [List.append_assoc (xs ++ ys), List.set_append_right _ _ (by rw [lxy]; exact Nat.le_refl _), lxy, Nat.sub_self, List.append_assoc]
            rfl
          have ktz : KT H2 (upd H9 p (.lst ((xs ++ ys ++ [V.non] ++ zs).set pt (.ref tt)))) := ((kt25.trans (kt6.trans kt7)).trans (KT.of s79)).trans kt9
          refine ⟨_, _, _, _, _, _, _, ys ++ (.ref tt :: zs), rfl, (kb7.trans (KB.of s79)).trans KB.set, by rw [upd_same, es], ?_⟩
          rw [lay_step r f xs.length i d hd, hpt, haf, lay_rows, hbk]
          refine paired_app (pls_kt ktz hys2) (.cons ⟨tt, wt, .ref pd, rfl, kt9 _ _ htt9 (fun _ e => nomatch e), kt9 _ _ (s9 _ _ hwt8) (fun _ e => nomatch e), DAt_kt ktz d _ hdv2⟩ (pls_kt ((KT.of s79).trans kt9) hzs7))
    · rintro σ H1 ⟨x4, x5, x6, x7, x8, x9, x10, ys, rfl, kb1, hp1, hys⟩
      rw [hlen, List.take_length, List.take_of_length_le (by rw [layR_len]; exact Nat.le_refl _)] at hys
      exact k H1 ys kb1 hp1 hys
end
end Js
set_option Elab.async false
set_option linter.all false
set_option maxRecDepth 100000
set_option maxHeartbeats 2000000
namespace Js
open PySem L2
noncomputable instance : DecidableEq Dd := Classical.typeDecidableEq Dd
end Js
set_option Elab.async false
set_option linter.all false
set_option maxRecDepth 100000
set_option maxHeartbeats 2000000
namespace Js
open PySem L2
abbrev sPInit : Stmt := inClass (top 25) 0
abbrev sPLen : Stmt := inClass (top 25) 2
abbrev sPEq : Stmt := inClass (top 25) 3
theorem n_dp : ¬ (("deeds" : Str) = "plan") := by decide +kernel
def pf (q pl : Addr) : List (Str × V) := putF "plan" (.ref pl) (putF "deeds" (.ref q) [])
theorem pf_deeds (q pl : Addr) : (pf q pl).lookup ("deeds" : Str) = some (.ref q) := by
  unfold pf
  rw [lookup_putF, if_neg n_dp, lookup_putF, if_pos rfl]
structure Fr (H H' : Hp) : Prop where
  t : ∀ a xs, H a = some (.tup xs) → H' a = some (.tup xs)
  z : ∀ a o xs, H a = some (.frz o (.tup xs)) → H' a = some (.frz o (.tup xs))
  i : ∀ a C dx f s n, H a = some (.ins C dx (tf f s n)) → H' a = some (.ins C dx (tf f s n))
theorem Fr.kb {H H' : Hp} {p D dx : Addr} (hp : H p = some (.ins D dx [])) (k : KB p H H') : Fr H H' :=
  ⟨fun a xs h => k _ _ (fun z => by rw [z, hp] at h; cases h) h, fun a o xs h => k _ _ (fun z => by rw [z, hp] at h; cases h) h, fun a C dx f s n h => k _ _ (fun z => by
    rw [z, hp] at h
    have e := Option.some.inj h
    injection e with _ _ e3
    have := tf_size f s n
    rw [← e3] at this
    cases this) h⟩
theorem Th.fr {C : Addr} {H H' : Hp} (k : Fr H H') {a : Addr} {t : Tr} (h : Th C H a t) : Th C H' a t := by
  induction h with
  | nil h => exact .nil (k.i _ _ _ _ _ _ h)
  | pr h _ _ ih1 ih2 => exact .pr (k.i _ _ _ _ _ _ h) ih1 ih2
theorem sqt_fr {K : PySem.W.Frag} {H H' : Hp} (k : Fr H H') {a : Addr} {xs : List V} (h : SqT K H a xs) : SqT K H' a xs :=
  h.elim (fun h => .inl (h.elim (fun h => .inl (k.t _ _ h)) fun ⟨o, h⟩ => .inr ⟨o, k.z _ _ _ h⟩)) fun h => .inr h
mutual
theorem DAt_fr {K : PySem.W.Frag} {C : Addr} {H H' : Hp} (k : Fr H H') : ∀ (d : Dd) (v : V), DAt K C H v d → DAt K C H' v d
  | .told a t, v, h => by
    obtain ⟨p, x, e, h1, h2, h3, h4⟩ := h
    exact ⟨p, x, e, sqt_fr k h1, h2, h3.fr k, h4⟩
  | .take s a b, v, h => by
    obtain ⟨p, e, h1, h2⟩ := h
    exact ⟨p, e, sqt_fr k h1, h2⟩
  | .two s a b c, v, h => by
    obtain ⟨p, e, h1, h2⟩ := h
    exact ⟨p, e, sqt_fr k h1, h2⟩
  | .wh a r, v, h => by
    obtain ⟨p, q, vs, e, h1, h2, h3, h4⟩ := h
    exact ⟨p, q, vs, e, sqt_fr k h1, h2, sqt_fr k h3, DsAt_fr k r vs h4⟩
  | .iff a r o, v, h => by
    obtain ⟨p, q, vs, q2, vs2, e, h1, h2, h3, h4, h5, h6⟩ := h
    exact ⟨p, q, vs, q2, vs2, e, sqt_fr k h1, h2, sqt_fr k h3, DsAt_fr k r vs h4, sqt_fr k h5, DsAt_fr k o vs2 h6⟩
theorem DsAt_fr {K : PySem.W.Frag} {C : Addr} {H H' : Hp} (k : Fr H H') : ∀ (r : List Dd) (vs : List V), DsAt K C H vs r → DsAt K C H' vs r
  | [], vs, h => h
  | d :: r, vs, h => by
    obtain ⟨v, us, e, h1, h2⟩ := h
    exact ⟨v, us, e, DAt_fr k d v h1, DsAt_fr k r us h2⟩
end
theorem RAt.fr {K : PySem.W.Frag} {C : Addr} {H H' : Hp} (k : Fr H H') {q : Addr} {r : List Dd} (h : RAt K C H q r) : RAt K C H' q r := by
  obtain ⟨vs, h1, h2⟩ := h
  exact ⟨vs, sqt_fr k h1, DsAt_fr k r vs h2⟩
theorem pls_fr {K : PySem.W.Frag} {C : Addr} {H H' : Hp} (k : Fr H H') : ∀ {ys : List V} {ps : List (Dd × List Nat)}, Paired (PlE K C H) ys ps → Paired (PlE K C H') ys ps
  | _, _, .nil => .nil
  | _, _, .cons ⟨t, wv, dv, e, h1, h2, h3⟩ u => .cons ⟨t, wv, dv, e, k.t _ _ h1, k.t _ _ h2, DAt_fr k _ _ h3⟩ (pls_fr k u)
structure TxtP (K : PySem.W.Frag) (mg : Str → Option Value) (CP : Addr) : Prop where
  cl : Cls K CP
  nD : NoAttr K CP "deeds"
  nP : NoAttr K CP "plan"
  mgP : mg "Program" = some (.ref CP)
  ca : PySem.W.findIn K (.ref CP) "__class__" = some (some (.builtin "object.__class__"))
  cn : PySem.W.specialIn K (.builtin "object.__class__") "__get__" = some (some (.builtin "getset_descriptor.__get__"))
  ct : PySem.W.takesIn K (.builtin "object.__class__") = some true
  cm : PySem.W.mroIn K CP (.type "object") = some true
  ne : PySem.W.findIn K (.ref CP) "__ne__" = some (some (.builtin "object.__ne__"))
structure PgAt (K : PySem.W.Frag) (C CP : Addr) (H : Hp) (a : Addr) (r : List Dd) : Prop where
  ex : ∃ dx q pl ys, H a = some (.ins CP dx (pf q pl)) ∧ RAt K C H q r ∧ H pl = some (.tup ys) ∧ Paired (PlE K C H) ys (layR r (manyR r) 0)
  dp : deepR r ≤ 8
  mn : manyR r ≤ 4000
theorem PgAt.kt {K : PySem.W.Frag} {C CP : Addr} {H H' : Hp} (k : KT H H') {a : Addr} {r : List Dd} (h : PgAt K C CP H a r) : PgAt K C CP H' a r := by
  obtain ⟨dx, q, pl, ys, h1, h2, h3, h4⟩ := h.ex
  exact ⟨⟨dx, q, pl, ys, k _ _ h1 (fun _ e => nomatch e), h2.kt k, k _ _ h3 (fun _ e => nomatch e), pls_kt k h4⟩, h.dp, h.mn⟩
theorem PgAt.same {K : PySem.W.Frag} {C CP : Addr} {H H' : Hp} (s : Same H H') {a : Addr} {r : List Dd} (h : PgAt K C CP H a r) : PgAt K C CP H' a r := h.kt (KT.of s)
def spPInit (K : PySem.W.Frag) (C CP : Addr) : Sp := fun vs H Q _ => ∃ (p dx q : Addr) (r : List Dd), vs = [.ref p, .ref q] ∧ H p = some (.ins CP dx []) ∧ RAt K C H q r ∧ deepR r ≤ 8 ∧ manyR r ≤ 4000 ∧
  ∀ pl ys H', KB p H H' → H' p = some (.ins CP dx (pf q pl)) → H' pl = some (.tup ys) → RAt K C H' q r → Paired (PlE K C H') ys (layR r (manyR r) 0) → Q .non H'
section
variable {P : Program} {w : World} {K : PySem.W.Frag} {mg : Str → Option Value} {base : Heap} {C CP : Addr}
theorem scPI : FnScope ["self", "deeds", "ends", "plan"] ["self", "deeds"] (defScope sPInit) := ⟨rfl, rfl, rfl, by decide +kernel, rfl, by decide +kernel, by decide +kernel⟩
theorem ok_pinit {f : Addr} {fd : FuncData} (F : Fun K "__init__" "Program.__init__" sPInit f fd) (B : Blt mg) (T : Txt K mg C) (G : FrmC K w mg) (TP : TxtP K mg CP) (DL : Def P w K mg base "look_through" 13 ["row", "floors", "ends"] (spLook K C 9)) (DY : Def P w K mg base "lay_out" 11 ["row", "behind", "ends", "plan"] (spLay K C 9)) : FnOk P w K mg base CX0 14 f fd ["self", "deeds"] (spPInit K C CP) := by
  refine F.ok scPI (fun vs H Q E h => ?_) (fun cdv A outer s H vs Q E hr h => ?_)
  · obtain ⟨p, dx, q, r, rfl, _⟩ := h
    rfl
  · obtain ⟨p, dx, q, r, rfl, hp, hq, hd, hm, k⟩ := h
    have hr11 : Room 11 _ := hr.mono (by decide)
    refine ⟨_, PSs.nox (pss_cons (ps_if (pt_not (pt_val (pe_callB (r := rIsi K) call_isi (by rfl) T.isi PyProof.Rows.boot_isinstance (pa_cons (pv 1) (pa_cons (pe_bltn (v := .ty "tuple") rfl G.mt PyProof.Rows.boot_tuple rfl) pa_nil))))) (pss_one ps_never) pss_nil) (pss_cons (ps_set (i := 2) scPI.nd rfl (Or.inl rfl) (pe_lst pa_nil)) (pss_cons (ps_expr (pe_def DL hr rfl (pa_cons (pv 1) (pa_cons pe_int (pa_cons (pv 2) pa_nil))))) (pss_cons (ps_set (i := 3) scPI.nd rfl (Or.inl rfl) (pe_lst pa_nil)) (pss_cons (ps_expr (pe_def DY hr11 rfl (pa_cons (pv 1) (pa_cons (pe_callB call_len_seq (by rfl) B.len PySem.boot_len (pa_cons (pv 2) pa_nil)) (pa_cons (pv 2) (pa_cons (pv 3) pa_nil)))))) (pss_cons (ps_fld (pv 0) (pv 1) rfl) (pss_one (ps_fld (pv 0) (pe_callTy call_tuple_of (by rfl) G.mt PyProof.Rows.boot_tuple (pa_cons (pv 3) pa_nil)) rfl)))))))), ?_⟩
    have hsl := line4
    obtain ⟨vs, hqv, hvs⟩ := id hq
    refine ⟨_, rfl, _, _, _, _, true, rfl, .ty "tuple", sqt_ty hqv, G.tt, _, rfl, iteF ?_⟩
    refine ⟨Nat.zero_le _, fun e ne => ?_⟩
    have s1 : Same H (upd H e (.lst [])) := Same.new ne
    have he1 : (upd H e (.lst [])) e = some (.lst (numsV [])) := upd_same
    revert s1 he1
    generalize upd H e (.lst []) = H1
    intro s1 he1
    refine ⟨_, rfl, _, rfl, q, e, 0, r, [], rfl, hq.same s1, by omega, by omega, he1, by simpa using hm, fun H2 kb2 he2 => ?_⟩
    rw [List.nil_append] at he2
    have kt2 : KT H1 H2 := kb2.kt he1
    have hep : e ≠ p := fun z => by rw [z, hp] at ne; cases ne
    refine ⟨Nat.zero_le _, fun pn npn => ?_⟩
    have s3 : Same H2 (upd H2 pn (.lst [])) := Same.new npn
    have hpn3 : (upd H2 pn (.lst [])) pn = some (.lst []) := upd_same
    have hpe : e ≠ pn := fun z => by rw [← z, he2] at npn; cases npn
    have hpp : pn ≠ p := fun z => by
      have : H2 p = some (.ins CP dx []) := kb2 _ _ (Ne.symm hep) (s1 _ _ hp)
      rw [z, this] at npn
      cases npn
    revert s3 hpn3
    generalize upd H2 pn (.lst []) = H3
    intro s3 hpn3
    have he3 := s3 _ _ he2
    have hq3 : RAt K C H3 q r := ((hq.same s1).kt kt2).same s3
    refine ⟨_, rfl, _, rfl, e, _, rfl, .inl (SqL.of he3), ?_⟩
    rw [numsV_len, endsR_len]
    refine ⟨_, rfl, _, rfl, q, e, pn, manyR r, r, endsR r 0, [], rfl, hq3, by omega, he3, Pre.whole _, hpn3, hpe, by simpa using hm, fun H4 ys kb4 hp4 hys => ?_⟩
    rw [List.nil_append] at hp4
    have kt4 : KT H3 H4 := kb4.kt hpn3
    have hpz : H4 p = some (.ins CP dx []) := kb4 _ _ (Ne.symm hpp) (s3 _ _ (kb2 _ _ (Ne.symm hep) (s1 _ _ hp)))
    refine ⟨_, rfl, _, rfl, p, CP, dx, [], rfl, hpz, TP.cl, TP.nD, (by show 0 < 1000; decide), ?_⟩
    have hp5 : (upd H4 p (.ins CP dx (putF "deeds" (.ref q) []))) pn = some (.lst ys) := by rw [upd_ne hpp]; exact hp4
    refine ⟨_, rfl, pn, _, rfl, .inl ⟨SqL.of hp5, fun pl npl => ?_⟩⟩
    have hplp : pl ≠ p := fun z => by rw [z, upd_same] at npl; cases npl
    refine ⟨_, rfl, p, CP, dx, _, rfl, by rw [upd_ne (Ne.symm hplp)]; exact upd_same, TP.cl, TP.nP, Nat.lt_of_le_of_lt (length_putF _ _ _) (by show 0 + 1 < 1000; decide), ?_⟩
    have kbz : KB p H4 (upd (upd (upd H4 p (.ins CP dx (putF "deeds" (.ref q) []))) pl (.tup ys)) p (.ins CP dx (pf q pl))) := fun a o na ha => by
      have npl4 : H4 pl = none := by
        rw [upd_ne hplp] at npl
        exact npl
      rw [upd_ne na, upd_ne (ne_of_none ha npl4), upd_ne na]
      exact ha
    have kbH : KB p H H4 := fun a o na ha => by
      have nae : a ≠ e := ne_of_none ha ne
      have h2 := kb2 _ _ nae (s1 _ _ ha)
      have nan : a ≠ pn := ne_of_none h2 npn
      exact kb4 _ _ nan (s3 _ _ h2)
    have fr := Fr.kb hpz kbz
    refine k pl ys _ (kbH.trans kbz) ?_ ?_ ((hq3.kt kt4).fr fr) (pls_fr fr hys)
    · exact upd_same
    · rw [upd_ne hplp, upd_same]
end
structure MakerP (P : Program) (w : World) (K : PySem.W.Frag) (mg : Str → Option Value) (base : Heap) (C CP fI : Addr) (fdI : FuncData) : Prop where
  M : Mk K CP fI
  G : FnOk P w K mg base CX0 14 fI fdI ["self", "deeds"] (spPInit K C CP)
  mgP : mg "Program" = some (.ref CP)
  b : Binds K fdI ["self", "deeds"] []
def tP (K : PySem.W.Frag) (C CP : Addr) (t : TA) : TE := fun σ H Q => t σ H fun vs H1 => ∃ q r, vs = [.ref q] ∧ RAt K C H1 q r ∧ deepR r ≤ 8 ∧ manyR r ≤ 4000 ∧ ∀ z H', Same H1 H' → H1 z = none → PgAt K C CP H' z r → Q (.ref z) H'
theorem mk_pg {K : PySem.W.Frag} {C CP q : Addr} {H : Hp} {r : List Dd} {Q : VK} {E : XK} (hq : RAt K C H q r) (hd : deepR r ≤ 8) (hm : manyR r ≤ 4000) (k : ∀ z H', Same H H' → H z = none → PgAt K C CP H' z r → Q (.ref z) H') :
    ∀ x dx, H x = none → H dx = none → dx ≠ x → spPInit K C CP (.ref x :: ([.ref q] ++ [])) (upd (upd H dx (.own x)) x (.ins CP dx [])) (fun v H3 => v = .non ∧ Q (.ref x) H3) E := by
  intro x dx nx ndx ne
  have s0 : Same H (upd (upd H dx (.own x)) x (.ins CP dx [])) := fun b o e => by
    rw [upd_ne (ne_of_none e nx), upd_ne (ne_of_none e ndx)]
    exact e
  refine ⟨x, dx, q, r, rfl, upd_same, hq.same s0, hd, hm, fun pl ys H' kb h1 h2 h3 h4 => ⟨rfl, k x H' (fun b o e => kb _ _ (ne_of_none e nx) (s0 _ _ e)) nx ⟨⟨dx, q, pl, ys, h1, h3, h2, h4⟩, hd, hm⟩⟩⟩
section
open PyProof.Rows
variable {X : Cx} {C CP fI : Addr} {fdI : FuncData} {p pos : Pos} {e : Expr} {es : List Expr} {t : TA}
theorem pe_P (mk : MakerP X.prog X.w X.K X.mg X.base C CP fI fdI) (hr : Room 15 X.A) (hg : Gl X "Program") (ha : PA X (e :: es) t)
    (he : starEach (e :: es) X.env = (false, eval e X.env) :: starEach es X.env := by rfl) (hpl : (backTo pos (starEach es X.env)).any (·.1) = false := by rfl) : PE X (.Call (.Name "Program" p) (e :: es) [] pos) (tP X.K C CP t) := by
  refine ⟨fun pins s σ H Q I h => ?_⟩
  refine wpAny_Call_Name_kw (ld_glob I hg mk.mgP ?_ (by decide))
  refine PySem.W.callWith_K (h₀ := X.base) I.ok.mod.kin mk.M.kp (thn (ha.run pos pins s σ H _ I h) fun us s1 ⟨vs, H1, I1, r, q⟩ => ⟨I1.kIn, ?_⟩) he hpl
  obtain ⟨q, r', rfl, h1, h2, hz, k⟩ := q
  exact run_make mk.M mk.G hr mk.b .nil pass0 I1 r (mk_pg h1 h2 hz k)
end
end Js
set_option Elab.async false
set_option linter.all false
set_option maxRecDepth 100000
set_option maxHeartbeats 2000000
namespace Js
open PySem L2
def tx (cs : List Nat) : Str := ⟨cs.toArray⟩
theorem tx_list (cs : List Nat) : (tx cs).cps.toList = cs := rfl
theorem tx_len (cs : List Nat) : (tx cs).length = cs.length := by
  show cs.toArray.size = _
  rw [List.size_toArray]
theorem tx_text (t : Tr) : t.text = tx t.codes := rfl
theorem tx_append (a b : List Nat) : tx a ++ tx b = tx (a ++ b) := by
  apply PyProof.Rows.ext_toList
  rw [tx_list]
  show (a.toArray ++ b.toArray).toList = a ++ b
  simp
theorem tx_inj {a b : List Nat} (h : tx a = tx b) : a = b := by rw [← tx_list a, ← tx_list b, h]
def repl (n : Nat) (xs : List Nat) : List Nat := (List.replicate n xs).flatten
theorem repl_succ (n : Nat) (xs : List Nat) : repl (n + 1) xs = xs ++ repl n xs := by simp [repl, List.replicate_succ]
theorem repl_len (n : Nat) (xs : List Nat) : (repl n xs).length = n * xs.length := by
  induction n with
  | zero => simp [repl]
  | succ n ih => rw [repl_succ, List.length_append, ih, Nat.succ_mul]; omega
theorem foldl_repl (xs : Array Nat) : ∀ (n : Nat) (acc : Array Nat), ((List.replicate n xs).foldl (· ++ ·) acc).toList = acc.toList ++ repl n xs.toList
  | 0, acc => by simp [repl]
  | n + 1, acc => by
    rw [List.replicate_succ, List.foldl_cons, foldl_repl xs n, repl_succ]
    simp
theorem mul_tx (cs : List Nat) (n : Nat) : PySem.Txt.mul (tx cs) (n : Nat) = tx (repl n cs) := by
  unfold PySem.Txt.mul
  by_cases h : ((n : Nat) : Int) < 1
  · rw [if_pos h]
    have : n = 0 := by omega
    subst this
    rfl
  · rw [if_neg h]
    by_cases h2 : ((((n : Nat) : Int) == 1 || (tx cs).length == 0) = true)
    · rw [if_pos h2]
      rcases Bool.or_eq_true_iff.mp h2 with h3 | h3
      · have : n = 1 := by
          have := eq_of_beq h3
          omega
        subst this
        simp [repl]
      · have h4 : cs.length = 0 := by
          have := eq_of_beq h3
          rw [tx_len] at this
          exact this
        have h5 : cs = [] := List.length_eq_zero_iff.mp h4
        subst h5
        have : repl n [] = [] := by
          apply List.length_eq_zero_iff.mp
          rw [repl_len]
          simp
        rw [this]
    · rw [if_neg h2]
      apply PyProof.Rows.ext_toList
      rw [tx_list]
      show ((List.replicate ((n : Nat) : Int).toNat cs.toArray).foldl (· ++ ·) #[]).toList = _
      rw [foldl_repl, Int.toNat_natCast]
      simp
theorem mul_ok (x : Str) (n : Nat) (h : x.length * n ≤ 1000000) (hn : n ≤ 1000000) (hx : x.length ≤ 1000000) : PySem.MulOk x (n : Nat) := by
  have hs := sizeLine_eq
  refine ⟨?_, fun h1 h2 => ?_, fun h1 h2 => ?_⟩
  · rw [decide_eq_false (by omega), decide_eq_false (by omega)]
    rfl
  · intro z
    have h3 : (1000000 : Int) ≤ (2 ^ 63 - 1) / (n : Nat) := by
      have hp : (0 : Int) < (n : Nat) := by omega
      rw [Int.le_ediv_iff_mul_le hp]
      omega
    omega
  · unfold PySem.Builtin.Str.tooLong
    rw [Int.toNat_natCast]
    exact decide_eq_false (by omega)
section
variable {X : Cx}
theorem op_mulS : OpR X (binaryOp .Mult) (fun x y H Q => ∃ (cs : List Nat) (n : Nat), x = .str (tx cs) ∧ y = .int (n : Nat) ∧ cs.length * n ≤ 1000000 ∧ n ≤ 1000000 ∧ cs.length ≤ 1000000 ∧ Q (.str (tx (repl n cs))) H) := by
  intro pins s σ H x y v u Q I rx ry h
  obtain ⟨cs, n, rfl, rfl, h1, h2, h3, q⟩ := h
  obtain ⟨t, rfl⟩ := rx
  obtain ⟨t', rfl⟩ := ry
  refine PySem.SB.mul (mul_ok _ n (by rw [tx_len]; exact h1) h2 (by rw [tx_len]; exact h3)) fun tk k => ?_
  rw [mul_tx]
  exact ⟨.str _, H, I.tok k, ⟨tk, rfl⟩, q⟩
theorem op_addX : OpR X (binaryOp .Add) (fun x y H Q => ∃ (a b : List Nat), x = .str (tx a) ∧ y = .str (tx b) ∧ a.length + b.length ≤ 1000000 ∧ Q (.str (tx (a ++ b))) H) :=
  OpR.imp op_add_str fun x y H Q h => by
    obtain ⟨a, b, rfl, rfl, h1, q⟩ := h
    have hs := sizeLine_eq
    exact ⟨_, _, rfl, rfl, by rw [tx_len, tx_len]; omega, by rw [tx_append]; exact q⟩
end
theorem chain_count (x : Str) (c : Nat) (hi : Nat) (hh : hi = x.length) : ∀ (cuts : List Nat) (a f : Nat), PySem.StrLaws.ChainG x ⟨#[c]⟩ hi a cuts f → (∀ k, f ≤ k → ¬ PySem.StrLaws.At x ⟨#[c]⟩ hi k) → cuts.length = (x.cps.toList.drop a).count c
  | [], a, f, h, hn => by
    have e : f = a := h
    subst e
    symm
    rw [List.length_nil, List.count_eq_zero]
    intro hm
    obtain ⟨j, hj⟩ := List.getElem?_of_mem hm
    rw [List.getElem?_drop] at hj
    subst hh
    exact hn (f + j) (by omega) ((PySem.StrLaws.subAt_one x c (f + j)).mpr hj)
  | d :: r, a, f, h, hn => by
    obtain ⟨h1, h2, h3, h4⟩ := h
    have ih := chain_count x c hi hh r (d + 1) f h4 hn
    subst hh
    have hd : x.cps.toList[d]? = some c := (PySem.StrLaws.subAt_one x c d).mp h2
    have hlt := (List.getElem?_eq_some_iff.mp hd).1
    have e1 : x.cps.toList.drop a = (x.cps.toList.drop a).take (d - a) ++ x.cps.toList.drop d := by
      have := List.take_append_drop (d - a) (x.cps.toList.drop a)
      rw [List.drop_drop] at this
      have e : a + (d - a) = d := by omega
      rw [e] at this
      exact this.symm
    have e2 : ((x.cps.toList.drop a).take (d - a)).count c = 0 := by
      rw [List.count_eq_zero]
      intro hm
      obtain ⟨j, hj⟩ := List.getElem?_of_mem hm
      have hj1 : j < d - a := by
        have := (List.getElem?_eq_some_iff.mp hj).1
        rw [List.length_take] at this
        omega
      rw [List.getElem?_take_of_lt hj1, List.getElem?_drop] at hj
      exact h3 (a + j) (by omega) (by omega) ((PySem.StrLaws.subAt_one x c (a + j)).mpr hj)
    have e3 : x.cps.toList.drop d = c :: x.cps.toList.drop (d + 1) := by
      rw [List.drop_eq_getElem_cons hlt, (List.getElem?_eq_some_iff.mp hd).2]
    rw [e1, List.count_append, e2, e3, List.count_cons_self, List.length_cons, ih]
    omega
theorem count_tx (cs : List Nat) (c : Nat) : PySem.Txt.count (tx cs) ⟨#[c]⟩ = ((cs.count c : Nat) : Int) := by
  unfold PySem.Txt.count
  obtain ⟨f, h1, h2⟩ := PySem.StrLaws.occ_tight (tx cs) ⟨#[c]⟩ (by show 1 ≤ 1; decide)
  rw [chain_count (tx cs) c _ rfl _ 0 f h1 h2, List.drop_zero, tx_list]
theorem count_codes : ∀ t : Tr, t.codes.count 40 = t.size
  | .nil => by decide
  | .pr l r => by
    simp only [Tr.codes, Tr.size, List.count_cons, List.count_append, count_codes l, count_codes r]
    simp
    omega
theorem cut_tx (cs : List Nat) (i j : Nat) (h : i ≤ j) (hj : j ≤ cs.length) : cutS (tx cs) (some (i : Nat)) (some (j : Nat)) = tx ((cs.drop i).take (j - i)) := by
  unfold cutS
  have e1 : min i cs.length = i := Nat.min_eq_left (by omega)
  rw [HT.sIx_nat, HT.sIx_nat, tx_len, tx_list, e1, Nat.min_eq_left hj]
  rfl
theorem cut_neg (cs : List Nat) (i j : Nat) (h : i + j ≤ cs.length) (h0 : 0 < j) : cutS (tx cs) (some (i : Nat)) (some (-(j : Nat) : Int)) = tx ((cs.drop i).take (cs.length - j - i)) := by
  unfold cutS
  have e : HT.sIx (tx cs).length (tx cs).length (some (-((j : Nat) : Int))) = cs.length - j := by
    rw [tx_len]
    show (if (-((j : Nat) : Int)) < 0 then _ else _) = _
    rw [if_pos (by omega)]
    omega
  rw [HT.sIx_nat, e, tx_len, tx_list, Nat.min_eq_left (by omega)]
  rfl
def dp1 (c : Nat) : Int := if c = 40 then 1 else if c = 41 then -1 else 0
def dep (cs : List Nat) : Int := (cs.map dp1).sum
theorem dp40 : dp1 40 = 1 := rfl
theorem dep_nil : dep [] = 0 := rfl
theorem dep_cons (c : Nat) (cs : List Nat) : dep (c :: cs) = dp1 c + dep cs := by simp [dep]
theorem dep_append (a b : List Nat) : dep (a ++ b) = dep a + dep b := by simp [dep]
theorem dep_codes : ∀ t : Tr, dep t.codes = 0
  | .nil => rfl
  | .pr l r => by
    simp only [Tr.codes, dep_cons, dep_append, dep_codes l, dep_codes r, dep_nil]
    decide
theorem dep_take_append (a b : List Nat) (j : Nat) : dep ((a ++ b).take j) = if j ≤ a.length then dep (a.take j) else dep a + dep (b.take (j - a.length)) := by
  by_cases h : j ≤ a.length
  · rw [if_pos h, List.take_append_of_le_length h]
  · rw [if_neg h, List.take_append, List.take_of_length_le (by omega), dep_append]
theorem dep_nn : ∀ (t : Tr) (j : Nat), 0 ≤ dep (t.codes.take j)
  | .nil, 0 => by decide
  | .nil, j + 1 => by simp [Tr.codes, dep]; decide
  | .pr l r, 0 => by simp [dep]
  | .pr l r, j + 1 => by
    have hl := dep_nn l
    have hr := dep_nn r
    simp only [Tr.codes, List.take_succ_cons, dep_cons]
    rw [dep_take_append]
    split
    · have := hl j
      simp only [dp1]
      omega
    · rw [dep_take_append, dep_codes l]
      split
      · have := hr (j - l.codes.length)
        simp only [dp1]
        omega
      · rw [dep_codes r]
        match j - l.codes.length - r.codes.length with
        | 0 => simp [dep, dp1]
        | n + 1 => simp [dep, dp1]
theorem dep_pos (t : Tr) (j : Nat) (h0 : 0 < j) (h1 : j < t.codes.length) : 0 < dep (t.codes.take j) := by
  cases t with
  | nil => simp [Tr.codes] at h1; omega
  | pr l r =>
    obtain ⟨j, rfl⟩ : ∃ i, j = i + 1 := ⟨j - 1, by omega⟩
    have hl := dep_nn l
    have hr := dep_nn r
    simp only [Tr.codes, List.length_cons, List.length_append, List.length_nil] at h1
    simp only [Tr.codes, List.take_succ_cons, dep_cons]
    rw [dep_take_append]
    split
    · have := hl j
      rw [dp40]
      omega
    · rw [dep_take_append, dep_codes l]
      split
      · have := hr (j - l.codes.length)
        rw [dp40]
        omega
      · omega
theorem codes_sign : ∀ (t : Tr) (c : Nat), c ∈ t.codes → c = 46 ∨ c = 40 ∨ c = 41
  | .nil, c, h => by simp [Tr.codes] at h; exact .inl h
  | .pr l r, c, h => by
    simp only [Tr.codes, List.mem_cons, List.mem_append, List.not_mem_nil, or_false] at h
    rcases h with h | h | h | h
    · exact .inr (.inl h)
    · exact codes_sign l c h
    · exact codes_sign r c h
    · exact .inr (.inr h)
theorem dot_eq : ((("." : Str))) = Tr.nil.text := by decide +kernel
theorem pr_not_dot (l r : Tr) : decide (V.str (Tr.pr l r).text = V.str ".") = false := by
  rw [dot_eq]
  exact decide_eq_false fun z => Tr.noConfusion (Tr.text_inj (V.str.inj z))
theorem nil_dot : decide (V.str Tr.nil.text = V.str ".") = true := by
  rw [dot_eq]
  simp
end Js
set_option Elab.async false
set_option linter.all false
set_option maxRecDepth 100000
set_option maxHeartbeats 2000000
namespace Js
open PySem L2
theorem cn (s : Str) (cs : List Nat) (h : s.cps = cs.toArray) : PySem.Txt.count s "n" = ((cs.count 110 : Nat) : Int) := by
  rw [show s = tx cs from by cases s; simp only [tx]; exact congrArg _ h, c_n, count_tx]
end Js
set_option Elab.async false
set_option linter.all false
set_option maxRecDepth 100000
set_option maxHeartbeats 2000000
namespace Js
open PySem L2
def strV (xs : List Str) : List V := xs.map V.str
end Js
set_option Elab.async false
set_option linter.all false
set_option maxRecDepth 100000
set_option maxHeartbeats 2000000
namespace Js
open PySem L2
open PySem.Spec PyProof.Rows
abbrev sPartC : Stmt := top 39
abbrev sDeedC : Stmt := top 38
abbrev sRowC : Stmt := top 37
abbrev sCodeOf : Stmt := top 36
mutual
def Dd.code : Dd → Tr
  | .told a t => rowT [num 0, num a, t]
  | .take s a b => rowT [num (if s then 2 else 1), num a, num b]
  | .two s a b c => rowT [num (if s then 4 else 3), num a, num b, num c]
  | .wh a r => rowT [num 5, num a, codeR r]
  | .iff a r o => rowT [num 6, num a, codeR r, codeR o]
def codeR : List Dd → Tr
  | [] => .nil
  | d :: r => .pr d.code (codeR r)
end
def Dd.kix : Dd → Nat
  | .told _ _ => 0
  | .take s _ _ => if s then 2 else 1
  | .two s _ _ _ => if s then 4 else 3
  | .wh _ _ => 5
  | .iff _ _ _ => 6
def Dd.prts : Dd → List Tr
  | .told a t => [num a, t]
  | .take _ a b => [num a, num b]
  | .two _ a b c => [num a, num b, num c]
  | .wh a r => [num a, codeR r]
  | .iff a r o => [num a, codeR r, codeR o]
theorem code_parts : ∀ d : Dd, d.code = rowT (num d.kix :: d.prts)
  | .told _ _ => by rw [Dd.code]; rfl
  | .take _ _ _ => by rw [Dd.code]; rfl
  | .two _ _ _ _ => by rw [Dd.code]; rfl
  | .wh _ _ => by rw [Dd.code]; rfl
  | .iff _ _ _ => by rw [Dd.code]; rfl
theorem codeR_row : ∀ r : List Dd, codeR r = rowT (r.map Dd.code)
  | [] => by rw [codeR]; rfl
  | d :: r => by rw [codeR, codeR_row r]; rfl
theorem rowT_size_mem : ∀ (ts : List Tr) (t : Tr), t ∈ ts → t.size ≤ (rowT ts).size
  | [], _, h => by cases h
  | x :: ts, t, h => by
    have e : (rowT (x :: ts)).size = 1 + x.size + (rowT ts).size := rfl
    rcases List.mem_cons.mp h with rfl | h
    · omega
    · have := rowT_size_mem ts t h
      omega
theorem rowT_len : ∀ ts : List Tr, ts.length ≤ (rowT ts).size
  | [] => Nat.zero_le _
  | x :: ts => by
    have e : (rowT (x :: ts)).size = 1 + x.size + (rowT ts).size := rfl
    have := rowT_len ts
    rw [List.length_cons]
    omega
def formKs : List Str := [("told" : Str), ("first" : Str), ("second" : Str), ("pair" : Str), ("same" : Str), ("while" : Str), ("if" : Str)]
structure FoK (K : PySem.W.Frag) (w : World) (mg : Str → Option Value) : Prop where
  ex : ∃ dF es n, mg "FORMS" = some (.ref dF) ∧ KDict K w dF es n ∧ (∀ kf ∈ forms, ∃ t, PySem.W.nsIn K dF kf.1 = some (some (.str kf.2 t))) ∧ es.size = 7 ∧ ∀ (i : Nat) (h : i < es.size), ∃ z t, formKs[i]? = some z ∧ es[i].key = Value.str z t
def KyL : List Str → List DictEntry → Prop
  | [], [] => True
  | z :: zs, e :: es => (∃ t, e.key = Value.str z t) ∧ KyL zs es
  | _, _ => False
theorem KyL.at : ∀ {zs : List Str} {es : List DictEntry}, KyL zs es → es.length = zs.length ∧ ∀ (i : Nat) (h : i < es.length), ∃ z t, zs[i]? = some z ∧ es[i].key = Value.str z t
  | [], [], _ => ⟨rfl, fun i h => absurd h (Nat.not_lt_zero _)⟩
  | z :: zs, e :: es, h => by
    obtain ⟨h1, h2⟩ := KyL.at h.2
    refine ⟨by rw [List.length_cons, List.length_cons, h1], fun i hi => ?_⟩
    cases i with
    | zero =>
      obtain ⟨t, ht⟩ := h.1
      exact ⟨z, t, rfl, ht⟩
    | succ i => exact h2 i (by simpa using hi)
  | [], _ :: _, h => h.elim
  | _ :: _, [], h => h.elim
theorem FoK.of {K : PySem.W.Frag} {w : World} {mg : Str → Option Value} {dF : Addr} {es : Array DictEntry} {n : Nat} (mF : mg "FORMS" = some (.ref dF)) (D : KDict K w dF es n) (hf : ∀ kf ∈ forms, ∃ t, PySem.W.nsIn K dF kf.1 = some (some (.str kf.2 t))) (hk : KyL formKs es.toList) : FoK K w mg := by
  obtain ⟨h1, h2⟩ := hk.at
  have h7 : es.size = 7 := by rw [← Array.length_toList, h1]; rfl
  refine ⟨dF, es, n, mF, D, hf, h7, fun i hi => ?_⟩
  obtain ⟨z, t, e1, e2⟩ := h2 i (by simpa using hi)
  exact ⟨z, t, e1, by simpa using e2⟩
theorem call_listKD {X : Cx} {d : Addr} {es : Array DictEntry} {n : Nat} (hc : X.calm = true) (D : KDict X.K X.w d es n ∧ es.size = 7 ∧ ∀ (i : Nat) (h : i < es.size), ∃ z t, formKs[i]? = some z ∧ es[i].key = Value.str z t) : CallR X (.type "list") (fun xs H Q => xs = [.ref d] ∧ ∀ p, H p = none → Q (.ref p) (upd H p (.lst (strV formKs)))) := by
  obtain ⟨D, h7, hks⟩ := D
  intro pins s σ H xs us Q I r h
  obtain ⟨rfl, q⟩ := h
  obtain ⟨u, rfl, rx⟩ := vals1 r
  cases rx
  have hraw : s.heap.DictRaw d es n := ⟨_, I.kIn _ _ D.at_, ⟨rfl, rfl, rfl⟩, rfl⟩
  refine PySem.W.kdl_call (KdlSrc.rawDict (prog := X.prog) (w := X.w) D.low) (I.ok.hd hc) hraw (by rw [h7, sizeLine_eq]; decide) fun h' tk acc c' hk hD hacc => ?_
  have hl : acc.toList.length = 7 := by rw [Array.length_toList, hacc.1, h7]
  have hv : Vals (strV formKs) acc.toList := by
    have pt : ∀ (xs : List V) (ys : List Value), xs.length = ys.length → (∀ (j : Nat) x y, xs[j]? = some x → ys[j]? = some y → RelV x y) → Vals xs ys := by
      intro xs
      induction xs with
      | nil =>
        intro ys h _
        cases ys with
        | nil => exact .nil
        | cons _ _ => cases h
      | cons x xs ih =>
        intro ys h k
        cases ys with
        | nil => cases h
        | cons y ys => exact .cons (k 0 x y rfl rfl) (ih ys (by simpa using h) fun j a b e1 e2 => k (j + 1) a b e1 e2)
    refine pt _ _ (by rw [hl]; rfl) fun j a b e1 e2 => ?_
    obtain ⟨hi, e3⟩ := hacc.2 j b (by simpa using e2)
    obtain ⟨z, t, hz, e4⟩ := hks j hi
    rw [strV, List.getElem?_map, hz] at e1
    cases Option.some.inj e1
    exact ⟨t, e3.trans e4⟩
  exact ⟨.ref s.heap.objs.size, _, I.laid (t' := tk) hk (Nat.le_refl _) (show ObjOk X.prog X.w _ h' _ (.lst (strV formKs)) from ⟨by rw [sizeLine_eq]; decide, acc.toList, c', hv, by simpa using hD⟩), rfl, q _ (I.hok.fresh (Nat.le_refl _))⟩
theorem kix_at (d : Dd) : (strV formKs)[d.kix]? = some (.str (kindOf d)) ∧ ∀ (m : Nat) (z : V), m < d.kix → (strV formKs)[m]? = some z → eqV z (.str (kindOf d)) = false := by
  have hne : ∀ k : Fin 7, ∀ m : Fin 7, m.1 < k.1 → formKs[m.1]? ≠ formKs[k.1]? := by decide +kernel
  have gen : ∀ (k : Nat) (x : Str), k < 7 → formKs[k]? = some x → (strV formKs)[k]? = some (.str x) ∧ ∀ (m : Nat) (z : V), m < k → (strV formKs)[m]? = some z → eqV z (.str x) = false := by
    intro k x hk hx
    refine ⟨by rw [strV, List.getElem?_map, hx]; rfl, fun m z hm hz => ?_⟩
    rw [strV, List.getElem?_map] at hz
    obtain ⟨y, hy, rfl⟩ := Option.map_eq_some_iff.mp hz
    have hyx : y ≠ x := fun e => hne ⟨k, hk⟩ ⟨m, by omega⟩ hm (by rw [e] at hy; exact hy.trans hx.symm)
    simp [eqV, hyx]
  cases d with
  | told a t => exact gen 0 _ (by decide) rfl
  | take s a b => cases s with
    | false => exact gen 1 _ (by decide) rfl
    | true => exact gen 2 _ (by decide) rfl
  | two s a b c => cases s with
    | false => exact gen 3 _ (by decide) rfl
    | true => exact gen 4 _ (by decide) rfl
  | wh a r => exact gen 5 _ (by decide) rfl
  | iff a r o => exact gen 6 _ (by decide) rfl
theorem strV_flat' (xs : List Str) : (strV xs).all flatV = true := by
  rw [List.all_eq_true]
  intro v hv
  obtain ⟨x, _, rfl⟩ := List.mem_map.mp hv
  rfl
theorem kix_le (d : Dd) : d.kix ≤ 6 := by
  cases d with
  | told a t => exact Nat.zero_le _
  | take s a b => cases s <;> simp [Dd.kix]
  | two s a b c => cases s <;> simp [Dd.kix]
  | wh a r => simp [Dd.kix]
  | iff a r o => simp [Dd.kix]
def PtV (K : PySem.W.Frag) (C : Addr) (H : Hp) (n : Nat) (x : V) (c : Nat) (t : Tr) : Prop := (c = 110 ∧ ∃ a : Nat, a < 10 ∧ x = .int ((a : Nat) : Int) ∧ t = num a) ∨ (c = 116 ∧ ∃ y, x = .ref y ∧ Th C H y t) ∨ (c = 114 ∧ ∃ q r, x = .ref q ∧ RAt K C H q r ∧ deepR r < n ∧ t = codeR r)
theorem PtV.same {K : PySem.W.Frag} {C : Addr} {H H' : Hp} {n : Nat} {x : V} {c : Nat} {t : Tr} (s : Same H H') (h : PtV K C H n x c t) : PtV K C H' n x c t := by
  rcases h with h | ⟨e, y, e1, h⟩ | ⟨e, q, r, e1, h, h2⟩
  · exact .inl h
  · exact .inr (.inl ⟨e, y, e1, h.same s⟩)
  · exact .inr (.inr ⟨e, q, r, e1, h.same s, h2⟩)
theorem deed_parts {K : PySem.W.Frag} {C : Addr} {H : Hp} {v : V} {n : Nat} : ∀ (d : Dd), DAt K C H v d → d.deep < n + 1 → ∃ p its, v = .ref p ∧ SqT K H p (.str (kindOf d) :: its) ∧ its.length = (formOf d).cps.size ∧ d.prts.length = its.length ∧ its ≠ [] ∧ its.length ≤ 3 ∧ ∀ (i : Nat) x c, its[i]? = some x → (formOf d).cps[i]? = some c → ∃ t, d.prts[i]? = some t ∧ PtV K C H n x c t
  | .told a t, h, hn => by
    obtain ⟨p, x, e, h1, h2, h3, h4⟩ := h
    refine ⟨p, _, e, h1, by rw [formOf, cps_nt]; rfl, rfl, by simp, by simp, fun i y c g1 g2 => ?_⟩
    rw [formOf, cps_nt] at g2
    match i, g1, g2 with
    | 0, g1, g2 => cases Option.some.inj g1; cases Option.some.inj g2; exact ⟨_, rfl, .inl ⟨rfl, a, h2, rfl, rfl⟩⟩
    | 1, g1, g2 => cases Option.some.inj g1; cases Option.some.inj g2; exact ⟨_, rfl, .inr (.inl ⟨rfl, x, rfl, h3⟩)⟩
    | i + 2, g1, g2 => simp at g1
  | .take s a b, h, hn => by
    obtain ⟨p, e, h1, h2, h3⟩ := h
    refine ⟨p, _, e, h1, by rw [formOf, cps_nn]; rfl, rfl, by simp, by simp, fun i y c g1 g2 => ?_⟩
    rw [formOf, cps_nn] at g2
    match i, g1, g2 with
    | 0, g1, g2 => cases Option.some.inj g1; cases Option.some.inj g2; exact ⟨_, rfl, .inl ⟨rfl, a, h2, rfl, rfl⟩⟩
    | 1, g1, g2 => cases Option.some.inj g1; cases Option.some.inj g2; exact ⟨_, rfl, .inl ⟨rfl, b, h3, rfl, rfl⟩⟩
    | i + 2, g1, g2 => simp at g1
  | .two s a b c0, h, hn => by
    obtain ⟨p, e, h1, h2, h3, h4⟩ := h
    refine ⟨p, _, e, h1, by rw [formOf, cps_nnn]; rfl, rfl, by simp, by simp, fun i y c g1 g2 => ?_⟩
    rw [formOf, cps_nnn] at g2
    match i, g1, g2 with
    | 0, g1, g2 => cases Option.some.inj g1; cases Option.some.inj g2; exact ⟨_, rfl, .inl ⟨rfl, a, h2, rfl, rfl⟩⟩
    | 1, g1, g2 => cases Option.some.inj g1; cases Option.some.inj g2; exact ⟨_, rfl, .inl ⟨rfl, b, h3, rfl, rfl⟩⟩
    | 2, g1, g2 => cases Option.some.inj g1; cases Option.some.inj g2; exact ⟨_, rfl, .inl ⟨rfl, c0, h4, rfl, rfl⟩⟩
    | i + 3, g1, g2 => simp at g1
  | .wh a r, h, hn => by
    obtain ⟨p, q, vs, e, h1, h2, h3, h4⟩ := h
    rw [Dd.deep] at hn
    refine ⟨p, _, e, h1, by rw [formOf, cps_nr]; rfl, rfl, by simp, by simp, fun i y c g1 g2 => ?_⟩
    rw [formOf, cps_nr] at g2
    match i, g1, g2 with
    | 0, g1, g2 => cases Option.some.inj g1; cases Option.some.inj g2; exact ⟨_, rfl, .inl ⟨rfl, a, h2, rfl, rfl⟩⟩
    | 1, g1, g2 => cases Option.some.inj g1; cases Option.some.inj g2; exact ⟨_, rfl, .inr (.inr ⟨rfl, q, r, rfl, ⟨vs, h3, h4⟩, by omega, rfl⟩)⟩
    | i + 2, g1, g2 => simp at g1
  | .iff a r o, h, hn => by
    obtain ⟨p, q, vs, q2, vs2, e, h1, h2, h3, h4, h5, h6⟩ := h
    rw [Dd.deep] at hn
    refine ⟨p, _, e, h1, by rw [formOf, cps_nrr]; rfl, rfl, by simp, by simp, fun i y c g1 g2 => ?_⟩
    rw [formOf, cps_nrr] at g2
    match i, g1, g2 with
    | 0, g1, g2 => cases Option.some.inj g1; cases Option.some.inj g2; exact ⟨_, rfl, .inl ⟨rfl, a, h2, rfl, rfl⟩⟩
    | 1, g1, g2 => cases Option.some.inj g1; cases Option.some.inj g2; exact ⟨_, rfl, .inr (.inr ⟨rfl, q, r, rfl, ⟨vs, h3, h4⟩, by omega, rfl⟩)⟩
    | 2, g1, g2 => cases Option.some.inj g1; cases Option.some.inj g2; exact ⟨_, rfl, .inr (.inr ⟨rfl, q2, o, rfl, ⟨vs2, h5, h6⟩, by omega, rfl⟩)⟩
    | i + 3, g1, g2 => simp at g1
def spPartC (K : PySem.W.Frag) (C : Addr) (n : Nat) : Sp := fun vs H Q _ => ∃ x c t, vs = [x, .str ⟨#[c]⟩] ∧ PtV K C H n x c t ∧ t.size ≤ 4000 ∧ ∀ a H', Same H H' → Th C H' a t → Q (.ref a) H'
def spDeedC (K : PySem.W.Frag) (C : Addr) (n : Nat) : Sp := fun vs H Q _ => ∃ v d, vs = [v] ∧ DAt K C H v d ∧ d.deep < n ∧ d.code.size ≤ 4000 ∧ ∀ a H', Same H H' → Th C H' a d.code → Q (.ref a) H'
def spRowC (K : PySem.W.Frag) (C : Addr) (n : Nat) : Sp := fun vs H Q _ => ∃ q r, vs = [.ref q] ∧ RAt K C H q r ∧ deepR r < n ∧ (codeR r).size ≤ 4000 ∧ ∀ a H', Same H H' → Th C H' a (codeR r) → Q (.ref a) H'
def spCodeOf (K : PySem.W.Frag) (C CP : Addr) : Sp := fun vs H Q _ => ∃ a r, vs = [.ref a] ∧ PgAt K C CP H a r ∧ (codeR r).size ≤ 4000 ∧ ∀ x H', Same H H' → Th C H' x (codeR r) → Q (.ref x) H'
theorem s_n : (⟨#[110]⟩ : Str) = ("n" : Str) := by decide +kernel
theorem s_t : (⟨#[116]⟩ : Str) = ("t" : Str) := by decide +kernel
theorem s_r : (⟨#[114]⟩ : Str) = ("r" : Str) := by decide +kernel
section
variable {P : Program} {w : World} {K : PySem.W.Frag} {mg : Str → Option Value} {base : Heap} {C CP fI fP : Addr} {fdI fdP : FuncData}
theorem scPa : FnScope ["part", "sign"] ["part", "sign"] (defScope sPartC) := ⟨rfl, rfl, rfl, by decide +kernel, rfl, by decide +kernel, by decide +kernel⟩
theorem scDc : FnScope ["deed", "kind", "told", "part", "sign"] ["deed"] (defScope sDeedC) := ⟨rfl, rfl, rfl, by decide +kernel, rfl, by decide +kernel, by decide +kernel⟩
theorem scRc : FnScope ["deeds", "deed"] ["deeds"] (defScope sRowC) := ⟨rfl, rfl, rfl, by decide +kernel, rfl, by decide +kernel, by decide +kernel⟩
theorem scCo : FnScope ["program"] ["program"] (defScope sCodeOf) := ⟨rfl, rfl, rfl, by decide +kernel, rfl, by decide +kernel, by decide +kernel⟩
theorem ok_partC {f fR : Addr} {fd fdR : FuncData} {n : Nat} (F : Fun K "part_code" "part_code" sPartC f fd) (DNu : Def P w K mg base "number" 4 ["n"] (spNumber C)) (GR : FnOk P w K mg base CX0 (3 * n + 5) fR fdR ["deeds"] (spRowC K C n)) (mgr : mg "row_code" = some (.ref fR)) (kr : PySem.W.keepIn K (.ref fR) = true) (br : Binds K fdR ["deeds"] []) : FnOk P w K mg base CX0 (3 * n + 6) f fd ["part", "sign"] (spPartC K C n) := by
  refine F.ok scPa (fun vs H Q E h => ?_) (fun cdv A outer s H vs Q E hr h => ?_)
  · obtain ⟨x, c, t, rfl, _⟩ := h
    rfl
  · obtain ⟨x, c, t, rfl, hp, hz, k⟩ := h
    have hr4 : Room 4 _ := hr.mono (by omega)
    refine ⟨_, pss_cons (ps_if (pt_cmpR op_eq (pv 1) pe_str (nomark _)) (pss_one (ps_ret (pe_def DNu hr4 rfl (pa_cons (pv 0) pa_nil)))) pss_nil) (pss_cons (ps_if (pt_cmpR op_eq (pv 1) pe_str (nomark _)) (pss_one (ps_ret (pv 0))) pss_nil) (pss_one (ps_ret (pe_call GR hr rfl mgr kr br .nil pass0 (pa_cons (pv 0) pa_nil))))), ?_⟩
    rcases hp with ⟨rfl, a, ha, rfl, rfl⟩ | ⟨rfl, y, rfl, hy⟩ | ⟨rfl, q, r, rfl, hq, hd, rfl⟩
    · refine ⟨_, rfl, rfl, _, rfl, ?_⟩
      rw [s_n, decide_eq_true rfl]
      exact iteT ⟨_, rfl, a, rfl, by omega, fun y H1 s1 hy => k y H1 s1 hy⟩
    · refine ⟨_, rfl, rfl, _, rfl, ?_⟩
      rw [s_t, show decide (V.str ("t" : Str) = V.str ("n" : Str)) = false by decide +kernel]
      refine iteF ⟨_, rfl, rfl, _, rfl, ?_⟩
      rw [decide_eq_true rfl]
      exact iteT ⟨_, rfl, k y H (Same.refl H) hy⟩
    · refine ⟨_, rfl, rfl, _, rfl, ?_⟩
      rw [s_r, show decide (V.str ("r" : Str) = V.str ("n" : Str)) = false by decide +kernel]
      refine iteF ⟨_, rfl, rfl, _, rfl, ?_⟩
      rw [show decide (V.str ("r" : Str) = V.str ("t" : Str)) = false by decide +kernel]
      exact iteF ⟨_, rfl, q, r, rfl, hq, hd, hz, k⟩
theorem ok_deedC {f fP' : Addr} {fd fdP' : FuncData} {n : Nat} (F : Fun K "deed_code" "deed_code" sDeedC f fd) (ml : mg "list" = none) (G : FrmC K w mg) (Fo : FoK K w mg) (DNu : Def P w K mg base "number" 4 ["n"] (spNumber C)) (DRo : Def P w K mg base "row" 4 ["things"] (spRow C)) (GP : FnOk P w K mg base CX0 (3 * n + 6) fP' fdP' ["part", "sign"] (spPartC K C n)) (mgp : mg "part_code" = some (.ref fP')) (kp : PySem.W.keepIn K (.ref fP') = true) (bp : Binds K fdP' ["part", "sign"] []) : FnOk P w K mg base CX0 (3 * n + 7) f fd ["deed"] (spDeedC K C (n + 1)) := by
  obtain ⟨dF, es, nF, mF, kdd, hk, h7, hks⟩ := Fo.ex
  have kdF := (⟨kdd, h7, hks⟩ : KDict K w dF es nF ∧ es.size = 7 ∧ ∀ (i : Nat) (h : i < es.size), ∃ z t, formKs[i]? = some z ∧ es[i].key = Value.str z t)
  refine F.ok scDc (fun vs H Q E h => ?_) (fun cdv A outer s H vs Q E hr h => ?_)
  · obtain ⟨v, d, rfl, _⟩ := h
    rfl
  · obtain ⟨v, d, rfl, hd, hdp, hz, k⟩ := h
    have hr4 : Room 4 _ := hr.mono (by omega)
    have hr0 : Room (3 * n + 6) _ := hr
    refine ⟨_, pss_cons (ps_set (i := 1) scDc.nd rfl (Or.inl rfl) (pe_ix (r := rIxT K) ix_tup (pv 0) pe_int (fun _ _ => rfl))) (pss_cons (ps_set (i := 2) scDc.nd rfl (Or.inl rfl) (pe_lst (pa_cons (pe_def DNu hr4 rfl (pa_cons (pe_bm PySem.F.plainAttrs_list PySem.F.slot_list_index PySem.F.type_list_index mt_index (pe_callTy (call_listKD rfl kdF) (by rfl) ml PyProof.Rows.boot_list (pa_cons (pe_glob (v := .ref dF) rfl mF rfl) pa_nil)) (pa_cons (pv 1) pa_nil)) pa_nil)) pa_nil))) (pss_cons (ps_for PassesOwn.never rfl (pi_zipTS rfl G.mz (pa_cons (pe_slice sl_tup (pv 0) (po_some pe_int) po_none) (pa_cons (pe_ix (r := rIxD K w) ix_kdict (pe_glob (v := .ref dF) rfl mF rfl) (pv 1) (fun _ _ => rfl)) pa_nil))) (pg_tup rfl (pgs_cons (pg_name (i := 3) scDc.nd rfl (Or.inl rfl)) (pgs_cons (pg_name (i := 4) scDc.nd rfl (Or.inl rfl)) pgs_nil))) (pss_one (ps_expr (pe_bm PySem.F.plainAttrs_list PySem.F.slot_list_append PySem.F.type_list_append mt_append (pv 2) (pa_cons (pe_call GP hr0 rfl mgp kp bp .nil pass0 (pa_cons (pv 3) (pa_cons (pv 4) pa_nil))) pa_nil))))) (pss_one (ps_ret (pe_def DRo hr4 rfl (pa_cons (pv 2) pa_nil)))))), ?_⟩
    have hsl := sizeLine_eq
    obtain ⟨p, its, rfl, hp, hl, hpl, hne, hl3, hall⟩ := deed_parts d hd hdp
    rw [code_parts] at hz k
    have hki := kix_le d
    obtain ⟨hk1, hk2⟩ := kix_at d
    obtain ⟨tk, hkf⟩ := hk _ (form_in d)
    refine ⟨_, rfl, p, _, 0, _, rfl, rfl, hp, at0 _ _, ?_⟩
    refine ⟨rfl, fun l nl => ?_⟩
    have sl := Same.new nl (o := .lst (strV formKs))
    have el : (upd H l (.lst (strV formKs))) l = some (.lst (strV formKs)) := upd_same
    revert sl el
    generalize upd H l (.lst (strV formKs)) = H1
    intro sl el
    refine ⟨.inl ⟨rfl, _, SqL.of el⟩, _, rfl, l, _, _, d.kix, _, rfl, rfl, SqL.of el, rfl, strV_flat' _, hk1, by simp [eqV], hk2, d.kix, rfl, by omega, fun a H2 s2 ha => ⟨by show 1 ≤ sizeLine; decide, fun L nL => ?_⟩⟩
    have sL := Same.new nL (o := .lst [V.ref a])
    have eL : (upd H2 L (.lst [V.ref a])) L = some (.lst [V.ref a]) := upd_same
    have s02 := sl.trans s2
    have nLH : H L = none := s02.free nL
    revert sL eL
    generalize upd H2 L (.lst [V.ref a]) = H3
    intro sL eL
    have s03 := s02.trans sL
    refine ⟨_, rfl, _, rfl, p, _, rfl, sqt_kt (KT.of s03) hp, ?_, fun q nq => ?_⟩
    · rintro ⟨h0, _⟩
      have e : HT.sIx (its.length + 1) 0 (some 1) = 1 := by
        show min 1 (its.length + 1) = 1
        omega
      rw [List.length_cons, e] at h0
      cases h0
    rw [cut1]
    have sq := Same.new nq (o := .tup its)
    have eq : (upd H3 q (.tup its)) q = some (.tup its) := upd_same
    revert sq eq
    generalize upd H3 q (.tup its) = H4
    intro sq eq
    have s04 := s03.trans sq
    refine ⟨_, rfl, dF, _, .str (formOf d), rfl, rfl, ⟨es, nF, _, kdd.at_, kdd.lit, hkf, ⟨_, rfl⟩⟩, q, _, its, rfl, SqT.of eq, for_it (n := its.length) (walk_zipTS (K := K) (a := q) (t := formOf d) (xs := its) (by rw [← hl, Nat.min_self])) (fun i σ H' => ∃ (x3 x4 : Option V) (us : List V), σ = [some (.ref p), some (.str (kindOf d)), some (.ref L), x3, x4] ∧ Same H H' ∧ SqT K H' q its ∧ H' L = some (.lst us) ∧ Paired (ThV C H') us (num d.kix :: d.prts.take i)) ⟨none, none, _, rfl, s04, SqT.of eq, sq _ _ eL, .cons ⟨a, rfl, ha.same (sL.trans sq)⟩ (by rw [List.take_zero]; exact .nil)⟩ (fun i σ H' _ z => ?_) ?_ ?_⟩
    · obtain ⟨_, _, _, _, _, hq', _⟩ := z
      exact hq'
    · rintro i y σ H5 H6 hi ⟨x3, x4, us, rfl, s5, hq5, hL5, hus⟩ ⟨T, x, c, rfl, nT, rfl, hx, hc⟩
      have sT := Same.new nT (o := .tup [x, .str ⟨#[c]⟩])
      have eT : (upd H5 T (.tup [x, .str ⟨#[c]⟩])) T = some (.tup [x, .str ⟨#[c]⟩]) := upd_same
      revert sT eT
      generalize upd H5 T (.tup [x, .str ⟨#[c]⟩]) = H6
      intro sT eT
      obtain ⟨t, ht, hpt⟩ := hall i x c hx hc
      have htz := rowT_size_mem (num d.kix :: d.prts) t (List.mem_cons_of_mem _ (List.mem_of_getElem? ht))
      refine ⟨T, _, rfl, SqT.of eT, rfl, _, _, rfl, _, _, rfl, rfl, ?_⟩
      refine ⟨_, rfl, .inl ⟨rfl, _, SqL.of (sT _ _ hL5)⟩, _, rfl, _, rfl, x, c, t, rfl, hpt.same (s5.trans sT), by omega, fun b H7 s7 hb => ?_⟩
      have hL7 := s7 _ _ (sT _ _ hL5)
      have hul := Paired.length hus
      rw [List.length_cons, List.length_take] at hul
      refine ⟨L, _, _, rfl, rfl, hL7, by omega, ?_⟩
      have kt : KT H7 (upd H7 L (.lst (us ++ [V.ref b]))) := KT.lst hL7
      refine ⟨_, _, us ++ [V.ref b], rfl, fun z o' hz' => ?_, sqt_kt kt (sqt_kt (KT.of (sT.trans s7)) hq5), upd_same, ?_⟩
      · rw [upd_ne (ne_of_none hz' nLH)]
        exact s7 _ _ (sT _ _ (s5 _ _ hz'))
      · have hip := (List.getElem?_eq_some_iff.mp ht).1
        have e9 : num d.kix :: d.prts.take (i + 1) = (num d.kix :: d.prts.take i) ++ [t] := by
          rw [List.take_succ_eq_append_getElem hip, (List.getElem?_eq_some_iff.mp ht).2]
          rfl
        rw [e9]
        exact paired_app (ths_kt kt (ths_kt (KT.of (sT.trans s7)) hus)) (.cons ⟨b, rfl, hb.kt kt⟩ .nil)
    · rintro σ H5 ⟨x3, x4, us, rfl, s5, hq5, hL5, hus⟩
      rw [← hpl, List.take_length] at hus
      exact ⟨_, rfl, L, us, _, rfl, hL5, hus, hz, fun b H6 s6 hb => k b H6 (s5.trans s6) hb⟩
theorem ok_rowC {f fD : Addr} {fd fdD : FuncData} {n : Nat} (F : Fun K "row_code" "row_code" sRowC f fd) (DRo : Def P w K mg base "row" 4 ["things"] (spRow C)) (GD : FnOk P w K mg base CX0 (3 * n + 7) fD fdD ["deed"] (spDeedC K C (n + 1))) (mgd : mg "deed_code" = some (.ref fD)) (kd : PySem.W.keepIn K (.ref fD) = true) (bd : Binds K fdD ["deed"] []) : FnOk P w K mg base CX0 (3 * (n + 1) + 5) f fd ["deeds"] (spRowC K C (n + 1)) := by
  refine F.ok scRc (fun vs H Q E h => ?_) (fun cdv A outer s H vs Q E hr h => ?_)
  · obtain ⟨q, r, rfl, _⟩ := h
    rfl
  · obtain ⟨q, r, rfl, hq, hdp, hz, k⟩ := h
    have hr4 : Room 4 _ := hr.mono (by omega)
    refine ⟨_, pss_one (ps_ret (pe_def DRo hr4 rfl (pa_cons (pe_lc (own := [("deed", 1)]) (g := gName 1) (tt := tYes) rfl scRc.nd (pi_tup (pv 0)) (blkOk_by (N := ["deeds", "deed"]) (sc := defScope sRowC) (by decide +kernel)) (fun _ _ _ _ _ => (pg_name (i := 1) scRc.nd rfl (Or.inl rfl))) (fun _ _ _ _ _ => pts_nil) (fun _ _ _ _ _ => (pe_call GD hr rfl mgd kd bd .nil pass0 (pa_cons (pv 1) pa_nil)))) pa_nil))), ?_⟩
    have hsl := sizeLine_eq
    obtain ⟨vs, hqv, hvs⟩ := id hq
    have hvl := DsAt.length r vs hvs
    rw [codeR_row] at hz k
    have hrl := rowT_len (r.map Dd.code)
    rw [List.length_map] at hrl
    refine ⟨_, rfl, q, rfl, ⟨_, hqv⟩, fun D nD => lc_tup (K := K) (a := q) (xs := vs) (fun i H' => Same H H' ∧ ∃ us, H' D = some (.lst us) ∧ Paired (ThV C H') us ((r.map Dd.code).take i)) ⟨Same.new nD, [], upd_same, by rw [List.take_zero]; exact .nil⟩ (fun i H' _ z => sqt_kt (KT.of z.1) hqv) ?_ ?_⟩
    · rintro i v H1 hv ⟨s1, us, hD, hus⟩
      obtain ⟨d, hd, hdv⟩ := DsAt.get r vs i v hvs hv
      have hdm := List.mem_of_getElem? hd
      have hdd := deepR_mem r d hdm
      have hdz := rowT_size_mem (r.map Dd.code) d.code (List.mem_map.mpr ⟨d, hdm, rfl⟩)
      have hul := Paired.length hus
      rw [List.length_take, List.length_map] at hul
      refine ⟨rfl, lc_yes ?_⟩
      refine ⟨_, rfl, v, d, rfl, DAt_kt (KT.of s1) d v hdv, by omega, by omega, fun a H2 s2 ha => ?_⟩
      have hD2 := s2 _ _ hD
      have kt : KT H2 (upd H2 D (.lst (us ++ [V.ref a]))) := KT.lst hD2
      refine ⟨us, hD2, by omega, (s1.trans s2).set nD, us ++ [V.ref a], upd_same, ?_⟩
      have hir := (List.getElem?_eq_some_iff.mp hd).1
      have hmm : (r.map Dd.code)[i]? = some d.code := by rw [List.getElem?_map, hd]; rfl
      have him := (List.getElem?_eq_some_iff.mp hmm).1
      rw [List.take_succ_eq_append_getElem him, (List.getElem?_eq_some_iff.mp hmm).2]
      exact paired_app (ths_kt kt (ths_kt (KT.of s2) hus)) (.cons ⟨a, rfl, ha.kt kt⟩ .nil)
    · rintro H1 ⟨s1, us, hD, hus⟩
      have e : (r.map Dd.code).take vs.length = r.map Dd.code := by
        rw [hvl]
        exact List.take_of_length_le (by rw [List.length_map]; omega)
      rw [e] at hus
      exact ⟨D, us, _, rfl, hD, hus, hz, fun a H2 s2 ha => k a H2 (s1.trans s2) ha⟩
theorem ok_rowC0 {f : Addr} {fd : FuncData} (F : Fun K "row_code" "row_code" sRowC f fd) : FnOk P w K mg base CX0 (3 * 0 + 5) f fd ["deeds"] (spRowC K C 0) := by
  refine F.ok scRc (fun vs H Q E h => ?_) (fun cdv A outer s H vs Q E hr h => ?_)
  · obtain ⟨q, r, rfl, _⟩ := h
    rfl
  · obtain ⟨q, r, _, _, h, _⟩ := h
    exact absurd h (Nat.not_lt_zero _)
theorem ok_codes {fR fD fQ : Addr} {fdR fdD fdQ : FuncData} (FR : Fun K "row_code" "row_code" sRowC fR fdR) (FD : Fun K "deed_code" "deed_code" sDeedC fD fdD) (FP : Fun K "part_code" "part_code" sPartC fQ fdQ) (ml : mg "list" = none) (G : FrmC K w mg) (Fo : FoK K w mg) (DNu : Def P w K mg base "number" 4 ["n"] (spNumber C)) (DRo : Def P w K mg base "row" 4 ["things"] (spRow C))
    (mgr : mg "row_code" = some (.ref fR)) (br : Binds K fdR ["deeds"] []) (mgd : mg "deed_code" = some (.ref fD)) (bd : Binds K fdD ["deed"] []) (mgp : mg "part_code" = some (.ref fQ)) (bp : Binds K fdQ ["part", "sign"] []) : ∀ n, FnOk P w K mg base CX0 (3 * n + 5) fR fdR ["deeds"] (spRowC K C n)
  | 0 => ok_rowC0 FR
  | n + 1 => ok_rowC FR DRo (ok_deedC FD ml G Fo DNu DRo (ok_partC FP DNu (ok_codes FR FD FP ml G Fo DNu DRo mgr br mgd bd mgp bp n) mgr FR.kp br) mgp FP.kp bp) mgd FD.kp bd
theorem ok_codeOf {f : Addr} {fd : FuncData} (F : Fun K "code_of" "code_of" sCodeOf f fd) (TP : TxtP K mg CP) (DRc : Def P w K mg base "row_code" 32 ["deeds"] (spRowC K C 9)) : FnOk P w K mg base CX0 33 f fd ["program"] (spCodeOf K C CP) := by
  refine F.ok scCo (fun vs H Q E h => ?_) (fun cdv A outer s H vs Q E hr h => ?_)
  · obtain ⟨a, r, rfl, _⟩ := h
    rfl
  · obtain ⟨a, r, rfl, ha, hz, k⟩ := h
    refine ⟨_, pss_one (ps_ret (pe_def DRc hr rfl (pa_cons (pe_fld (pv 0) rfl) pa_nil))), ?_⟩
    obtain ⟨dx, q, pl, ys, h1, h2, _, _⟩ := ha.ex
    have := ha.dp
    exact ⟨_, rfl, _, _, _, _, _, rfl, h1, TP.cl, TP.nD, pf_deeds _ _, q, r, rfl, h2, by omega, hz, k⟩
end
end Js
set_option Elab.async false
set_option linter.all false
set_option maxRecDepth 100000
set_option maxHeartbeats 2000000
namespace Js
open PySem L2
theorem nat_log (n : Nat) (h : n ≤ 1000000) : ((n : Nat) : Int).natAbs.log2 < 1920 := by
  rw [Int.natAbs_natCast]
  by_cases h0 : n = 0
  · subst h0; decide
  · exact Nat.lt_of_lt_of_le ((Nat.log2_lt h0).mpr (show n < 2 ^ 20 by omega)) (by decide)
section
variable {X : Cx} {a D : Addr} {oe : Obj} {pn : List (Addr × Obj)} {d : Option Addr} {cls : Value}
theorem inst_x {s : Shared} {H : Hp} {dd : Addr} {fs : List (Str × V)} {pins : List (Addr × Obj)} {σ : St} (I : Inv (X.suite a ((a, oe) :: pn)) pins σ H s) (hz : Zc (.ref D) d oe) (hf : ∃ vs, oe.data = .fields vs) (e1 : d = some dd) (e2 : H dd = some (.xd fs)) : ∃ od, PySem.W.InstAt s.heap a oe D (some od) := by
  subst e1
  obtain ⟨hget, _⟩ := I.pin (a, oe) (List.mem_append_left _ List.mem_cons_self)
  obtain ⟨vs, hd⟩ := hf
  have hx : ObjOk X.prog X.w H s.heap dd (.xd fs) := I.hok dd _ e2
  obtain ⟨mA, hns, hr⟩ := hx
  obtain ⟨od, ho, hl⟩ := lookIn_ns hns
  exact ⟨od, hget, hz.1, by unfold PySem.W.notCls; rw [hd] <;> rfl, by rw [hz.2]; exact ho⟩
structure XcC (K : PySem.W.Frag) (D : Addr) : Prop where
  hc : (PySem.W.clsIn K D).isSome = true
  hg : PySem.W.findIn K (.ref D) "__getattribute__" = some (some (.builtin "BaseException.__getattribute__"))
  hk : PySem.W.findIn K (.ref D) "__getattr__" = some none
  hs : PySem.W.subIn K (.ref D) (.type "BaseException") = some true
  ha : PySem.W.findIn K (.ref D) "__class__" = some (some (.builtin "object.__class__"))
  hn : PySem.W.specialIn K (.builtin "object.__class__") "__get__" = some (some (.builtin "getset_descriptor.__get__"))
  ht : PySem.W.takesIn K (.builtin "object.__class__") = some true
  hm : PySem.W.mroIn K D (.type "object") = some true
def rIsXt (K : PySem.W.Frag) (D a : Addr) (cls : Value) (d : Option Addr) : List V → Hp → VK → Prop := fun xs H Q => ∃ (tp : Addr) (cs : List V) (cvs : List Value) (b : Bool) (dd : Addr) (fs : List (Str × V)), xs = [.ref a, .ref tp] ∧ H tp = some (.tup cs) ∧ Paired ClsV cs cvs ∧ cls = .ref D ∧ d = some dd ∧ H dd = some (.xd fs) ∧ PySem.W.kitAny K (.ref D) cvs = some b ∧ Q (.bl b) H
theorem call_isXt (C : XcC X.K D) (hz : Zc cls d oe) (hf : ∃ vs, oe.data = .fields vs) : CallR (X.suite a ((a, oe) :: pn)) (.builtin "isinstance") (rIsXt X.K D a cls d) := by
  intro pins s σ H xs us Q I r h
  obtain ⟨tp, cs, cvs, b, dd, fs, rfl, ht, hcv, rfl, e1, e2, e, q⟩ := h
  obtain ⟨od, J⟩ := inst_x I hz hf e1 e2
  cases r with
  | cons rx rr =>
    cases rr with
    | cons rt rr =>
      cases rr
      cases rx
      cases rt
      obtain ⟨its, rv, ⟨o, ho, hcl, n, hdt⟩, _⟩ := I.tuple (SqT.of ht)
      have ev := ClsV.all hcv rv
      subst ev
      obtain ⟨oc, od', oda, osl⟩ := o
      dsimp only at hcl hdt
      subst hcl hdt
      exact PySem.W.kia_tup (PySem.W.kitx_exc C.hc C.hg C.hk C.hs C.ha C.hn C.ht C.hm) I.kIn J ho e (fun z => nomatch z) fun tk => ⟨.bl b, H, I.kept (t' := tk) fun _ _ z => z, rfl, q⟩
end
end Js
set_option Elab.async false
set_option linter.all false
set_option maxRecDepth 100000
set_option maxHeartbeats 4000000
namespace JsGx
open PySem PySem.W PyProof.Rows PySem.HandSPX Builtin Builtin.ObjectAttr
section
variable {prog : Program} {w : World} {A : Around} {E : Value → Shared → Prop}
variable {h0 : Heap} {gs : Array GenState} {dr : Drawn} {tt : Nat} {os : OsState} {K : W.Frag}
theorem own_first {nm : Str} {tk : Tok} {v : Value} {x C : Addr} {fv : Array Value} {cd : ClassData} {b : Bool} {Q : Fin → Shared → Prop}
    (kin : K.In h0) (at_ : h0.get? x = some { cls := .ref C, data := .fields fv }) (hcd : W.clsIn K C = some cd) (hh : cd.hasDict = true)
    (q : ∀ h1 tk1 dx, (∀ c o, c ≠ x → h0.get? c = some o → h1.get? c = some o) → h0.objs.size ≤ dx → dx ≠ x →
      h1.get? x = some { cls := .ref C, dict := some dx, data := .fields fv } → h1.Ns1 dx (fun y => if y = nm then some v else none) → Q (.done (.ret .none)) ⟨h1, gs, dr, tk1, os⟩) :
    wpAny (model prog w) A (storeInOwnDict (.ref x) (.ref C) (.str nm tk) nm v b) Q E ⟨h0, gs, dr, tt, os⟩ := by
  have lc : W.Looks (model prog w) h0 (classData C) cd := W.looks_clsIn kin hcd
  have nx : x ≠ h0.objs.size := Nat.ne_of_lt (Heap.lt_size at_)
  obtain ⟨n1, bs, mro, ns, qn, hd, sn, sb, ab, col, del⟩ := cd
  cases (show hd = true from hh)
  unfold storeInOwnDict ownDictForStores
  repeat first
    | with_reducible refine store_in_new ?_ ?_
    | with_reducible refine wpAny_loadPart_at at_ ?_
    | with_reducible refine lc.at ?_
    | wp_step
  · exact ⟨_, #[], _, (Heap.get?_update_ne _ _ _ _ nx.symm).trans (Heap.get?_push_at rfl rfl), rfl, fun e he => absurd he (by simp), fun _ => rfl⟩
  · intro h1 tk1 hn1 hs1
    have there := Heap.get?_push_of_some { cls := .type "dict", data := .dict #[] } at_
    have kept : ∀ c o, c ≠ x → h0.get? c = some o → h1.get? c = some o := fun c o nc hc =>
      (hs1.2 c (Nat.ne_of_lt (Heap.lt_size hc))).trans ((Heap.get?_update_ne _ _ _ _ nc).trans (Heap.get?_push_of_some _ hc))
    exact q h1 tk1 h0.objs.size kept (Nat.le_refl _) nx.symm ((hs1.2 x nx).trans (Heap.get?_update_self _ there rfl)) hn1
end
end JsGx
namespace Js
open PySem L2 PySem.Spec PyProof.Rows
structure GexC (K : PySem.W.Frag) (C : Addr) (B nw ini : String) (tl : List Value) : Prop where
  F : ExcBaseFacts B nw ini tl
  SF : StoreFacts B tl "object.__setattr__" "object"
  cls : ∃ nm q N bs bm sn sub ab col dd k0 k1 k2 k3 k5, K.lookup C = some (excClassObj nm q C N bs bm true sn sub ab col dd k0 k1 k2 k3 k5 nw) ∧ ∀ Y : String, bm.contains (.type Y) = tl.contains (.type Y)
  ov : PySem.W.excOver K C tl = true
  st : PySem.W.findIn K (.ref C) "__setattr__" = some (some (.builtin "object.__setattr__"))
  be : PySem.W.subIn K (.ref C) (.type "BaseException") = some true
  ty : PySem.W.typeIn K (.ref C) = some (.type "type")
  kp : PySem.W.keepIn K (.ref C) = true
section
variable {X : Cx} {pins : List (Addr × Obj)} {σ : L2.St} {H : Hp} {s : Shared} {a C : Addr} {f : Str} {y : V} {u : Value} {B nw ini : String} {tl : List Value}
theorem g_first {A : Around} {Q : Unit → Shared → Prop} {E : Value → Shared → Prop} (T : GexC X.K C B nw ini tl) (I : Inv X pins σ H s) (e : H a = some (exo a C none)) (hno : PySem.W.findIn X.K (.ref C) f = some none) (ry : RelV y u)
    (k : ∀ dx s', H dx = none → dx ≠ a → Inv X pins σ (upd (upd H dx (exd dx [(f, y)])) a (exo a C (some dx))) s' → Q () s') : wpAny (model X.prog X.w) A (setAttr (.ref a) f u) Q E s := by
  obtain ⟨nm, q, N, bs, bm, sn, sub, ab, col, dd, k0, k1, k2, k3, k5, hC, _⟩ := T.cls
  obtain ⟨t1, ho⟩ := exo_at I.hok e
  obtain ⟨hp, g, d, t, os⟩ := s
  have IA : PySem.W.InstAt hp a _ C none := ⟨ho, rfl, rfl, trivial⟩
  refine PySem.W.set_plain I.kIn IA T.st ?_
  refine PySem.W.osa_openX (r := none) T.SF I.kIn IA T.ov (by unfold PySem.W.takerIn; rw [hno]; rfl) fun b => ?_
  refine JsGx.own_first I.kIn ho (by unfold PySem.W.clsIn; rw [hC] <;> rfl) rfl fun h1 tk1 dx kept dn dne hx hn => ?_
  have hnd : H dx = none := I.hok.fresh dn
  have off : ∀ {c : Addr}, H c = none → c ≠ a := fun {c} n z => nomatch (z ▸ n).symm.trans e
  have old : ∀ {c : Addr} {o : Obj}, hp.get? c = some o → c ≠ dx := fun {c o} z => Nat.ne_of_lt (Nat.lt_of_lt_of_le (Heap.lt_size z) dn)
  have U : Un X.fs [] H (upd (upd H dx (exd dx [(f, y)])) a (exo a C (some dx))) hp h1 := by
    refine { keep := ?_, slot := ?_, free := ?_, there := ?_, tups := ?_, frzs := ?_, tbls := ?_ }
    · intro c o z n _ _
      exact kept c o (off n) z
    · intro c o z n _ _
      exact ⟨o.slots, kept c o (off n) z⟩
    · intro c o z n _
      rw [upd_ne (off n), upd_ne (old z)]
      exact n
    · intro c o z _
      by_cases hc : c = a
      · exact ⟨_, hc ▸ hx⟩
      · exact ⟨o, kept c o hc z⟩
    · intro c xs z
      rw [upd_ne (at_ne e z exo_tup), upd_ne (ne_of_none z hnd)]
      exact z
    · intro c o v z
      rw [upd_ne (at_ne e z exo_frz), upd_ne (ne_of_none z hnd)]
      exact z
    · intro c ps z
      refine ⟨#[], ?_⟩
      rw [upd_ne (at_ne e z exo_tbl), upd_ne (ne_of_none z hnd), z]
      simp
  refine k dx _ hnd dne (I.un (t' := tk1) U fun c o z => ?_)
  by_cases hc : c = a
  · subst hc
    cases upd_same.symm.trans z
    exact exo_ok hx
  · rw [upd_ne hc] at z
    by_cases hd : c = dx
    · subst hd
      cases upd_same.symm.trans z
      exact exd_ok hn (relO_put (fs := []) ry fun _ => True.intro)
    · rw [upd_ne hd] at z
      refine (I.hok c o z).stay (fun m v hm zz => kept m v ?_ zz) (fun m hm => ?_) (fun m xs hm => ?_)
      · rcases hm with hm | hm
        · exact hm ▸ hc
        · exact at_ne e hm exo_own
      · rw [upd_ne (at_ne e hm exo_own), upd_ne (ne_of_none hm hnd)]
        exact hm
      · rw [upd_ne (at_ne e hm exo_tup), upd_ne (ne_of_none hm hnd)]
        exact hm
theorem g_init {A : Around} {E : Value → Shared → Prop} {us : List Value} {Q : Value → Shared → Prop} (T : GexC X.K C B nw ini tl) (I : Inv X pins σ H s) (e : H a = some (exo a C none)) (hl : us.length ≤ sizeLine) (k : ∀ s', Inv X pins σ H s' → Q .none s') :
    wpAny (model X.prog X.w) A (call (.builtin ini) (.ref a :: us)) Q E s := by
  obtain ⟨nm, q, N, bs, bm, sn, sub, ab, col, dd, k0, k1, k2, k3, k5, hC, hT⟩ := T.cls
  obtain ⟨t1, ho⟩ := exo_at I.hok e
  obtain ⟨hp, g, d, t, os⟩ := s
  refine wpAny_call (PySem.HandSPX.init_base T.F hT (I.kIn _ _ hC) ho hl fun h1 t2 kept hx => k _ ?_)
  have eu : upd H a (exo a C none) = H := funext fun c => by
    by_cases hc : c = a
    · rw [hc, upd_same, e]
    · exact upd_ne hc
  exact eu ▸ I.write (t' := t) (x := a) (e := a) (o := exo a C none) (by rw [e]; exact True.intro) (.inl rfl) kept ⟨_, hx⟩ (exo_ok hx)
end
def tGi (K : PySem.W.Frag) (B nw ini : String) (tl : List Value) (ta : TA) : TE := fun σ H Q => ta σ H fun vs H1 => ∃ (a C : Addr) (r : List V), vs = .ref a :: r ∧ r.length ≤ 1000 ∧ GexC K C B nw ini tl ∧ H1 a = some (exo a C none) ∧ Q .non H1
def tGs (K : PySem.W.Frag) (B nw ini : String) (tl : List Value) (f : Str) (to te : TE) : TS := fun D σ H => te σ H fun y H1 => to σ H1 fun x H2 => ∃ a C : Addr, x = .ref a ∧ GexC K C B nw ini tl ∧ PySem.W.findIn K (.ref C) f = some none ∧ H2 a = some (exo a C none) ∧
  ∀ dx, H2 dx = none → dx ≠ a → D.nx σ (upd (upd H2 dx (exd dx [(f, y)])) a (exo a C (some dx)))
section
variable {X : Cx} {o e : Expr} {es : List Expr} {to te : TE} {ta : TA} {f : Str} {p p' p1 p2 pos : Pos} {B nw ini : String} {tl : List Value}
theorem ps_gst (ho : PE X o to) (he : PE X e te) (hs : swapsWith e (some (.Attribute o f p')) pos.line X.env = pure false := by rfl) : PS X (.Assign [.Attribute o f p'] e pos) (tGs X.K B nw ini tl f to te) := by
  constructor
  intro pins s σ H D I h
  refine plainObj_wpAny_Assign_Attribute (thn (he.run pins s σ H _ I h) ?_) hs
  rintro v s1 ⟨y, H1, I1, r1, q1⟩
  refine thn (ho.run pins s1 σ H1 _ I1 q1) ?_
  rintro u s2 ⟨x, H2, I2, r2, a, C, rfl, T, hno, ea, q⟩
  cases (show u = Value.ref a from r2)
  exact g_first T I2 ea hno r1 fun dx s' n ne J => ⟨σ, _, J, q dx n ne⟩
theorem typ_OE : typeOf (.type "OverflowError") = pure (.type "type") := by kernel_rfl
theorem pe_oeinit {pl : Sem Bool} (hg : Gl X "OverflowError") (hm : X.mg "OverflowError" = none) (vV : PySem.W.findCls X.K (.type "OverflowError") (.type "type") "__init__" = some (.val (.builtin "OverflowError.__init__"))) (ha : PA X (e :: es) ta)
    (hc : eval (.Call (.Attribute (.Name "OverflowError" p1) "__init__" p2) (e :: es) [] pos) X.env = (do
      let ov ← eval (.Name "OverflowError" p1) X.env; standAt p2.atName
      let (f, first) ← holding [ov] (getMethod ov "__init__" pl); callWith pos f first (backTo pos (starEach (e :: es) X.env)) (backToKw pos (keywordEach [] X.env))) := by rfl)
    (he : starEach (e :: es) X.env = (false, eval e X.env) :: starEach es X.env := by rfl) (hpl : (backTo pos (starEach es X.env)).any (·.1) = false := by rfl) :
    PE X (.Call (.Attribute (.Name "OverflowError" p1) "__init__" p2) (e :: es) [] pos) (tGi X.K "OverflowError" nw "OverflowError.__init__" tl ta) := by
  constructor
  intro pins s σ H Q I h
  refine PySem.W.methodCall_KW (ld_blt I hg hm PyProof.Rows.Boot.«OverflowError» ?_ (by decide) (by decide)) hc
  obtain ⟨m, fr⟩ := I.fr
  refine PySem.W.method_type fr I.ok.mod.kin typ_OE (by decide +kernel) vV (by decide +kernel) ?_
  show wpAny _ _ (callWith pos (Value.builtin "OverflowError.__init__") [] (backTo pos (starEach (e :: es) X.env)) []) _ _ _
  refine PyProof.Rows.callWith_method1 (thn (ha.run pos pins _ σ H _ (I.tok _) h) ?_) he hpl
  rintro us s1 ⟨vs, H1, I1, r1, a, C, r, rfl, hl, T, ea, q⟩
  cases r1 with
  | @cons _ u0 _ ur ra rr =>
    cases (show u0 = Value.ref a from ra)
    refine g_init T I1 ea ?_ fun s' J => ⟨.non, H1, J, rfl, q⟩
    have e1 := Paired.length rr
    have e2 := sizeLine_eq
    omega
end
end Js
set_option Elab.async false
set_option linter.all false
set_option maxRecDepth 100000
set_option maxHeartbeats 2000000
namespace Js
open PySem L2
abbrev sTg : Stmt := inClass (top 5) 0
abbrev tlO : List Value := [.type "OverflowError", .type "ArithmeticError", .type "Exception", .type "BaseException", .type "object"]
abbrev GexO (K : PySem.W.Frag) (N : Addr) : Prop := GexC K N "OverflowError" "OverflowError.__new__" "OverflowError.__init__" tlO
structure TgC (K : PySem.W.Frag) (mg : Str → Option Value) (N : Addr) : Prop where
  mgN : mg "TooGreat" = some (.ref N)
  O : GexO K N
  bd : PySem.W.findIn K (.ref N) "bound" = some none
  mOE : mg "OverflowError" = none
  vV : PySem.W.findCls K (.type "OverflowError") (.type "type") "__init__" = some (.val (.builtin "OverflowError.__init__"))
def spTg (K : PySem.W.Frag) : Sp := fun vs H Q _ => ∃ (a N : Addr) (n : Nat), vs = [.ref a, .int (n : Nat)] ∧ n ≤ 1000000 ∧ GexO K N ∧ PySem.W.findIn K (.ref N) "bound" = some none ∧ H a = some (exo a N none) ∧
  ∀ dx, H dx = none → dx ≠ a → Q .non (upd (upd H dx (exd dx [("bound", .int (n : Nat))])) a (exo a N (some dx)))
section
variable {P : Program} {w : World} {K : PySem.W.Frag} {mg : Str → Option Value} {base : Heap} {N C : Addr}
theorem scTg : FnScope ["self", "bound"] ["self", "bound"] (defScope sTg) := ⟨rfl, rfl, rfl, by decide +kernel, rfl, by decide +kernel, by decide +kernel⟩
theorem ok_tg {f : Addr} {fd : FuncData} (F : Fun K "__init__" "TooGreat.__init__" sTg f fd) (T : TgC K mg N) : FnOk P w K mg base CX0 1 f fd ["self", "bound"] (spTg K) := by
  refine F.ok scTg (fun vs H Q E h => ?_) (fun cdv A outer s H vs Q E hr h => ?_)
  · obtain ⟨a, N, n, rfl, _⟩ := h
    rfl
  · obtain ⟨a, N, n, rfl, hn, hO, hno, ha, k⟩ := h
    refine ⟨_, pss_cons (ps_expr (pe_oeinit (nw := "OverflowError.__new__") (tl := tlO) rfl T.mOE T.vV (pa_cons (pv 0) (pa_cons (pe_joined (.cons pe_str (.cons (pe_fmt (pv 1)) .nil))) pa_nil)))) (pss_one (ps_gst (B := "OverflowError") (nw := "OverflowError.__new__") (ini := "OverflowError.__init__") (tl := tlO) (pv 0) (pv 1))), ?_⟩
    have hlg := nat_log n hn
    have hl := PyProof.Rows.int_text_len_1921 hlg
    have hs := sizeLine_eq
    refine ⟨_, rfl, _, rfl, by decide +kernel, _, rfl, .inr ⟨_, rfl, hlg, _, rfl, ?_, ?_⟩⟩
    · rw [PySem.Str.length_append]
      have e : (Str.empty ++ ("greater than " : Str)).length = 13 := by decide +kernel
      omega
    · refine ⟨a, N, _, rfl, by simp, hO, ha, ?_⟩
      exact ⟨_, rfl, _, rfl, a, N, rfl, hO, hno, ha, fun dx h1 h2 => k dx h1 h2⟩
theorem raise_tg {H1 : Hp} {n : Nat} {Q : XK} (hO : GexO K N) (hno : PySem.W.findIn K (.ref N) "bound" = some none) (hn : n ≤ 1000000)
    (q : ∀ d H', Same H1 H' → H' d = some (.xd [("bound", .int (n : Nat))]) → Q (.ref N) (some d) H') :
    ∀ a, H1 a = none → spTg K [.ref a, .int (n : Nat)] (upd H1 a (exo a N none)) (fun v H2 => v = .non ∧ ∃ (d : Addr) (fs : List (Str × V)), H2 a = some (exo a N (some d)) ∧ H2 d = some (exd d fs) ∧ H1 d = none ∧ Q (.ref N) (some d) (upd (del H2 a) d (.xd fs))) (fun _ _ _ => False) := by
  intro a ha
  refine ⟨a, N, n, rfl, hn, hO, hno, upd_same, fun dx hd ne => ⟨rfl, dx, _, upd_same, (upd_ne ne).trans upd_same, ?_, q dx _ ?_ upd_same⟩⟩
  · rw [upd_ne ne] at hd
    exact hd
  · rw [upd_ne ne] at hd
    intro b o h
    have e1 := ne_of_none h hd
    have e2 := ne_of_none h ha
    rw [upd_ne e1, del_ne e2, upd_ne e2, upd_ne e1, upd_ne e2]
    exact h
structure TgM (P : Program) (w : World) (K : PySem.W.Frag) (mg : Str → Option Value) (base : Heap) (N fN : Addr) (fdN : FuncData) : Prop where
  T : TgC K mg N
  iN : PySem.W.findIn K (.ref N) "__init__" = some (some (.ref fN))
  tN : PySem.W.typeIn K (.ref fN) = some (.type "function")
  ok : FnOk P w K mg base CX0 1 fN fdN ["self", "bound"] (spTg K)
  bN : Binds K fdN ["self", "bound"] []
def spInitX (C N : Addr) : Sp := fun vs H Q E => ∃ (p dx : Addr) (x y : V) (n : Nat), vs = [.ref p, x, y] ∧ H p = some (.ins C dx []) ∧ PairsOf C H x y n ∧ n ≤ 100000 ∧ (n ≤ 4000 → Q .non (upd H p (.ins C dx (tf x y (n : Nat))))) ∧
  (4000 < n → ∀ d H', Same H H' → H' d = some (.xd [("bound", .int ((4000 : Nat) : Int))]) → E (.ref N) (some d) H')
end
section
open PyProof.Rows
variable {X : Cx} {CX : CXT} {C f : Addr} {k : Nat} {fd : FuncData} {ps : List Str} {sp : Sp} {ds us : List Value} {dvs vs : List V} {E : XK} {pins : List (Addr × Obj)} {σ : L2.St} {H : Hp} {s : Shared} {Q : VK}
theorem make_at (M : Mk X.K C f) (G : FnOk X.prog X.w X.K X.mg X.base CX k f fd ps sp) (hr : Room (k + 1) X.A) (hb : Binds X.K fd ps ds) (hd : Vals dvs ds) (out : PassesAt CX X σ E) (I : Inv X pins σ H s) (r : Vals vs us)
    (h : ∀ x dx, H x = none → H dx = none → dx ≠ x → sp (.ref x :: (vs ++ dvs)) (upd (upd H dx (.own x)) x (.ins C dx [])) (fun v H2 => v = .non ∧ Q (.ref x) H2) E) : wpAny (model X.prog X.w) X.A (call (.ref C) us) (EP X pins σ Q) X.xe s := by
  have I2 := Inv.made (C := C) I
  have hq := h _ _ (I.hok.fresh (Nat.le_succ _)) (I.hok.fresh (Nat.le_refl _)) (Nat.ne_of_lt (Nat.lt_succ_self s.heap.objs.size))
  have r2 : Vals (V.ref (s.heap.objs.size + 1) :: (vs ++ dvs)) (Value.ref (s.heap.objs.size + 1) :: (us ++ ds)) := .cons rfl (r.append hd)
  have hl : (Value.ref (s.heap.objs.size + 1) :: us ++ ds).length = ps.length := r2.length.symm.trans (G.len _ _ _ _ hq)
  have ran := G.run _ X.stack _ _ ⟨Value.ref (s.heap.objs.size + 1) :: us, []⟩ (Value.ref (s.heap.objs.size + 1) :: (us ++ ds)) _ _ E (hr.make C us []) (I2.env0.make C us []) (hb _ (Value.ref (s.heap.objs.size + 1) :: us) I2.kIn hl) r2 hq
  refine wpAny_call (make_map (f := f) I.kIn M.makes M.init (beq_iff_eq.mp M.fn) (codeAny_mono ran ?_))
  rintro (er | fl) s' z
  · exact out pins _ _ er s' I2 z
  · cases fl with
    | ret u =>
      obtain ⟨v, H3, I3, rv, rfl, q3⟩ := I2.after z
      exact ⟨rv, ⟨V.ref (s.heap.objs.size + 1), H3, I3, rfl, q3⟩⟩
    | next => exact z.elim
    | brk => exact z.elim
    | cont => exact z.elim
end
end Js
set_option Elab.async false
set_option linter.all false
set_option maxRecDepth 100000
set_option maxHeartbeats 2000000
set_option Elab.async false
set_option linter.all false
set_option maxRecDepth 100000
set_option maxHeartbeats 4000000
namespace Js
open PySem L2 PySem.Spec PyProof.Rows
theorem okC {CX : CXT} {P : Program} {w : World} {K : PySem.W.Frag} {mg : Str → Option Value} {base : Heap} {x ql : Str} {st : Stmt} {f : Addr} {fd : FuncData} {N ps : List Str} {k : Nat} {sp : Sp} (F : Fun K x ql st f fd) (S : FnScope N ps (defScope st)) (hl : ∀ vs H Q E, sp vs H Q E → vs.length = ps.length)
    (hb : ∀ (cdv : Value) (A : Around) (outer : List Env) (s : Shared) (H : Hp) (vs : List V) (Q : VK) (E : XK), Room k (A.deeper (envOfC ql (defScope st) s.heap.objs.size f cdv)) → sp vs H Q E →
      ∃ t, PSs (cxOf CX P w K mg base N ql (defScope st) f cdv A outer s H E) (defBody st) t ∧ t { nx := fun _ H' => Q .non H', rt := Q } (start N vs) H) :
    FnOk P w K mg base CX (k + 1) f fd ps sp := by
  obtain ⟨o1, o2, o3, o4, o5, o6, o7, o8, o9, e, look, code⟩ := F.ex
  subst e
  exact fn_of look code S hl (fun A outer s H vs Q E room h => hb _ A outer s H vs Q E room h)
section
variable {X : Cx} {e : Expr} {es : List Expr} {ta : TA} {p pos : Pos} {B nw ini : String} {tl : List Value}
theorem pmk_gexN {CX : CXT} {x : Str} {C fI : Addr} {k : Nat} {fd : FuncData} {ps : List Str} {sp : Sp} {ds : List Value} {dvs : List V} (T : GexC X.K C B nw ini tl) (iC : PySem.W.findIn X.K (.ref C) "__init__" = some (some (.ref fI))) (tI : PySem.W.typeIn X.K (.ref fI) = some (.type "function"))
    (G : FnOk X.prog X.w X.K X.mg X.base CX k fI fd ps sp) (hr : Room (k + 1) X.A) (hb : Binds X.K fd ps ds) (hd : Vals dvs ds) (hx : Passes CX X (fun _ _ _ => False)) (hg : Gl X x) (hm : X.mg x = some (.ref C)) (ha : PA X (e :: es) ta)
    (hdb : (x == ("__debug__" : Str)) = false := by decide) (he : starEach (e :: es) X.env = (false, eval e X.env) :: starEach es X.env := by rfl) (hpl : (backTo pos (starEach es X.env)).any (·.1) = false := by rfl) :
    L2N.PMk X (.Call (.Name x p) (e :: es) [] pos) (tMkO C sp dvs ta) := by
  obtain ⟨nm, q, N, bs, bm, sn, sub, ab, col, dd, k0, k1, k2, k3, k5, hC, hT⟩ := T.cls
  intro pins s σ H Q I h
  refine wpAny_Call_Name_kw (ld_glob I hg hm ?_ hdb)
  refine PySem.W.callWith_K (h₀ := X.base) I.ok.mod.kin T.kp (thn (ha.run pos pins s σ H _ I h) ?_) he hpl
  rintro us ⟨hp, g, dr, tk, os⟩ ⟨vs, H1, I1, r1, hz, q1⟩
  refine ⟨I1.kIn, ?_⟩
  show wpAny _ _ (call (.ref C) us) _ _ _
  have up := Nat.le_succ hp.objs.size
  have hq := q1 (hp.objs.size + 1) (I1.hok.fresh up)
  have kk : ∀ c z, hp.get? c = some z → ((hp.push (PySem.W.kdv_tup us)).push (PySem.HandSPX.excO C hp.objs.size)).get? c = some z := fun c z h => Heap.get?_push_of_some _ (Heap.get?_push_of_some _ h)
  have at1 : ((hp.push (PySem.W.kdv_tup us)).push (PySem.HandSPX.excO C hp.objs.size)).get? (hp.objs.size + 1) = some (PySem.HandSPX.excO C hp.objs.size) := by heap_get
  have I2 : Inv X pins σ (upd H1 (hp.objs.size + 1) (exo (hp.objs.size + 1) C none)) ⟨(hp.push (PySem.W.kdv_tup us)).push (PySem.HandSPX.excO C hp.objs.size), g, dr, tk, os⟩ :=
    I1.laid (t' := tk) kk up (exo_ok at1)
  have r2 : Vals (V.ref (hp.objs.size + 1) :: (vs ++ dvs)) (Value.ref (hp.objs.size + 1) :: (us ++ ds)) := .cons rfl (r1.append hd)
  have hl : (Value.ref (hp.objs.size + 1) :: us ++ ds).length = ps.length := (r2.length.symm.trans (G.len _ _ _ _ hq))
  have hus : us.length ≤ sizeLine := by
    have e1 := Paired.length r1
    have e2 := sizeLine_eq
    omega
  refine wpAny_call (PySem.HandSPX.call_own T.F hT (I1.kIn _ _ hC) (PySem.W.looks_findIn I1.kIn iC) (fun self => PySem.W.bind_fn I1.kIn self tI) hus ?_)
  refine codeAny_mono (G.run _ X.stack _ _ ⟨Value.ref (hp.objs.size + 1) :: us, []⟩ (Value.ref (hp.objs.size + 1) :: (us ++ ds)) _ _ (fun _ _ _ => False) (hr.make C us []) (I2.env0.make C us []) (hb _ (Value.ref (hp.objs.size + 1) :: us) I2.kIn hl) r2 hq) ?_
  rintro (er | fl) s' hq'
  · exact hx pins σ _ _ er s' I2 hq'
  · cases fl with
    | ret u =>
      obtain ⟨v, H2, os2, bare2, un2, hok2, rv, rfl, d, fs, ea, ed, hd1, q2⟩ := hq'
      obtain ⟨h2, g2, d2, t2, os'⟩ := s'
      obtain ⟨t0, G2, J, kG, ge, hoe, na⟩ := mk_end0 (d2 := d2) (t2 := t2) I1 up kk un2 hok2 os2 bare2 ea ed hd1
      exact ⟨rv, ⟨_, _, _, ⟨G2, g2, d2, t2, os'⟩, _, .ref C, some d, rfl, J, kG, ge, hoe, ⟨rfl, rfl, fun vs e => by cases e; rfl⟩, rfl, rfl, na, rfl, bare2, raises_own T.be T.ty, q2⟩⟩
    | next => exact hq'.elim
    | brk => exact hq'.elim
    | cont => exact hq'.elim
end
section
variable {P : Program} {w : World} {K : PySem.W.Frag} {mg : Str → Option Value} {base : Heap} {N C : Addr}
theorem ok_initN {f fP fN : Addr} {fd fdP fdN : FuncData} (F : FunD K "__init__" "Thing.__init__" (defArgs sInit) (defBody sInit) (defScope sInit) [.non, .non] [] f fd) (T : Txt K mg C) (AP : At K mg "pairs_in" sPairs ["first", "second"] fP fdP) (M : TgM P w K mg base N fN fdN) :
    FnOk P w K mg base (L2N.CX P w) 3 f fd ["self", "first", "second"] (spInitX C N) := by
  have GP : FnOk P w K mg base CX0 1 fP fdP ["first", "second"] (spPairs C) := ok_pairs AP.F T
  obtain ⟨tm, mgM⟩ := T.mgM
  refine F.ok scI (fun vs H Q E h => ?_) (fun cdv A outer s H vs Q E hr h => ?_)
  · obtain ⟨p, dx, x, y, n, rfl, _⟩ := h
    rfl
  · obtain ⟨p, dx, x, y, n, rfl, hp, hxy, hn, k, ke⟩ := h
    have hr1 : Room 1 _ := hr.mono (by decide)
    refine ⟨_, pss_cons (ps_set (i := 3) scI.nd rfl (Or.inl rfl) (pe_call GP hr1 rfl AP.mgf AP.F.kp AP.b .nil pass0 (pa_cons (pv 1) (pa_cons (pv 2) pa_nil))))
      (pss_cons (ps_if (pt_cmpR op_gt (pv 3) (pe_glob (v := .int 4000) rfl mgM ⟨_, rfl⟩) (nomark _)) (pss_one (L2N.ps_raise rfl (L2N.takes_of rfl rfl rfl rfl) (pmk_gexN M.T.O M.iN M.tN M.ok hr M.bN .nil pass0 rfl M.T.mgN (pa_cons (pe_glob (v := .int ((4000 : Nat) : Int)) rfl mgM ⟨_, rfl⟩) pa_nil)))) pss_nil)
      (pss_cons (ps_fld (pv 0) (pv 1) rfl) (pss_cons (ps_fld (pv 0) (pv 2) rfl) (pss_one (ps_fld (pv 0) (pv 3) rfl))))), ?_⟩
    refine ⟨_, rfl, _, rfl, x, y, n, rfl, hxy, ?_⟩
    refine ⟨_, rfl, _, _, rfl, rfl, _, rfl, ?_⟩
    by_cases h4 : n ≤ 4000
    · have ed : decide ((4000 : Int) < (n : Nat)) = false := decide_eq_false (by omega)
      rw [ed]
      refine iteF ?_
      refine ⟨_, rfl, _, rfl, p, C, dx, [], rfl, hp, T.cl, T.nF, (by show 0 < 1000; decide), ?_⟩
      refine ⟨_, rfl, _, rfl, p, C, dx, _, rfl, upd_same, T.cl, T.nS, Nat.lt_of_le_of_lt (length_putF _ _ _) (by show 0 + 1 < 1000; decide), ?_⟩
      refine ⟨_, rfl, _, rfl, p, C, dx, _, rfl, upd_same, T.cl, T.nZ, ?_, ?_⟩
      · have h1 := length_putF "first" x []
        have h2 := length_putF "second" y (putF "first" x [])
        simp only [List.length_nil] at h1
        omega
      · show Q .non (upd (upd (upd H p _) p _) p (.ins C dx (tf x y (n : Nat))))
        rw [upd_upd, upd_upd]
        exact k h4
    · have ed : decide ((4000 : Int) < (n : Nat)) = true := decide_eq_true (by omega)
      rw [ed]
      refine iteT ?_
      exact ⟨by simp, raise_tg M.T.O M.T.bd (by decide) fun d H' sH hd => ke (by omega) d H' sH hd⟩
end
structure MakerN (P : Program) (w : World) (K : PySem.W.Frag) (mg : Str → Option Value) (base : Heap) (C fI N : Addr) (fdI : FuncData) : Prop where
  M : Mk K C fI
  G : FnOk P w K mg base (L2N.CX P w) 3 fI fdI ["self", "first", "second"] (spInitX C N)
  mgC : mg "Thing" = some (.ref C)
  b2 : Binds K fdI ["self", "first", "second"] []
end Js
set_option Elab.async false
set_option linter.all false
set_option maxRecDepth 100000
set_option maxHeartbeats 2000000
set_option Elab.async false
set_option linter.all false
set_option maxRecDepth 100000
set_option maxHeartbeats 2000000
namespace Js
open PySem L2
open PySem.Spec PyProof.Rows
def ErrN (N : Addr) (E : XK) (H : Hp) : Prop := ∀ d H', Same H H' → H' d = some (.xd [("bound", .int ((4000 : Nat) : Int))]) → E (.ref N) (some d) H'
theorem ErrN.same {N : Addr} {E : XK} {H H1 : Hp} (s : Same H H1) (h : ErrN N E H) : ErrN N E H1 := fun d H' s' hd => h d H' (s.trans s') hd
def PtN (K : PySem.W.Frag) (C : Addr) (H : Hp) (n : Nat) (x : V) (c : Nat) (t : Tr) : Prop := (c = 110 ∧ ∃ a : Nat, a < 10 ∧ x = .int ((a : Nat) : Int) ∧ t = num a) ∨ (c = 116 ∧ ∃ y, x = .ref y ∧ Th C H y t ∧ t.size ≤ 4000) ∨ (c = 114 ∧ ∃ q r, x = .ref q ∧ RAt K C H q r ∧ deepR r < n ∧ manyR r ≤ 4000 ∧ t = codeR r)
theorem PtN.same {K : PySem.W.Frag} {C : Addr} {H H' : Hp} {n : Nat} {x : V} {c : Nat} {t : Tr} (s : Same H H') (h : PtN K C H n x c t) : PtN K C H' n x c t := by
  rcases h with h | ⟨e, y, e1, h, hz⟩ | ⟨e, q, r, e1, h, h2, h3⟩
  · exact .inl h
  · exact .inr (.inl ⟨e, y, e1, h.same s, hz⟩)
  · exact .inr (.inr ⟨e, q, r, e1, h.same s, h2, h3⟩)
theorem deed_partsN {K : PySem.W.Frag} {C : Addr} {H : Hp} {v : V} {n : Nat} : ∀ (d : Dd), DAt K C H v d → d.deep < n + 1 → d.many ≤ 4000 → ∃ p its, v = .ref p ∧ SqT K H p (.str (kindOf d) :: its) ∧ its.length = (formOf d).cps.size ∧ d.prts.length = its.length ∧ its ≠ [] ∧ its.length ≤ 3 ∧ ∀ (i : Nat) x c, its[i]? = some x → (formOf d).cps[i]? = some c → ∃ t, d.prts[i]? = some t ∧ PtN K C H n x c t
  | .told a t, h, hn, hmy => by
    obtain ⟨p, x, e, h1, h2, h3, h4⟩ := h
    refine ⟨p, _, e, h1, by rw [formOf, cps_nt]; rfl, rfl, by simp, by simp, fun i y c g1 g2 => ?_⟩
    rw [formOf, cps_nt] at g2
    match i, g1, g2 with
    | 0, g1, g2 => cases Option.some.inj g1; cases Option.some.inj g2; exact ⟨_, rfl, .inl ⟨rfl, a, h2, rfl, rfl⟩⟩
    | 1, g1, g2 => cases Option.some.inj g1; cases Option.some.inj g2; exact ⟨_, rfl, .inr (.inl ⟨rfl, x, rfl, h3, h4⟩)⟩
    | i + 2, g1, g2 => simp at g1
  | .take s a b, h, hn, hmy => by
    obtain ⟨p, e, h1, h2, h3⟩ := h
    refine ⟨p, _, e, h1, by rw [formOf, cps_nn]; rfl, rfl, by simp, by simp, fun i y c g1 g2 => ?_⟩
    rw [formOf, cps_nn] at g2
    match i, g1, g2 with
    | 0, g1, g2 => cases Option.some.inj g1; cases Option.some.inj g2; exact ⟨_, rfl, .inl ⟨rfl, a, h2, rfl, rfl⟩⟩
    | 1, g1, g2 => cases Option.some.inj g1; cases Option.some.inj g2; exact ⟨_, rfl, .inl ⟨rfl, b, h3, rfl, rfl⟩⟩
    | i + 2, g1, g2 => simp at g1
  | .two s a b c0, h, hn, hmy => by
    obtain ⟨p, e, h1, h2, h3, h4⟩ := h
    refine ⟨p, _, e, h1, by rw [formOf, cps_nnn]; rfl, rfl, by simp, by simp, fun i y c g1 g2 => ?_⟩
    rw [formOf, cps_nnn] at g2
    match i, g1, g2 with
    | 0, g1, g2 => cases Option.some.inj g1; cases Option.some.inj g2; exact ⟨_, rfl, .inl ⟨rfl, a, h2, rfl, rfl⟩⟩
    | 1, g1, g2 => cases Option.some.inj g1; cases Option.some.inj g2; exact ⟨_, rfl, .inl ⟨rfl, b, h3, rfl, rfl⟩⟩
    | 2, g1, g2 => cases Option.some.inj g1; cases Option.some.inj g2; exact ⟨_, rfl, .inl ⟨rfl, c0, h4, rfl, rfl⟩⟩
    | i + 3, g1, g2 => simp at g1
  | .wh a r, h, hn, hmy => by
    obtain ⟨p, q, vs, e, h1, h2, h3, h4⟩ := h
    rw [Dd.deep] at hn
    rw [many_wh] at hmy
    refine ⟨p, _, e, h1, by rw [formOf, cps_nr]; rfl, rfl, by simp, by simp, fun i y c g1 g2 => ?_⟩
    rw [formOf, cps_nr] at g2
    match i, g1, g2 with
    | 0, g1, g2 => cases Option.some.inj g1; cases Option.some.inj g2; exact ⟨_, rfl, .inl ⟨rfl, a, h2, rfl, rfl⟩⟩
    | 1, g1, g2 => cases Option.some.inj g1; cases Option.some.inj g2; exact ⟨_, rfl, .inr (.inr ⟨rfl, q, r, rfl, ⟨vs, h3, h4⟩, by omega, by omega, rfl⟩)⟩
    | i + 2, g1, g2 => simp at g1
  | .iff a r o, h, hn, hmy => by
    obtain ⟨p, q, vs, q2, vs2, e, h1, h2, h3, h4, h5, h6⟩ := h
    rw [Dd.deep] at hn
    rw [many_iff] at hmy
    refine ⟨p, _, e, h1, by rw [formOf, cps_nrr]; rfl, rfl, by simp, by simp, fun i y c g1 g2 => ?_⟩
    rw [formOf, cps_nrr] at g2
    match i, g1, g2 with
    | 0, g1, g2 => cases Option.some.inj g1; cases Option.some.inj g2; exact ⟨_, rfl, .inl ⟨rfl, a, h2, rfl, rfl⟩⟩
    | 1, g1, g2 => cases Option.some.inj g1; cases Option.some.inj g2; exact ⟨_, rfl, .inr (.inr ⟨rfl, q, r, rfl, ⟨vs, h3, h4⟩, by omega, by omega, rfl⟩)⟩
    | 2, g1, g2 => cases Option.some.inj g1; cases Option.some.inj g2; exact ⟨_, rfl, .inr (.inr ⟨rfl, q2, o, rfl, ⟨vs2, h5, h6⟩, by omega, by omega, rfl⟩)⟩
    | i + 3, g1, g2 => simp at g1
theorem len_manyN : ∀ r : List Dd, r.length ≤ manyR r
  | [] => Nat.zero_le _
  | d :: r => by
    rw [List.length_cons, many_cons]
    have := len_manyN r
    have := many_pos d
    omega
theorem many_memN : ∀ (r : List Dd) (d : Dd), d ∈ r → d.many ≤ manyR r
  | [], d, h => by cases h
  | e :: r, d, h => by
    rw [many_cons]
    rcases List.mem_cons.mp h with rfl | h
    · omega
    · have := many_memN r d h
      omega
end Js
set_option Elab.async false
set_option linter.all false
set_option maxRecDepth 100000
set_option maxHeartbeats 2000000
namespace Js
open PySem L2
theorem repl_succ' (n : Nat) (xs : List Nat) : repl (n + 1) xs = repl n xs ++ xs := by
  induction n with
  | zero => simp [repl]
  | succ n ih =>
    have e : repl (n + 1 + 1) xs = xs ++ repl (n + 1) xs := repl_succ (n + 1) xs
    rw [e, ih, ← List.append_assoc, ← repl_succ n xs, ih]
def numT : Nat → Tr
  | 0 => .nil
  | n + 1 => .pr .nil (numT n)
theorem numT_codes : ∀ n, (numT n).codes = repl n [40, 46] ++ [46] ++ repl n [41]
  | 0 => rfl
  | n + 1 => by
    have ih := numT_codes n
    show 40 :: ([46] ++ ((numT n).codes ++ [41])) = _
    rw [ih, repl_succ n [40, 46], repl_succ' n [41]]
    simp
theorem c_40 : (("(" : Str)) = tx [40] := by decide +kernel
theorem c_41 : ((")" : Str)) = tx [41] := by decide +kernel
theorem c_46 : (("." : Str)) = tx [46] := by decide +kernel
theorem c_4046 : (("(." : Str)) = tx [40, 46] := by decide +kernel
theorem c_4641 : ((".)" : Str)) = tx [46, 41] := by decide +kernel
end Js
set_option Elab.async false
set_option linter.all false
set_option maxRecDepth 100000
set_option maxHeartbeats 2000000
namespace Js
open PySem L2
open PySem PySem.Spec PyProof.Rows L2
abbrev sNt16 : Stmt := top 60
abbrev sRowText : Stmt := top 61
abbrev sLc16 : Stmt := top 62
theorem num_numT : ∀ n, num n = numT n
  | 0 => rfl
  | n + 1 => by rw [num, numT, num_numT n]
theorem num_text (n : Nat) : (num n).text = tx (repl n [40, 46] ++ [46] ++ repl n [41]) := by rw [tx_text, num_numT, numT_codes]
def opens (ts : List Tr) : List Nat := (ts.map fun t => 40 :: t.codes).flatten
theorem row_codes : ∀ ts : List Tr, (rowT ts).codes = opens ts ++ [46] ++ repl ts.length [41]
  | [] => rfl
  | t :: r => by
    have ih := row_codes r
    show 40 :: (t.codes ++ ((rowT r).codes ++ [41])) = _
    rw [ih, List.length_cons, repl_succ' r.length [41]]
    simp [opens]
theorem joinL_opens : ∀ ts : List Tr, TL.joinL [] ((ts.map fun t => tx (40 :: t.codes)).map TL.tl) = opens ts
  | [] => rfl
  | [t] => by simp [opens, TL.joinL]; rfl
  | t :: u :: r => by
    have ih := joinL_opens (u :: r)
    show (40 :: t.codes) ++ ([] ++ TL.joinL [] (((u :: r).map fun t => tx (40 :: t.codes)).map TL.tl)) = _
    rw [ih]
    simp [opens]
theorem join_opens (ts : List Tr) : PySem.Txt.join ("" : Str) (ts.map fun t => tx (40 :: t.codes)) = tx (opens ts) := by
  rw [TL.join_eq]
  refine PyProof.Rows.ext_toList ?_
  exact (TL.tl_join _ _).trans (joinL_opens ts)
theorem opens_len (ts : List Tr) : (opens ts).length + ts.length + 1 = 3 * (rowT ts).size + 1 := by
  have h := congrArg List.length (row_codes ts)
  rw [Tr.codes_len] at h
  simp only [List.length_append, repl_len, List.length_cons, List.length_nil] at h
  omega
theorem row_mem : ∀ (ts : List Tr) (t : Tr), t ∈ ts → t.size < (rowT ts).size
  | u :: r, t, h => by
    simp only [rowT, Tr.size]
    rcases List.mem_cons.mp h with rfl | h
    · omega
    · have := row_mem r t h
      omega
theorem opens_sum (ts : List Tr) : ((ts.map fun t => tx (40 :: t.codes)).map (·.length)).sum = (opens ts).length := by
  induction ts with
  | nil => rfl
  | cons t r ih =>
    simp only [List.map_cons, List.sum_cons, ih, opens, List.flatten_cons, List.length_append]
    rw [tx_len]
theorem tyT16 {K : PySem.W.Frag} {H : Hp} {a : Addr} {xs : List V} (h : SqT K H a xs) : TyX K H (.ref a) (.type "tuple") := by
  rcases h with (h | ⟨o, h⟩) | ⟨o, its, n, h1, h2, _⟩
  · exact .base (.tup h)
  · exact .fTuple h
  · exact .kTuple h1 h2
def spNt : Sp := fun vs H Q _ => ∃ n : Nat, vs = [.int (n : Nat)] ∧ n ≤ 5000 ∧ ∀ H', Same H H' → Q (.str (num n).text) H'
def spRowText (K : PySem.W.Frag) : Sp := fun vs H Q _ => ∃ (l : Addr) (ts : List Tr), vs = [.ref l] ∧ SqL K H l (ts.map fun u => .str u.text) ∧ (rowT ts).size ≤ 100000 ∧ ∀ H', Same H H' → Q (.str (rowT ts).text) H'
def spLc16 (K : PySem.W.Frag) (C : Addr) (n : Nat) : Sp := fun vs H Q _ => ∃ q r, vs = [.ref q] ∧ RAt K C H q r ∧ deepR r < n ∧ manyR r ≤ 4000 ∧ (codeR r).size ≤ 100000 ∧ ∀ H', Same H H' → Q (.str (codeR r).text) H'
section
variable {P : Program} {w : World} {K : PySem.W.Frag} {mg : Str → Option Value} {base : Heap} {C : Addr}
theorem scNt : FnScope ["_law_n"] ["_law_n"] (defScope sNt16) := ⟨rfl, rfl, rfl, by decide +kernel, rfl, by decide +kernel, by decide +kernel⟩
theorem scLc16 : FnScope ["_law_deeds_here", "_law_kinds", "_law_found", "_law_deed_here", "_law_some", "_law_piece"] ["_law_deeds_here"] (defScope sLc16) := ⟨rfl, rfl, rfl, by decide +kernel, rfl, by decide +kernel, by decide +kernel⟩
theorem ok_nt {f : Addr} {fd : FuncData} (F : Fun K "_law_number_text" "_law_number_text" sNt16 f fd) : FnOk P w K mg base CX0 1 f fd ["_law_n"] spNt := by
  refine F.ok scNt (fun vs H Q E h => ?_) (fun cdv A outer s H vs Q E hr h => ?_)
  · obtain ⟨n, rfl, _⟩ := h
    rfl
  · obtain ⟨n, rfl, hn, k⟩ := h
    refine ⟨_, pss_one (ps_ret (pe_op op_addX (pe_op op_addX (pe_op op_mulS pe_str (pv 0)) pe_str) (pe_op op_mulS pe_str (pv 0)))), ?_⟩
    refine ⟨_, rfl, _, n, congrArg V.str c_4046, rfl, by simp; omega, by omega, by simp, _, _, rfl, congrArg V.str c_46, by rw [repl_len]; simp; omega, _, rfl, _, n, congrArg V.str c_41, rfl, by simp; omega, by omega, by simp, _, _, rfl, rfl, ?_, ?_⟩
    · simp only [List.length_append, repl_len, List.length_cons, List.length_nil]; omega
    rw [← num_text]
    exact k H (Same.refl H)
theorem scRT : FnScope ["_law_texts", "_law_text"] ["_law_texts"] (defScope sRowText) := ⟨rfl, rfl, rfl, by decide +kernel, rfl, by decide +kernel, by decide +kernel⟩
theorem ok_rowText {f : Addr} {fd : FuncData} (F : Fun K "_law_row_text" "_law_row_text" sRowText f fd) (B : Blt mg) : FnOk P w K mg base CX0 1 f fd ["_law_texts"] (spRowText K) := by
  refine F.ok scRT (fun vs H Q E h => ?_) (fun cdv A outer s H vs Q E hr h => ?_)
  · obtain ⟨l, ts, rfl, _⟩ := h
    rfl
  · obtain ⟨l, ts, rfl, hl, hz, k⟩ := h
    refine ⟨_, pss_one (ps_ret (pe_op op_addX (pe_op op_addX (pe_join pe_str (pe_lc (own := [("_law_text", 1)]) (g := gName 1) (tt := tYes) rfl scRT.nd (pi_list (pv 0)) (blkOk_by (N := ["_law_texts", "_law_text"]) (sc := defScope sRowText) (by decide +kernel)) (fun _ _ _ _ _ => pg_name (i := 1) scRT.nd rfl (Or.inl rfl)) (fun _ _ _ _ _ => pts_nil) (fun _ _ _ _ _ => (pe_op op_addX pe_str (pv 1))))) pe_str) (pe_op op_mulS pe_str (pe_callB call_len_seq (by rfl) B.len PySem.boot_len (pa_cons (pv 0) pa_nil))))), ?_⟩
    have hsl : 1000000 < sizeLine := by rw [sizeLine_eq]; decide
    have hol := opens_len ts
    have hos := opens_sum ts
    refine ⟨⟨_, rfl⟩, _, rfl, l, rfl, ⟨_, hl⟩, fun R nR => lc_list (K := K) (a := l) (xs := ts.map fun u => .str u.text) (fun i H' => Same H H' ∧ H' R = some (.lst ((ts.take i).map fun t => .str (tx (40 :: t.codes))))) ⟨Same.new nR, upd_same⟩ (fun i H' _ z => z.1.seq hl) ?_ ?_⟩
    · rintro i y H8 hy ⟨s8, hR⟩
      rw [List.getElem?_map] at hy
      obtain ⟨t, ht, rfl⟩ := Option.map_eq_some_iff.mp hy
      have hi := (List.getElem?_eq_some_iff.mp ht).1
      have eg := (List.getElem?_eq_some_iff.mp ht).2
      have hcl := Tr.codes_len t
      have hmt := row_mem ts t (List.mem_of_getElem? ht)
      refine ⟨rfl, lc_yes ?_⟩
      refine ⟨_, rfl, [40], t.codes, congrArg V.str c_40, rfl, by simp; omega, ?_⟩
      have hlt := rowT_len ts
      refine ⟨_, hR, by rw [List.length_map, List.length_take]; omega, s8.set nR, ?_⟩
      rw [upd_same, List.take_succ_eq_append_getElem hi, eg, List.map_append]
      rfl
    · rintro H8 ⟨s8, hR⟩
      rw [List.length_map, List.take_length] at hR
      have hlt := rowT_len ts
      have hR' : H8 R = some (.lst ((ts.map fun t => tx (40 :: t.codes)).map V.str)) := by
        rw [hR, List.map_map]
        rfl
      refine ⟨"", R, ts.map (fun t => tx (40 :: t.codes)), rfl, rfl, .inl (SqL.of hR'), ?_, ?_⟩
      · rw [hos, show (("" : Str)).length = 0 from rfl]
        omega
      rw [join_opens]
      refine ⟨_, _, rfl, congrArg V.str c_46, by simp; omega, _, rfl, l, _, rfl, .inl (s8.seq hl), [41], ts.length, congrArg V.str c_41, ?_, by simp; omega, by omega, by simp, _, _, rfl, rfl, ?_, ?_⟩
      · rw [List.length_map]
      · simp only [List.length_append, repl_len, List.length_cons, List.length_nil]
        omega
      · have hk := k H8 s8
        rw [tx_text, row_codes] at hk
        exact hk
theorem ok_lc16 {f : Addr} {fd : FuncData} (F : Fun K "_law_code" "_law_code" sLc16 f fd) (mgf : mg "_law_code" = some (.ref f)) (b : Binds K fd ["_law_deeds_here"] []) (B : Blt mg) (T : Txt K mg C) (mt : mg "tuple" = none) (Ci : PySem.W.kitOne K (.ref C) (.type "int") = some false) (Ct : PySem.W.kitOne K (.ref C) (.type "tuple") = some false) (SS : Spc P w K mg base C "__str__" 2 ["self"] (spStr C)) (DNt : Def P w K mg base "_law_number_text" 1 ["_law_n"] spNt) (DRt : Def P w K mg base "_law_row_text" 1 ["_law_texts"] (spRowText K)) : ∀ n, FnOk P w K mg base CX0 (n + 5) f fd ["_law_deeds_here"] (spLc16 K C n) := by
  intro n
  induction n with
  | zero =>
    refine F.ok scLc16 (fun vs H Q E h => ?_) (fun cdv A outer s H vs Q E hr h => ?_)
    · obtain ⟨q, r, rfl, _⟩ := h
      rfl
    · obtain ⟨q, r, _, _, h, _⟩ := h
      exact absurd h (Nat.not_lt_zero _)
  | succ n G' =>
  refine F.ok scLc16 (fun vs H Q E h => ?_) (fun cdv A outer s H vs Q E hr h => ?_)
  · obtain ⟨q, r, rfl, _⟩ := h
    rfl
  · obtain ⟨q, r, rfl, hq, hdp, hmy, hz, k⟩ := h
    have hr1 : Room 1 _ := hr.mono (by omega)
    have hr4 : Room 4 _ := hr.mono (by omega)
    refine ⟨_, pss_cons (ps_set (i := 1) scLc16.nd rfl (Or.inl rfl) (pe_lst (pa_cons pe_str (pa_cons pe_str (pa_cons pe_str (pa_cons pe_str (pa_cons pe_str (pa_cons pe_str (pa_cons pe_str pa_nil))))))))) (pss_cons (ps_set (i := 2) scLc16.nd rfl (Or.inl rfl) (pe_lst pa_nil)) (pss_cons (ps_for PassesOwn.never rfl (pi_tup (pv 0)) (pg_name (i := 3) scLc16.nd rfl (Or.inl rfl)) (pss_cons (ps_set (i := 4) scLc16.nd rfl (Or.inl rfl) (pe_lst (pa_cons (pe_def DNt hr1 rfl (pa_cons (pe_bm PySem.F.plainAttrs_list PySem.F.slot_list_index PySem.F.type_list_index mt_index (pv 1) (pa_cons (pe_ix (r := rIxT K) ix_tup (pv 3) pe_int (fun _ _ => rfl)) pa_nil)) pa_nil)) pa_nil))) (pss_cons (ps_for PassesOwn.never rfl (pi_tup (pe_slice sl_tup (pv 3) (po_some pe_int) po_none)) (pg_name (i := 5) scLc16.nd rfl (Or.inl rfl)) (pss_one (ps_if (pt_val (pe_callB (r := rIsi K) call_isi (by rfl) T.isi PyProof.Rows.boot_isinstance (pa_cons (pv 5) (pa_cons (pe_bltn (v := .ty "int") rfl B.int PyProof.Rows.boot_int rfl) pa_nil)))) (pss_one (ps_expr (pe_bm PySem.F.plainAttrs_list PySem.F.slot_list_append PySem.F.type_list_append mt_append (pv 4) (pa_cons (pe_def DNt hr1 rfl (pa_cons (pv 5) pa_nil)) pa_nil)))) (pss_one (ps_if (pt_val (pe_callB (r := rIsi K) call_isi (by rfl) T.isi PyProof.Rows.boot_isinstance (pa_cons (pv 5) (pa_cons (pe_bltn (v := .ty "tuple") rfl mt PyProof.Rows.boot_tuple rfl) pa_nil)))) (pss_one (ps_expr (pe_bm PySem.F.plainAttrs_list PySem.F.slot_list_append PySem.F.type_list_append mt_append (pv 4) (pa_cons (pe_call G' hr rfl mgf F.kp b .nil pass0 (pa_cons (pv 5) pa_nil)) pa_nil)))) (pss_one (ps_expr (pe_bm PySem.F.plainAttrs_list PySem.F.slot_list_append PySem.F.type_list_append mt_append (pv 4) (pa_cons (pe_callTy (call_strT SS hr4) (by rfl) B.str PyProof.Rows.boot_str (pa_cons (pv 5) pa_nil)) pa_nil))))))))) (pss_one (ps_expr (pe_bm PySem.F.plainAttrs_list PySem.F.slot_list_append PySem.F.type_list_append mt_append (pv 2) (pa_cons (pe_def DRt hr1 rfl (pa_cons (pv 4) pa_nil)) pa_nil))))))) (pss_one (ps_ret (pe_def DRt hr1 rfl (pa_cons (pv 2) pa_nil)))))), ?_⟩
    have hsl := line4
    obtain ⟨vs, hqv, hvs⟩ := id hq
    have hvl := DsAt.length r vs hvs
    have hml := len_manyN r
    rw [codeR_row] at hz k
    refine ⟨by show 7 ≤ sizeLine; omega, fun L1 nL1 => ?_⟩
    have s1 := Same.new nL1 (o := .lst (strV formKs))
    have e1 : (upd H L1 (.lst (strV formKs))) L1 = some (.lst (strV formKs)) := upd_same
    revert s1 e1
    show Same H (upd H L1 (.lst [V.str "told", V.str "first", V.str "second", V.str "pair", V.str "same", V.str "while", V.str "if"])) → (upd H L1 (.lst [V.str "told", V.str "first", V.str "second", V.str "pair", V.str "same", V.str "while", V.str "if"])) L1 = some (.lst (strV formKs)) → _
    generalize upd H L1 (.lst [V.str "told", V.str "first", V.str "second", V.str "pair", V.str "same", V.str "while", V.str "if"]) = H1
    intro s1 e1
    refine ⟨Nat.zero_le _, fun L2 nL2 => ?_⟩
    have s2 := Same.new nL2 (o := .lst [])
    have e2 : (upd H1 L2 (.lst [])) L2 = some (.lst []) := upd_same
    revert s2 e2
    generalize upd H1 L2 (.lst []) = H2
    intro s2 e2
    refine ⟨_, rfl, q, rfl, ⟨_, sqt_kt (KT.of (s1.trans s2)) hqv⟩, for_tup (K := K) (a := q) (xs := vs) (fun i σ H' => ∃ x3 x4 x5 : Option V, σ = [some (.ref q), some (.ref L1), some (.ref L2), x3, x4, x5] ∧ Same H1 H' ∧ H' L2 = some (.lst (((r.take i).map Dd.code).map fun u => .str u.text))) ⟨none, none, none, rfl, s2, e2⟩ (fun i σ H' _ z => by obtain ⟨_, _, _, _, z, _⟩ := z; exact sqt_kt (KT.of (s1.trans z)) hqv) ?_ ?_⟩
    · rintro i v σ H3 hv ⟨x3, x4, x5, rfl, s3, e3⟩
      obtain ⟨d, hd, hdv⟩ := DsAt.get r vs i v hvs hv
      have hdm := List.mem_of_getElem? hd
      have hdd := deepR_mem r d hdm
      have hdy := many_memN r d hdm
      have hdz := rowT_size_mem (r.map Dd.code) d.code (List.mem_map.mpr ⟨d, hdm, rfl⟩)
      obtain ⟨p, its, rfl, hp, hl, hpl, hne, hl3, hall⟩ := deed_partsN (n := n) d hdv (by omega) (by omega)
      rw [code_parts] at hdz
      have hki := kix_le d
      obtain ⟨hk1, hk2⟩ := kix_at d
      have s03 := s1.trans s3
      have hp3 := sqt_kt (KT.of s03) hp
      have e13 := s3 _ _ e1
      refine ⟨_, rfl, .inl ⟨rfl, _, SqL.of e13⟩, _, rfl, p, _, 0, _, rfl, rfl, hp3, at0 _ _, L1, _, _, d.kix, _, rfl, rfl, SqL.of e13, rfl, strV_flat' _, hk1, by simp [eqV], hk2, d.kix, rfl, by omega, fun H4 s4 => ?_⟩
      refine ⟨by show 1 ≤ sizeLine; omega, fun L4 nL4 => ?_⟩
      have s5 := Same.new nL4 (o := .lst [V.str (num d.kix).text])
      have e5 : (upd H4 L4 (.lst [V.str (num d.kix).text])) L4 = some (.lst [V.str (num d.kix).text]) := upd_same
      revert s5 e5
      generalize upd H4 L4 (.lst [V.str (num d.kix).text]) = H5
      intro s5 e5
      have s35 := s4.trans s5
      refine ⟨_, rfl, _, rfl, p, _, rfl, sqt_kt (KT.of s35) hp3, ?_, fun q5 nq5 => ?_⟩
      · rintro ⟨h0, _⟩
        have e : HT.sIx (its.length + 1) 0 (some 1) = 1 := by
          show min 1 (its.length + 1) = 1
          omega
        rw [List.length_cons, e] at h0
        cases h0
      rw [cut1]
      have s6 := Same.new nq5 (o := .tup its)
      have e6 : (upd H5 q5 (.tup its)) q5 = some (.tup its) := upd_same
      revert s6 e6
      generalize upd H5 q5 (.tup its) = H6
      intro s6 e6
      have s36 := s35.trans s6
      refine ⟨q5, rfl, ⟨_, SqT.of e6⟩, for_tup (K := K) (a := q5) (xs := its) (fun j σ H' => ∃ y5 : Option V, σ = [some (.ref q), some (.ref L1), some (.ref L2), some (.ref p), some (.ref L4), y5] ∧ Same H4 H' ∧ SqT K H' q5 its ∧ H' L4 = some (.lst ((num d.kix :: d.prts.take j).map fun u => .str u.text))) ⟨_, rfl, s5.trans s6, SqT.of e6, by rw [List.take_zero]; exact s6 _ _ e5⟩ (fun j σ H' _ z => by obtain ⟨_, _, _, z, _⟩ := z; exact z) ?_ ?_⟩
      · rintro j x σ H7 hx ⟨y5, rfl, s7, hq7, e7⟩
        obtain ⟨c, hc⟩ : ∃ c, (formOf d).cps[j]? = some c := ⟨_, Array.getElem?_eq_getElem (by have := (List.getElem?_eq_some_iff.mp hx).1; omega)⟩
        obtain ⟨t, ht, hpt⟩ := hall j x c hx hc
        have htz := rowT_size_mem (num d.kix :: d.prts) t (List.mem_cons_of_mem _ (List.mem_of_getElem? ht))
        have s37 := s4.trans s7
        have hip := (List.getElem?_eq_some_iff.mp ht).1
        have e9 : num d.kix :: d.prts.take (j + 1) = (num d.kix :: d.prts.take j) ++ [t] := by
          rw [List.take_succ_eq_append_getElem hip, (List.getElem?_eq_some_iff.mp ht).2]
          rfl
        have nL4' : H4 L4 = none := nL4
        have fin : ∀ H8, Same H7 H8 → (((num d.kix :: d.prts.take j).map fun u => V.str u.text).length < sizeLine) ∧ Same H4 (upd H8 L4 (.lst (((num d.kix :: d.prts.take j).map fun u => V.str u.text) ++ [V.str t.text]))) ∧ SqT K (upd H8 L4 (.lst (((num d.kix :: d.prts.take j).map fun u => V.str u.text) ++ [V.str t.text]))) q5 its ∧
            (upd H8 L4 (.lst (((num d.kix :: d.prts.take j).map fun u => V.str u.text) ++ [V.str t.text]))) L4 = some (.lst ((num d.kix :: d.prts.take (j + 1)).map fun u => V.str u.text)) := fun H8 s8 => by
          have e8 := s8 _ _ e7
          refine ⟨?_, ?_, ?_, ?_⟩
          · rw [List.length_map, List.length_cons, List.length_take]
            omega
          · intro z o' hz'
            rw [upd_ne (ne_of_none hz' nL4')]
            exact s8 _ _ (s7 _ _ hz')
          · exact sqt_kt (KT.lst e8) (sqt_kt (KT.of s8) hq7)
          · rw [upd_same, e9, List.map_append]
            rfl
        rcases hpt.same (s03.trans s37) with ⟨rfl, a, ha, rfl, rfl⟩ | ⟨rfl, y, rfl, hy, hyz⟩ | ⟨rfl, q', r', rfl, hq', hd', hmy', rfl⟩
        · refine ⟨_, rfl, _, _, _, _, true, rfl, ClsV.ty _, .base (.int _), kit_ty (by decide +kernel), _, rfl, iteT ?_⟩
          refine ⟨_, rfl, .inl ⟨rfl, _, SqL.of e7⟩, _, rfl, a, rfl, by omega, fun H8 s8 => ?_⟩
          obtain ⟨g1, g2, g3, g4⟩ := fin H8 s8
          exact ⟨L4, _, _, rfl, rfl, s8 _ _ e7, g1, _, rfl, g2, g3, g4⟩
        · obtain ⟨d1, f1, f2, hob⟩ := hy.obj
          refine ⟨_, rfl, _, _, _, _, false, rfl, ClsV.ty _, .base (.ins hob T.cl T.ca T.cn T.ct T.cm), Ci, _, rfl, iteF ?_⟩
          refine ⟨_, rfl, _, _, _, _, false, rfl, ClsV.ty _, .base (.ins hob T.cl T.ca T.cn T.ct T.cm), Ct, _, rfl, iteF ?_⟩
          refine ⟨_, rfl, .inl ⟨rfl, _, SqL.of e7⟩, _, rfl, y, t, rfl, hy, hyz, fun H8 s8 => ?_⟩
          obtain ⟨g1, g2, g3, g4⟩ := fin H8 s8
          exact ⟨L4, _, _, rfl, rfl, s8 _ _ e7, g1, _, rfl, g2, g3, g4⟩
        · obtain ⟨vq, hvq, _⟩ := id hq'
          refine ⟨_, rfl, _, _, _, _, false, rfl, ClsV.ty _, tyT16 hvq, kit_ty (by decide +kernel), _, rfl, iteF ?_⟩
          refine ⟨_, rfl, _, _, _, _, true, rfl, ClsV.ty _, tyT16 hvq, kit_ty (by decide +kernel), _, rfl, iteT ?_⟩
          refine ⟨_, rfl, .inl ⟨rfl, _, SqL.of e7⟩, _, rfl, q', r', rfl, hq', hd', hmy', by omega, fun H8 s8 => ?_⟩
          obtain ⟨g1, g2, g3, g4⟩ := fin H8 s8
          exact ⟨L4, _, _, rfl, rfl, s8 _ _ e7, g1, _, rfl, g2, g3, g4⟩
      · rintro σ H7 ⟨y5, rfl, s7, hq7, e7⟩
        rw [← hpl, List.take_length] at e7
        have s37 := s4.trans s7
        have e37 := s37 _ _ e3
        refine ⟨_, rfl, .inl ⟨rfl, _, SqL.of e37⟩, _, rfl, L4, num d.kix :: d.prts, rfl, SqL.of e7, by omega, fun H8 s8 => ?_⟩
        have hir := (List.getElem?_eq_some_iff.mp hd).1
        have hmm : (r.map Dd.code)[i]? = some d.code := by rw [List.getElem?_map, hd]; rfl
        have e38 := s8 _ _ e37
        refine ⟨L2, _, _, rfl, rfl, e38, ?_, _, _, _, rfl, ?_, ?_⟩
        · rw [List.length_map, List.length_map, List.length_take]
          omega
        · intro z o' hz'
          rw [upd_ne (ne_of_none hz' nL2)]
          exact s8 _ _ (s37 _ _ (s3 _ _ hz'))
        · rw [upd_same, List.take_succ_eq_append_getElem hir, (List.getElem?_eq_some_iff.mp hd).2, List.map_append, List.map_append, ← code_parts]
          rfl
    · rintro σ H3 ⟨x3, x4, x5, rfl, s3, e3⟩
      rw [hvl, List.take_length] at e3
      exact ⟨_, rfl, L2, r.map Dd.code, rfl, SqL.of e3, hz, fun H4 s4 => k H4 ((s1.trans s3).trans s4)⟩
end
end Js
set_option Elab.async false
set_option linter.all false
set_option maxRecDepth 100000
set_option maxHeartbeats 2000000
namespace JsZL
open PySem PySem.Spec PyProof.Rows L2
abbrev zs1 (h : Heap) (l : Addr) : Heap := h.push { cls := .type "list_iterator", data := .fields #[.ref l, .int 0 0] }
abbrev zs2 (h : Heap) (l : Addr) (x : Str) (t : Tok) : Heap := (zs1 h l).push { cls := .type (strIterType x), data := .fields #[.str x t, .int 0 0] }
abbrev zs3 (h : Heap) (l : Addr) (x : Str) (t : Tok) : Heap := (zs2 h l x t).push { cls := .type "tuple", data := .seq #[.ref h.objs.size, .ref (zs1 h l).objs.size] }
abbrev zs4 (h : Heap) (l : Addr) (x : Str) (t : Tok) : Heap := (zs3 h l x t).push { cls := .type "tuple", data := .seq #[.none, .none] }
abbrev zs5 (h : Heap) (l : Addr) (x : Str) (t : Tok) : Heap := (zs4 h l x t).push { cls := .type "zip", data := .fields #[.none, .bool false, .bool false, .ref (zs2 h l x t).objs.size, .ref (zs3 h l x t).objs.size] }
theorem new_zipLS (l : Addr) (x : Str) (t : Tok) (us : Array Value) :
    Meets (Builtin.«zip.__new__» ⟨[.type "zip", .ref l, .str x t], []⟩) (fun _ R s => s.heap.IsList l us ∧ R (.ok (.ret (.ref (zs4 s.heap l x t).objs.size))) { s with heap := zs5 s.heap l x t }) :=
  .of_wp fun prog w A R s h => by
    obtain ⟨hp, g, d, tk, os⟩ := s; obtain ⟨h1, h⟩ := h
    have hsub := sub_zip
    have hL : Heap.IsList (Shared.heap ⟨hp, g, d, tk, os⟩) l us := h1
    wp_walk using wpAny_pyIter_list hL, wpAny_pyIter_strU
    exact ⟨_, rfl, h⟩
section
variable {prog : Program} {w : World} {A : Around} {E : Value → Shared → Prop} {s : Shared}
theorem call_zipLS {l : Addr} {x : Str} {t : Tok} {us : Array Value} {Q : Value → Shared → Prop} (hl : s.heap.IsList l us)
    (h : ∀ h', IsZip h' (s.heap.objs.size + 4) (s.heap.objs.size + 2) (s.heap.objs.size + 3) .none → IsPair h' (s.heap.objs.size + 2) (.ref s.heap.objs.size) (.ref (s.heap.objs.size + 1)) →
      IsPair h' (s.heap.objs.size + 3) .none .none → h'.IsListIter s.heap.objs.size l 0 → h'.IsStrIter (s.heap.objs.size + 1) (strIterType x) x t 0 → h'.objs.size = s.heap.objs.size + 5 →
      (∀ c o, s.heap.get? c = some o → h'.get? c = some o) → Q (.ref (s.heap.objs.size + 4)) { s with heap := h' }) :
    wpAny (model prog w) A (call (.type "zip") [.ref l, .str x t]) Q E s := by
  refine callType_new F.called_zip (by decide) (F.typeCall_zip_2 _ _) (F.newCall_zip_2 _ _) (fun obj => F.args_object_init_3 obj _ _) F.entry_zip_new (new_zipLS l x t us) ⟨hl, ?_⟩
  have z1 : (zs1 s.heap l).objs.size = s.heap.objs.size + 1 := Heap.size_push ..
  have z2 : (zs2 s.heap l x t).objs.size = s.heap.objs.size + 2 := by rw [Heap.size_push, z1]
  have z3 : (zs3 s.heap l x t).objs.size = s.heap.objs.size + 3 := by rw [Heap.size_push, z2]
  have z4 : (zs4 s.heap l x t).objs.size = s.heap.objs.size + 4 := by rw [Heap.size_push, z3]
  have z5 : (zs5 s.heap l x t).objs.size = s.heap.objs.size + 5 := by rw [Heap.size_push, z4]
  have g5 : (zs5 s.heap l x t).get? (zs4 s.heap l x t).objs.size = some _ := Heap.get?_push_size _ rfl
  have g4 : (zs5 s.heap l x t).get? (zs3 s.heap l x t).objs.size = some _ := Heap.get?_push_of_some _ (Heap.get?_push_size _ rfl)
  have g3 : (zs5 s.heap l x t).get? (zs2 s.heap l x t).objs.size = some _ := Heap.get?_push_of_some _ (Heap.get?_push_of_some _ (Heap.get?_push_size _ rfl))
  have g2 : (zs5 s.heap l x t).get? (zs1 s.heap l).objs.size = some _ := Heap.get?_push_of_some _ (Heap.get?_push_of_some _ (Heap.get?_push_of_some _ (Heap.get?_push_size _ rfl)))
  have g1 : (zs5 s.heap l x t).get? s.heap.objs.size = some _ := Heap.get?_push_of_some _ (Heap.get?_push_of_some _ (Heap.get?_push_of_some _ (Heap.get?_push_of_some _ (Heap.get?_push_size _ rfl))))
  show _ ∧ _
  rw [z2, z3, z4] at g5
  rw [z1, z2] at g3
  rw [z3] at g4
  rw [z1] at g2
  rw [z4]
  exact ⟨⟨_, g5, rfl⟩, h _ g5 g3 g4 ⟨_, g1, rfl, rfl⟩ ⟨_, g2, rfl, rfl⟩ z5 fun c o q => Heap.get?_push_of_some _ (Heap.get?_push_of_some _ (Heap.get?_push_of_some _ (Heap.get?_push_of_some _ (Heap.get?_push_of_some _ q))))⟩
end
def ItLS (K : PySem.W.Frag) (a : Addr) (t : Str) : It :=
  ⟨fun i H => ∃ (xs : List V) (x : V) (c : Nat), SqL K H a xs ∧ xs[i]? = some x ∧ t.cps[i]? = some c,
    fun i H v H' => ∃ T x c, v = .ref T ∧ H T = none ∧ H' = upd H T (.tup [x, .str ⟨#[c]⟩]) ∧ (∀ xs, SqL K H a xs → xs[i]? = some x) ∧ t.cps[i]? = some c,
    fun i H => ∃ xs : List V, SqL K H a xs ∧ i ≤ xs.length ∧ i ≤ t.cps.size ∧ (i = xs.length ∨ i = t.cps.size)⟩
theorem turn_LS {P : Program} {w : World} {K : PySem.W.Frag} {elts : List Expr} {kk : Nat} {tpos : Pos} {a z TI TO i1 i2 : Addr} (t : Str) (tk : Tok) (D : ZipSep2 z TI TO i1 i2 [i1, a] [i2]) (ha : a ≠ i1) :
    Turn P w K (.Tuple elts kk tpos) (ItLS K a t) [z, TI, TO, i1, i2] z (fun i h => IsZip h z TI TO .none ∧ IsPair h TI (.ref i1) (.ref i2) ∧ (∃ x y, IsPair h TO x y) ∧ h.IsListIter i1 a i ∧ h.IsStrIter i2 (strIterType t) t tk i) where
  mem := by simp
  obj := fun i h st c hc => by
    obtain ⟨hz, hTI, ⟨x, y, hTO⟩, ⟨o1, e1, _, d1⟩, ⟨o2, e2, _, d2⟩⟩ := st
    have e' : c = z ∨ c = TI ∨ c = TO ∨ c = i1 ∨ c = i2 := by simpa using hc
    rcases e' with q | q | q | q | q
    · rw [q]; exact ⟨_, hz, fun v q => nomatch q⟩
    · rw [q]; exact ⟨_, hTI, fun v q => nomatch q⟩
    · rw [q]; exact ⟨_, hTO, fun v q => nomatch q⟩
    · rw [q]; exact ⟨o1, e1, fun v q => by rw [d1] at q; cases q⟩
    · rw [q]; exact ⟨o2, e2, fun v q => by rw [d2] at q; cases q⟩
  keep := fun i h h' st k => by
    obtain ⟨hz, hTI, ⟨x, y, hTO⟩, h1, ⟨o, ho, r⟩⟩ := st
    exact ⟨k z (by simp) _ hz, k TI (by simp) _ hTI, ⟨x, y, k TO (by simp) _ hTO⟩, h1.at fun o q => k i1 (by simp) o q, ⟨o, k i2 (by simp) o ho, r⟩⟩
  item := by
    intro X hP hw hK hc i pins s σ H E I hf st hg
    subst hP hw hK
    obtain ⟨hz, hTI, ⟨x0, y0, hTO⟩, h1, h2⟩ := st
    obtain ⟨xs, x, c, hqx, hx, hcx⟩ := hg
    obtain ⟨us, rv, p0, _⟩ := I.list hqx
    have p := p0.isList
    obtain ⟨u, hu, ru⟩ := rv.get hx
    have hzl : z < s.heap.objs.size := Heap.lt_size hz
    have hh : X.A.in1.handled = none := I.ok.hd hc
    have li : i < us.toArray.size := by
      have := (List.getElem?_eq_some_iff.mp hu).1
      simpa using this
    have lc : i < t.cps.size := (Array.getElem?_eq_some_iff.mp hcx).1
    refine wpAny_pyNext_zipD2_item D (Draws.list hh i1 a ha us.toArray) (Draws.text hh i2 t tk) hz hTI hTO ⟨h1, p⟩ h2 li lc fun v1 v2 h' tk' q1 q2 z' TO' s1' s2' hT hsz hk => ?_
    obtain ⟨c', tu, hc', rfl⟩ := q2
    have ev : v1 = u := by
      have : us.toArray[i]? = some u := by simpa using hu
      exact Option.some.inj (q1.symm.trans this)
    subst ev
    cases Option.some.inj (hc'.symm.trans hcx)
    refine ⟨_, rfl, wpAny_letOwnedTupleGo_zip (s := { s with heap := h', toks := tk' }) z' fun h'' z'' sb => ?_⟩
    have hT2 : h''.get? s.heap.objs.size = some { cls := .type "tuple", data := .seq #[v1, .str ⟨#[c]⟩ tu] } := (sb.2 _ (Nat.ne_of_gt hzl)).trans hT
    have new : ObjOk X.prog X.w (upd H s.heap.objs.size (.tup [x, .str ⟨#[c]⟩])) h'' s.heap.objs.size (.tup [x, .str ⟨#[c]⟩]) := ⟨by show 2 ≤ sizeLine; decide, [v1, .str ⟨#[c]⟩ tu], .cons ru (.cons ⟨_, rfl⟩ .nil), ⟨_, hT2, rfl, _, rfl⟩⟩
    have I1 : Inv X pins σ (upd H s.heap.objs.size (.tup [x, .str ⟨#[c]⟩])) { s with heap := h'', toks := tk' } :=
      I.turnedNew (ch := [z, TI, TO, i1, i2]) (fun c o hb q => (sb.2 c (fun q' => hb (by simp [q']))).trans (hk c o (fun q' => hb (by simp [q'])) (fun q' => hb (by simp [q'])) (fun q' => hb (by simp [q'])) (fun q' => hb (by simp [q'])) q)) hf (Nat.le_refl _) new
    refine ⟨.ref s.heap.objs.size, _, I1, rfl, ⟨_, x, c, rfl, I.hok.fresh (Nat.le_refl _), rfl, fun l hl => by rw [I.list_inj hl hqx]; exact hx, hcx⟩, ⟨z'', ?_, ⟨v1, .str ⟨#[c]⟩ tu, ?_⟩, ?_, ?_⟩, fun b hb => ?_⟩
    · exact (sb.2 _ D.TIz).trans (hk _ _ D.TIz D.TITO D.TIi1 D.TIi2 hTI)
    · exact (sb.2 _ D.TOz).trans TO'
    · exact s1'.1.at fun o q => (sb.2 _ (Ne.symm D.zi1)).trans q
    · obtain ⟨o, ho, r⟩ := s2'
      exact ⟨o, (sb.2 _ (Ne.symm D.zi2)).trans ho, r⟩
    · have hlt : b < s.heap.objs.size := by
        have e' : b = z ∨ b = TI ∨ b = TO ∨ b = i1 ∨ b = i2 := by simpa using hb
        rcases e' with q | q | q | q | q
        · rw [q]; exact hzl
        · rw [q]; exact Heap.lt_size hTI
        · rw [q]; exact Heap.lt_size hTO
        · rw [q]; obtain ⟨_, e1, _⟩ := h1; exact Heap.lt_size e1
        · rw [q]; obtain ⟨_, e2, _⟩ := h2; exact Heap.lt_size e2
      rw [upd_ne (Nat.ne_of_lt hlt)]
      exact (hf b hb).1
  done := by
    intro X hP hw hK hc i pins s σ H E I hf st hg
    subst hP hw hK
    obtain ⟨hz, hTI, ⟨x0, y0, hTO⟩, h1, h2⟩ := st
    obtain ⟨xs, hqx, l1, l2, hend⟩ := hg
    obtain ⟨us, rv, p0, _⟩ := I.list hqx
    have p := p0.isList
    have lu : us.toArray.size = xs.length := by rw [List.size_toArray, ← rv.length]
    have hh : X.A.in1.handled = none := I.ok.hd hc
    exact wpAny_pyNext_zipD2_end D (Draws.list hh i1 a ha us.toArray) (Draws.text hh i2 t tk) hz hTI hTO ⟨h1, p⟩ h2 (by omega) l2 (by omega) fun h' tk' hk => ⟨rfl, I.turnedL (t' := tk') (ch := [z, TI, TO, i1, i2]) (fun c o hb q =>
      hk c o (fun q' => hb (by simp [q'])) (fun q' => hb (by simp [q'])) (fun q' => hb (by simp [q'])) (fun q' => hb (by simp [q'])) q) hf⟩
  self := fun A i s Q E st h => wpAny_pyIter_zip st.1 h
end JsZL
namespace L2
open PySem PySem.Spec PyProof.Rows
def iZipLS (K : PySem.W.Frag) (ta : TA) : TI := fun σ H R => ta σ H fun vs H1 => ∃ a t xs, vs = [.ref a, .str t] ∧ SqL K H1 a xs ∧ R (JsZL.ItLS K a t) H1
theorem pi_zipLS {X : Cx} {e e2 : Expr} {ta : TA} {p pos tpos : Pos} {elts : List Expr} {kk : Nat} (hg : Gl X "zip") (hm : X.mg "zip" = none) (ha : PA X [e, e2] ta)
    (hs : starEach [e, e2] X.env = (false, eval e X.env) :: starEach [e2] X.env := by rfl) (hpl : (backTo pos (starEach [e2] X.env)).any (·.1) = false := by rfl) : PI X (.Tuple elts kk tpos) (.Call (.Name "zip" p) [e, e2] [] pos) (iZipLS X.K ta) := by
  refine ⟨fun pins s σ H R I h => ?_⟩
  refine Call_ (ld_blt I hg hm PyProof.Rows.boot_zip (PyProof.Rows.callWith_type1 (thn (ha.run pos pins s σ H _ I h) fun us s1 ⟨vs, H1, I1, r1, q1⟩ => ?_) hs hpl))
  obtain ⟨a, t, xs, ex, hqx, q⟩ := q1
  subst ex
  cases r1 with
  | cons r rr =>
    cases rr with
    | cons r' rr =>
      cases rr
      cases r
      obtain ⟨tk, rfl⟩ := r'
      have fresh5 : ∀ c, c ∈ [s1.heap.objs.size + 4, s1.heap.objs.size + 2, s1.heap.objs.size + 3, s1.heap.objs.size, s1.heap.objs.size + 1] → FpOk X pins H1 c := fun c hcm => by
        have hle : s1.heap.objs.size ≤ c := by
          simp only [List.mem_cons, List.not_mem_nil, or_false] at hcm
          omega
        exact I1.fpOk hle (I1.hok.fresh hle)
      obtain ⟨its, rv, p0, _⟩ := I1.list hqx
      have p1 := p0.isList
      obtain ⟨o1, ho1, _⟩ := id p1
      have la := Heap.lt_size ho1
      refine JsZL.call_zipLS p1 fun h' hz hTI hTO h1 h2 hsz hk => wpAny_pyIter_zip hz ?_
      have I2 : Inv X pins σ H1 { s1 with heap := h' } := I1.kept (t' := s1.toks) hk
      have D : ZipSep2 (s1.heap.objs.size + 4) (s1.heap.objs.size + 2) (s1.heap.objs.size + 3) s1.heap.objs.size (s1.heap.objs.size + 1) [s1.heap.objs.size, a] [s1.heap.objs.size + 1] := by
        have la2 : ∀ k, s1.heap.objs.size + k ≠ a := fun k h => absurd la (by rw [← h]; exact Nat.not_lt.mpr (Nat.le_add_right _ _))
        constructor <;> simp <;> first | omega | exact la2 _
      exact ⟨s1.heap.objs.size + 4, [s1.heap.objs.size + 4, s1.heap.objs.size + 2, s1.heap.objs.size + 3, s1.heap.objs.size, s1.heap.objs.size + 1], _, _, H1, rfl, I2, JsZL.turn_LS t tk D (Nat.ne_of_lt la), ⟨hz, hTI, ⟨_, _, hTO⟩, h1, h2⟩, fresh5, q⟩
theorem walk_zipLS {K : PySem.W.Frag} {a : Addr} {t : Str} {xs : List V} {n : Nat} (hn : n = min xs.length t.cps.size) : Walk (JsZL.ItLS K a t) n (fun H => SqL K H a xs) (fun i H v H' => ∃ T x c, v = .ref T ∧ H T = none ∧ H' = upd H T (.tup [x, .str ⟨#[c]⟩]) ∧ xs[i]? = some x ∧ t.cps[i]? = some c) :=
  ⟨fun i H hi hq => by
      have h1 : i < xs.length := by omega
      have h2 : i < t.cps.size := by omega
      exact ⟨xs, xs[i], t.cps[i], hq, List.getElem?_eq_getElem h1, Array.getElem?_eq_getElem h2⟩, fun H hq => ⟨xs, hq, by omega, by omega, by omega⟩, fun i H v H' hi hq y => by
      obtain ⟨T, x, c, e1, e2, e3, e4, e5⟩ := y
      exact ⟨T, x, c, e1, e2, e3, e4 xs hq, e5⟩⟩
end L2
set_option Elab.async false
set_option linter.all false
set_option maxRecDepth 100000
set_option maxHeartbeats 2000000
namespace Js
open PySem L2
inductive Pc where
  | nm (b : Nat)
  | th (t : Tr)
  | rw (r : List Dd)
def PcAt (K : PySem.W.Frag) (C : Addr) (H : Hp) (v : V) : Pc → Prop
  | .nm b => b < 10 ∧ v = .int (b : Nat)
  | .th t => t.size ≤ 4000 ∧ ∃ a, v = .ref a ∧ Th C H a t
  | .rw r => ∃ q, v = .ref q ∧ RAt K C H q r
theorem PcAt.kt {K : PySem.W.Frag} {C : Addr} {H H' : Hp} (k : KT H H') {v : V} : ∀ {x : Pc}, PcAt K C H v x → PcAt K C H' v x
  | .nm _, h => h
  | .th _, ⟨z, a, e, h⟩ => ⟨z, a, e, h.kt k⟩
  | .rw _, ⟨q, e, h⟩ => ⟨q, e, h.kt k⟩
def Pc.deep : Pc → Nat
  | .rw r => deepR r + 1
  | _ => 0
end Js
set_option Elab.async false
set_option linter.all false
set_option maxRecDepth 100000
set_option maxHeartbeats 2000000
namespace Js
open PySem L2
open PySem.Spec PyProof.Rows
mutual
def Dd.ok : Dd → Prop
  | .told a t => a < 10 ∧ t.size ≤ 4000
  | .take _ a b => a < 10 ∧ b < 10
  | .two _ a b c => a < 10 ∧ b < 10 ∧ c < 10
  | .wh a r => a < 10 ∧ okR r
  | .iff a r o => a < 10 ∧ okR r ∧ okR o
def okR : List Dd → Prop
  | [] => True
  | d :: r => d.ok ∧ okR r
end
end Js
set_option Elab.async false
set_option linter.all false
set_option maxRecDepth 100000
set_option maxHeartbeats 2000000
namespace Js
open PySem L2
open PySem.Spec PyProof.Rows
abbrev sCounted : Stmt := top 16
abbrev sParts : Stmt := top 18
abbrev sKindT : Stmt := top 44
abbrev sPartT : Stmt := top 45
abbrev sDeedT : Stmt := top 43
abbrev sRowT : Stmt := top 42
abbrev sProgOf : Stmt := top 40
theorem call_lenKD {X : Cx} {d : Addr} {es : Array DictEntry} {n : Nat} (D : KDict X.K X.w d es n) (h7 : es.size = 7) : CallR X (.builtin "len") (fun xs H Q => xs = [.ref d] ∧ Q (.int 7) H) := by
  intro pins s σ H xs us Q I r h
  obtain ⟨rfl, q⟩ := h
  obtain ⟨u, rfl, rx⟩ := vals1 r
  cases rx
  have hraw : s.heap.DictRaw d es n := ⟨_, I.kIn _ _ D.at_, ⟨rfl, rfl, rfl⟩, rfl⟩
  refine Calls.call_function_entry kind_len plain_len entry_len (args_len1 _) (wpAny_bind (m := oneArg "len" _) (wpAny_pure (wpAny_bind (m := callSpecial? (.ref d) (Str.ofString "__len__")) (wpAny_callSpecial?_slot (name := Str.ofString "__len__") hraw.typeIs F.slot_dict_len (call_meetsIn F.slot_dict_len hraw.typeIs F.entry_dict_len (F.args_dict_len_1 _) (meets_dict_len_raw d D.low) ⟨es, n, hraw, ?_⟩)))))
  rw [h7]
  show wpAny _ _ _ _ _ { s with toks := s.toks + 1 }
  refine wpAny_bind (wpAny_holding (wpAny_pure (wpAny_bind (wpAny_letGo ?_))))
  show wpAny _ _ (if ((7 : Nat) : Int) < 0 then _ else (if ((7 : Nat) : Int) ≥ 2 ^ 63 then _ else _)) _ _ _
  rw [if_neg (by omega), if_neg (by omega)]
  exact wpAny_bind (wpAny_mkInt (wpAny_pure ⟨_, rfl, .int 7, H, I.tok _, ⟨_, rfl⟩, q⟩))
inductive Prt where
  | nm (a : Nat)
  | th (t : Tr)
  | rw (r : List Dd)
def Prt.code : Prt → Tr
  | .nm a => num a
  | .th t => t
  | .rw r => codeR r
def Prt.sg : Prt → Nat
  | .nm _ => 110
  | .th _ => 116
  | .rw _ => 114
def Prt.At (K : PySem.W.Frag) (C : Addr) (H : Hp) (x : V) : Prt → Prop
  | .nm a => a < 10 ∧ x = .int ((a : Nat) : Int)
  | .th t => ∃ y, x = .ref y ∧ Th C H y t ∧ t.size ≤ 4000
  | .rw r => ∃ q, x = .ref q ∧ RAt K C H q r
def Prt.ok (n fl : Nat) : Prt → Prop
  | .nm a => a < 10
  | .th t => t.size ≤ 4000
  | .rw r => okR r ∧ deepR r < n ∧ fl + 1 + deepR r ≤ 8
theorem Prt.At.kt {K : PySem.W.Frag} {C : Addr} {H H' : Hp} (s : KT H H') {x : V} : ∀ {p : Prt}, p.At K C H x → p.At K C H' x
  | .nm _, h => h
  | .th _, ⟨y, e, h, z⟩ => ⟨y, e, h.kt s, z⟩
  | .rw _, ⟨q, e, h⟩ => ⟨q, e, h.kt s⟩
theorem ppt_kt {K : PySem.W.Frag} {C : Addr} {H H' : Hp} (s : KT H H') : ∀ {xs : List V} {ps : List Prt}, Paired (fun x p => Prt.At K C H x p) xs ps → Paired (fun x p => Prt.At K C H' x p) xs ps
  | _, _, .nil => .nil
  | _, _, .cons h t => .cons (h.kt s) (ppt_kt s t)
theorem Prt.At.same {K : PySem.W.Frag} {C : Addr} {H H' : Hp} (s : Same H H') {x : V} : ∀ {p : Prt}, p.At K C H x → p.At K C H' x
  | .nm _, h => h
  | .th _, ⟨y, e, h, z⟩ => ⟨y, e, h.same s, z⟩
  | .rw _, ⟨q, e, h⟩ => ⟨q, e, h.same s⟩
def Dd.prs : Dd → List Prt
  | .told a t => [.nm a, .th t]
  | .take _ a b => [.nm a, .nm b]
  | .two _ a b c => [.nm a, .nm b, .nm c]
  | .wh a r => [.nm a, .rw r]
  | .iff a r o => [.nm a, .rw r, .rw o]
theorem prs_code : ∀ d : Dd, d.code = rowT (num d.kix :: d.prs.map Prt.code)
  | .told _ _ => by rw [Dd.code]; rfl
  | .take _ _ _ => by rw [Dd.code]; rfl
  | .two _ _ _ _ => by rw [Dd.code]; rfl
  | .wh _ _ => by rw [Dd.code]; rfl
  | .iff _ _ _ => by rw [Dd.code]; rfl
theorem prs_sg : ∀ d : Dd, (formOf d).cps.toList = d.prs.map Prt.sg
  | .told _ _ => by rw [formOf, cps_nt]; rfl
  | .take _ _ _ => by rw [formOf, cps_nn]; rfl
  | .two _ _ _ _ => by rw [formOf, cps_nnn]; rfl
  | .wh _ _ => by rw [formOf, cps_nr]; rfl
  | .iff _ _ _ => by rw [formOf, cps_nrr]; rfl
theorem prs_len (d : Dd) : d.prs.length ≤ 3 ∧ 2 ≤ d.prs.length := by cases d <;> simp [Dd.prs]
theorem prs_ok {n fl : Nat} : ∀ d : Dd, d.ok → d.deep < n + 1 → fl + d.deep ≤ 8 → ∀ p ∈ d.prs, p.ok n fl
  | .told a t, h, _, _, p, hp => by
    simp only [Dd.prs, List.mem_cons, List.not_mem_nil, or_false] at hp
    rcases hp with rfl | rfl
    · exact h.1
    · exact h.2
  | .take s a b, h, _, _, p, hp => by
    simp only [Dd.prs, List.mem_cons, List.not_mem_nil, or_false] at hp
    rcases hp with rfl | rfl
    · exact h.1
    · exact h.2
  | .two s a b c, h, _, _, p, hp => by
    simp only [Dd.prs, List.mem_cons, List.not_mem_nil, or_false] at hp
    rcases hp with rfl | rfl | rfl
    · exact h.1
    · exact h.2.1
    · exact h.2.2
  | .wh a r, h, h2, h3, p, hp => by
    rw [Dd.deep] at h2 h3
    simp only [Dd.prs, List.mem_cons, List.not_mem_nil, or_false] at hp
    rcases hp with rfl | rfl
    · exact h.1
    · exact ⟨h.2, by omega, by omega⟩
  | .iff a r o, h, h2, h3, p, hp => by
    rw [Dd.deep] at h2 h3
    simp only [Dd.prs, List.mem_cons, List.not_mem_nil, or_false] at hp
    rcases hp with rfl | rfl | rfl
    · exact h.1
    · exact ⟨h.2.1, by omega, by omega⟩
    · exact ⟨h.2.2, by omega, by omega⟩
theorem pd_cons {α β : Type} {R : α → β → Prop} {xs : List α} {b : β} {bs : List β} (h : Paired R xs (b :: bs)) : ∃ x ys, xs = x :: ys ∧ R x b ∧ Paired R ys bs := by
  cases h with
  | cons a t => exact ⟨_, _, rfl, a, t⟩
theorem pd_nil {α β : Type} {R : α → β → Prop} {xs : List α} (h : Paired R xs ([] : List β)) : xs = [] := by
  cases h
  rfl
theorem prs_deed {K : PySem.W.Frag} {C : Addr} {H : Hp} {p : Addr} {its : List V} : ∀ d : Dd, Paired (Prt.At K C H) its d.prs → SqT K H p (.str (kindOf d) :: its) → DAt K C H (.ref p) d
  | .told a t, hp, h => by
    have hp : Paired (Prt.At K C H) its [.nm a, .th t] := hp
    obtain ⟨_, _, rfl, ⟨ha, rfl⟩, hp1⟩ := pd_cons hp
    obtain ⟨_, _, rfl, ⟨y, rfl, hy, hz⟩, hp2⟩ := pd_cons hp1
    cases pd_nil hp2
    exact ⟨p, y, rfl, h, ha, hy, hz⟩
  | .take s a b, hp, h => by
    have hp : Paired (Prt.At K C H) its [.nm a, .nm b] := hp
    obtain ⟨_, _, rfl, ⟨ha, rfl⟩, hp1⟩ := pd_cons hp
    obtain ⟨_, _, rfl, ⟨hb, rfl⟩, hp2⟩ := pd_cons hp1
    cases pd_nil hp2
    exact ⟨p, rfl, h, ha, hb⟩
  | .two s a b c, hp, h => by
    have hp : Paired (Prt.At K C H) its [.nm a, .nm b, .nm c] := hp
    obtain ⟨_, _, rfl, ⟨ha, rfl⟩, hp1⟩ := pd_cons hp
    obtain ⟨_, _, rfl, ⟨hb, rfl⟩, hp2⟩ := pd_cons hp1
    obtain ⟨_, _, rfl, ⟨hc, rfl⟩, hp3⟩ := pd_cons hp2
    cases pd_nil hp3
    exact ⟨p, rfl, h, ha, hb, hc⟩
  | .wh a r, hp, h => by
    have hp : Paired (Prt.At K C H) its [.nm a, .rw r] := hp
    obtain ⟨_, _, rfl, ⟨ha, rfl⟩, hp1⟩ := pd_cons hp
    obtain ⟨_, _, rfl, ⟨q, rfl, vs, h1, h2⟩, hp2⟩ := pd_cons hp1
    cases pd_nil hp2
    exact ⟨p, q, vs, rfl, h, ha, h1, h2⟩
  | .iff a r o, hp, h => by
    have hp : Paired (Prt.At K C H) its [.nm a, .rw r, .rw o] := hp
    obtain ⟨_, _, rfl, ⟨ha, rfl⟩, hp1⟩ := pd_cons hp
    obtain ⟨_, _, rfl, ⟨q, rfl, vs, h1, h2⟩, hp2⟩ := pd_cons hp1
    obtain ⟨_, _, rfl, ⟨q2, rfl, vs2, h3, h4⟩, hp3⟩ := pd_cons hp2
    cases pd_nil hp3
    exact ⟨p, q, vs, q2, vs2, rfl, h, ha, h1, h2, h3, h4⟩
theorem ite_both {b : Bool} {A B : Prop} (hb : B) (ha : b = true → B → A) : if b = true then A else B := by
  cases b with
  | true => exact iteT (ha rfl hb)
  | false => exact iteF hb
theorem prs_deep (d : Dd) (h : 114 ∈ (formOf d).cps.toList) : 1 ≤ d.deep := by
  rw [prs_sg] at h
  cases d with
  | told a t => simp [Dd.prs, Prt.sg] at h
  | take s a b => simp [Dd.prs, Prt.sg] at h
  | two s a b c => simp [Dd.prs, Prt.sg] at h
  | wh a r => rw [Dd.deep]; omega
  | iff a r o => rw [Dd.deep]; omega
theorem okR_mem : ∀ (r : List Dd) (d : Dd), okR r → d ∈ r → d.ok
  | [], _, _, h => by cases h
  | x :: r, d, h, hm => by
    rcases List.mem_cons.mp hm with rfl | hm
    · exact h.1
    · exact okR_mem r d h.2 hm
theorem DsAt_snocT {K : PySem.W.Frag} {C : Addr} {H : Hp} {v : V} {d : Dd} : ∀ (r : List Dd) (vs : List V), DsAt K C H vs r → DAt K C H v d → DsAt K C H (vs ++ [v]) (r ++ [d])
  | [], vs, h, hd => by
    have e : vs = [] := h
    subst e
    exact ⟨v, [], rfl, hd, rfl⟩
  | x :: r, vs, h, hd => by
    obtain ⟨u, us, rfl, h1, h2⟩ := h
    exact ⟨u, us ++ [v], rfl, h1, DsAt_snocT r us h2 hd⟩
def spCounted (C : Addr) : Sp := fun vs H Q _ => ∃ a n, vs = [.ref a] ∧ Th C H a (num n) ∧ Q (.int ((n : Nat) : Int)) H
def spParts (C : Addr) : Sp := fun vs H Q _ => ∃ a ts, vs = [.ref a] ∧ Th C H a (rowT ts) ∧ (rowT ts).size ≤ 4000 ∧ ∀ l us H', Same H H' → H l = none → H' l = some (.lst us) → Paired (ThV C H') us ts → Q (.ref l) H'
def spKindT (C : Addr) : Sp := fun vs H Q _ => ∃ l us ts d, vs = [.ref l] ∧ H l = some (.lst us) ∧ Paired (ThV C H) us (num (Dd.kix d) :: ts) ∧ ∀ H', Same H H' → Q (.str (kindOf d)) H'
def spPartT (K : PySem.W.Frag) (C : Addr) (n : Nat) : Sp := fun vs H Q _ => ∃ y fl p, vs = [.ref y, .str ⟨#[Prt.sg p]⟩, .int ((fl : Nat) : Int)] ∧ Th C H y p.code ∧ p.ok n fl ∧ p.code.size ≤ 4000 ∧ ∀ x H', Same H H' → p.At K C H' x → Q x H'
def spDeedT (K : PySem.W.Frag) (C : Addr) (n : Nat) : Sp := fun vs H Q _ => ∃ y fl d, vs = [.ref y, .int ((fl : Nat) : Int)] ∧ Th C H y (Dd.code d) ∧ d.ok ∧ d.deep < n ∧ fl + d.deep ≤ 8 ∧ d.code.size ≤ 4000 ∧ ∀ p H', Same H H' → DAt K C H' (.ref p) d → Q (.ref p) H'
def spRowT (K : PySem.W.Frag) (C : Addr) (n : Nat) : Sp := fun vs H Q _ => ∃ y fl r, vs = [.ref y, .int ((fl : Nat) : Int)] ∧ Th C H y (codeR r) ∧ okR r ∧ deepR r < n ∧ fl + deepR r ≤ 8 ∧ (codeR r).size ≤ 4000 ∧ ∀ q H', Same H H' → RAt K C H' q r → Q (.ref q) H'
def spProgOf (K : PySem.W.Frag) (C CP : Addr) : Sp := fun vs H Q _ => ∃ y r, vs = [.ref y] ∧ Th C H y (codeR r) ∧ okR r ∧ deepR r ≤ 8 ∧ manyR r ≤ 4000 ∧ (codeR r).size ≤ 4000 ∧ ∀ z H', Same H H' → H z = none → PgAt K C CP H' z r → Q (.ref z) H'
section
variable {P : Program} {w : World} {K : PySem.W.Frag} {mg : Str → Option Value} {base : Heap} {C CP fI fP : Addr} {fdI fdP : FuncData}
theorem scCt : FnScope ["thing", "many", "rest"] ["thing"] (defScope sCounted) := ⟨rfl, rfl, rfl, by decide +kernel, rfl, by decide +kernel, by decide +kernel⟩
theorem scPrt : FnScope ["thing", "found", "rest"] ["thing"] (defScope sParts) := ⟨rfl, rfl, rfl, by decide +kernel, rfl, by decide +kernel, by decide +kernel⟩
theorem scKt : FnScope ["told", "many"] ["told"] (defScope sKindT) := ⟨rfl, rfl, rfl, by decide +kernel, rfl, by decide +kernel, by decide +kernel⟩
theorem scPt : FnScope ["part", "sign", "floors"] ["part", "sign", "floors"] (defScope sPartT) := ⟨rfl, rfl, rfl, by decide +kernel, rfl, by decide +kernel, by decide +kernel⟩
theorem scDt : FnScope ["code", "floors", "told", "kind", "inner", "part", "sign"] ["code", "floors"] (defScope sDeedT) := ⟨rfl, rfl, rfl, by decide +kernel, rfl, by decide +kernel, by decide +kernel⟩
theorem scRt : FnScope ["thing", "floors", "part"] ["thing", "floors"] (defScope sRowT) := ⟨rfl, rfl, rfl, by decide +kernel, rfl, by decide +kernel, by decide +kernel⟩
theorem scPo : FnScope ["thing"] ["thing"] (defScope sProgOf) := ⟨rfl, rfl, rfl, by decide +kernel, rfl, by decide +kernel, by decide +kernel⟩
theorem ok_counted {f : Addr} {fd : FuncData} (F : Fun K "counted" "counted" sCounted f fd) (T : Txt K mg C) : FnOk P w K mg base CX0 1 f fd ["thing"] (spCounted C) := by
  refine F.ok scCt (fun vs H Q E h => ?_) (fun cdv A outer s H vs Q E hr h => ?_)
  · obtain ⟨a, n, rfl, _⟩ := h
    rfl
  · obtain ⟨a, n, rfl, ha, k⟩ := h
    refine ⟨_, pss_cons (ps_set (i := 1) scCt.nd rfl (Or.inl rfl) pe_int) (pss_cons (ps_set (i := 2) scCt.nd rfl (Or.inl rfl) (pv 0)) (pss_cons (ps_while PassesOwn.never (pt_truth (pe_fld (pv 2) rfl) (by intro _; rfl)) (pss_cons (ps_if (pt_truth (pe_fld (pe_fld (pv 2) rfl) rfl) (by intro _; rfl)) (pss_one (ps_ret pe_non)) pss_nil) (pss_cons (ps_aug (i := 1) scCt.nd rfl (Or.inl rfl) pe_int ip_add) (pss_one (ps_set (i := 2) scCt.nd rfl (Or.inl rfl) (pe_fld (pv 2) rfl)))))) (pss_one (ps_ret (pv 1))))), ?_⟩
    refine ⟨_, rfl, fun m σ H' => ∃ (i : Nat) (b : Addr), σ = [some (.ref a), some (.int ((i : Nat) : Int)), some (.ref b)] ∧ H' = H ∧ Th C H b (num m) ∧ i + m = n, ⟨n, 0, a, rfl, rfl, ha, by omega⟩, ?_⟩
    rintro m σ H1 ⟨i, b, rfl, rfl, hb, him⟩
    cases m with
    | zero =>
      obtain ⟨dx, f1, g1, h1⟩ := hb.obj
      refine ⟨_, rfl, _, _, _, _, _, rfl, h1, T.cl, T.nZ, tf_size _ _ _, _, rfl, iteF ?_⟩
      have e : i = n := by omega
      subst e
      exact ⟨_, rfl, k⟩
    | succ m =>
      obtain ⟨dx, b1, c1, h1, hb1, hc1⟩ := hb.pair
      have e : (((Tr.pr .nil (num m)).size : Nat) : Int) ≠ 0 := by
        show ((1 + 0 + (num m).size : Nat) : Int) ≠ 0
        omega
      refine ⟨_, rfl, _, _, _, _, _, rfl, h1, T.cl, T.nZ, tf_size _ _ _, _, rfl, ?_⟩
      rw [show ((((Tr.pr .nil (num m)).size : Nat) : Int) != 0) = true from by simpa using e]
      refine iteT ⟨fun σ' H5 => ∃ m', m' < m + 1 ∧ _, fun σ' H5 z => z, ?_⟩
      obtain ⟨dy, f2, g2, h2⟩ := hb1.obj
      refine ⟨_, rfl, _, _, _, _, _, rfl, h1, T.cl, T.nF, tf_first _ _ _, _, _, _, _, _, rfl, h2, T.cl, T.nZ, tf_size _ _ _, _, rfl, iteF ?_⟩
      refine ⟨_, rfl, _, _, rfl, rfl, ?_⟩
      refine ⟨_, rfl, _, _, _, _, _, rfl, h1, T.cl, T.nS, tf_second _ _ _, ?_⟩
      exact ⟨m, by omega, i + 1, c1, rfl, rfl, hc1, by omega⟩
theorem ok_parts {f : Addr} {fd : FuncData} (F : Fun K "parts" "parts" sParts f fd) (T : Txt K mg C) : FnOk P w K mg base CX0 1 f fd ["thing"] (spParts C) := by
  refine F.ok scPrt (fun vs H Q E h => ?_) (fun cdv A outer s H vs Q E hr h => ?_)
  · obtain ⟨a, ts, rfl, _⟩ := h
    rfl
  · obtain ⟨a, ts, rfl, ha, hz, k⟩ := h
    refine ⟨_, pss_cons (ps_set (i := 1) scPrt.nd rfl (Or.inl rfl) (pe_lst pa_nil)) (pss_cons (ps_set (i := 2) scPrt.nd rfl (Or.inl rfl) (pv 0)) (pss_cons (ps_while PassesOwn.never (pt_truth (pe_fld (pv 2) rfl) (by intro _; rfl)) (pss_cons (ps_expr (pe_bm PySem.F.plainAttrs_list PySem.F.slot_list_append PySem.F.type_list_append mt_append (pv 1) (pa_cons (pe_fld (pv 2) rfl) pa_nil))) (pss_one (ps_set (i := 2) scPrt.nd rfl (Or.inl rfl) (pe_fld (pv 2) rfl))))) (pss_one (ps_ret (pv 1))))), ?_⟩
    have hsl := sizeLine_eq
    have hrl := rowT_len ts
    refine ⟨Nat.zero_le _, fun D nD => ?_⟩
    have sD := Same.new nD (o := .lst [])
    refine ⟨_, rfl, fun m σ H' => ∃ (i : Nat) (b : Addr) (us : List V), σ = [some (.ref a), some (.ref D), some (.ref b)] ∧ Same H H' ∧ H' D = some (.lst us) ∧ Paired (ThV C H') us (ts.take i) ∧ Th C H' b (rowT (ts.drop i)) ∧ i + m = ts.length, ⟨ts.length, 0, a, [], rfl, sD, upd_same, by rw [List.take_zero]; exact .nil, by rw [List.drop_zero]; exact ha.same sD, by omega⟩, ?_⟩
    rintro m σ H1 ⟨i, b, us, rfl, s1, hD, hus, hb, him⟩
    cases m with
    | zero =>
      have e : i = ts.length := by omega
      subst e
      rw [List.drop_length] at hb
      rw [List.take_length] at hus
      obtain ⟨dx, f1, g1, h1⟩ := hb.obj
      refine ⟨_, rfl, _, _, _, _, _, rfl, h1, T.cl, T.nZ, tf_size _ _ _, _, rfl, iteF ?_⟩
      exact ⟨_, rfl, k D us H1 s1 nD hD hus⟩
    | succ m =>
      have hi : i < ts.length := by omega
      have hg : ts[i]? = some ts[i] := List.getElem?_eq_getElem hi
      rw [row_drop ts i _ hg] at hb
      obtain ⟨dx, b1, c1, h1, hb1, hc1⟩ := hb.pair
      have e : (((Tr.pr ts[i] (rowT (ts.drop (i + 1)))).size : Nat) : Int) ≠ 0 := by
        show ((1 + _ + _ : Nat) : Int) ≠ 0
        omega
      refine ⟨_, rfl, _, _, _, _, _, rfl, h1, T.cl, T.nZ, tf_size _ _ _, _, rfl, ?_⟩
      rw [show ((((Tr.pr ts[i] (rowT (ts.drop (i + 1)))).size : Nat) : Int) != 0) = true from by simpa using e]
      refine iteT ⟨fun σ' H5 => ∃ m', m' < m + 1 ∧ _, fun σ' H5 z => z, ?_⟩
      have hul := Paired.length hus
      rw [List.length_take] at hul
      refine ⟨_, rfl, .inl ⟨rfl, _, SqL.of hD⟩, _, rfl, _, _, _, _, _, rfl, h1, T.cl, T.nF, tf_first _ _ _, D, _, _, rfl, rfl, hD, by omega, ?_⟩
      have kt : KT H1 (upd H1 D (.lst (us ++ [V.ref b1]))) := KT.lst hD
      have h1' : upd H1 D (.lst (us ++ [V.ref b1])) b = some _ := kt _ _ h1 (fun _ e => nomatch e)
      refine ⟨_, rfl, _, _, _, _, _, rfl, h1', T.cl, T.nS, tf_second _ _ _, ?_⟩
      refine ⟨m, by omega, i + 1, c1, us ++ [V.ref b1], rfl, s1.set nD, upd_same, ?_, hc1.kt kt, by omega⟩
      rw [List.take_succ_eq_append_getElem hi]
      exact paired_app (ths_kt kt hus) (.cons ⟨b1, rfl, hb1.kt kt⟩ .nil)
theorem ok_kindT {f : Addr} {fd : FuncData} (F : Fun K "kind_told" "kind_told" sKindT f fd) (B : Blt mg) (ml : mg "list" = none) (Fo : FoK K w mg) (DC : Def P w K mg base "counted" 1 ["thing"] (spCounted C)) : FnOk P w K mg base CX0 2 f fd ["told"] (spKindT C) := by
  obtain ⟨dF, es, nF, mF, kdd, hk, h7, hks⟩ := Fo.ex
  have kdF := (⟨kdd, h7, hks⟩ : KDict K w dF es nF ∧ es.size = 7 ∧ ∀ (i : Nat) (h : i < es.size), ∃ z t, formKs[i]? = some z ∧ es[i].key = Value.str z t)
  refine F.ok scKt (fun vs H Q E h => ?_) (fun cdv A outer s H vs Q E hr h => ?_)
  · obtain ⟨l, us, ts, d, rfl, _⟩ := h
    rfl
  · obtain ⟨l, us, ts, d, rfl, hl, hus, k⟩ := h
    refine ⟨_, pss_cons (ps_set (i := 1) scKt.nd rfl (Or.inl rfl) (pe_ifExp (pt_truth (pv 0) (by intro _; rfl)) (pe_def DC hr rfl (pa_cons (pe_ix (r := rIxL K) ix_list (pv 0) pe_int (fun _ _ => rfl)) pa_nil)) pe_non)) (pss_cons (ps_if (PW.pt (pw_or (pt_cmp (pc_isN (pv 1))) (pw_or1 (pt_cmpR op_ge (pv 1) (pe_callB (call_lenKD kdd h7) (by rfl) B.len PySem.boot_len (pa_cons (pe_glob (v := .ref dF) rfl mF rfl) pa_nil)) (nomark _))))) (pss_one (ps_ret pe_non)) pss_nil) (pss_one (ps_ret (pe_ix (r := rIxL K) ix_list (pe_callTy (call_listKD rfl kdF) (by rfl) ml PyProof.Rows.boot_list (pa_cons (pe_glob (v := .ref dF) rfl mF rfl) pa_nil)) (pv 1) (fun _ _ => rfl))))), ?_⟩
    cases hus with
    | cons hx hus =>
      obtain ⟨x, rfl, hx⟩ := hx
      have hki := kix_le d
      refine ⟨_, rfl, _, .inl ⟨_, SqL.of hl, rfl⟩, iteT ?_⟩
      refine ⟨_, rfl, l, _, 0, _, rfl, rfl, SqL.of hl, at0 _ _, x, d.kix, rfl, hx, ?_⟩
      refine ⟨_, rfl, _, rfl, ?_⟩
      rw [show decide (V.int ((d.kix : Nat) : Int) = V.non) = false from decide_eq_false (fun e => nomatch e)]
      refine iteF ?_
      refine ⟨_, rfl, rfl, _, _, rfl, rfl, _, rfl, ?_⟩
      rw [decide_eq_false (show ¬ ((d.kix : Nat) : Int) ≥ 7 by omega)]
      refine iteF ?_
      refine ⟨rfl, fun q nq => ?_⟩
      have sq := Same.new nq (o := .lst (strV formKs))
      exact ⟨_, rfl, q, _, _, _, rfl, rfl, SqL.of upd_same, atI_nat (kix_at d).1, k _ sq⟩
theorem ok_partT {f fR : Addr} {fd fdR : FuncData} {n : Nat} (F : Fun K "part_told" "part_told" sPartT f fd) (DC : Def P w K mg base "counted" 1 ["thing"] (spCounted C)) (GR : FnOk P w K mg base CX0 (3 * n + 3) fR fdR ["thing", "floors"] (spRowT K C n)) (mgr : mg "row_told" = some (.ref fR)) (kr : PySem.W.keepIn K (.ref fR) = true) (br : Binds K fdR ["thing", "floors"] []) : FnOk P w K mg base CX0 (3 * n + 4) f fd ["part", "sign", "floors"] (spPartT K C n) := by
  refine F.ok scPt (fun vs H Q E h => ?_) (fun cdv A outer s H vs Q E hr h => ?_)
  · obtain ⟨y, fl, p, rfl, _⟩ := h
    rfl
  · obtain ⟨y, fl, p, rfl, hy, hok, hz, k⟩ := h
    have hr1 : Room 1 _ := hr.mono (by omega)
    refine ⟨_, pss_cons (ps_if (pt_cmpR op_eq (pv 1) pe_str (nomark _)) (pss_one (ps_ret (pe_def DC hr1 rfl (pa_cons (pv 0) pa_nil)))) pss_nil) (pss_cons (ps_if (pt_cmpR op_eq (pv 1) pe_str (nomark _)) (pss_one (ps_ret (pv 0))) pss_nil) (pss_one (ps_ret (pe_call GR hr rfl mgr kr br .nil pass0 (pa_cons (pv 0) (pa_cons (pe_op op_add (pv 2) pe_int) pa_nil)))))), ?_⟩
    cases p with
    | nm a =>
      refine ⟨_, rfl, rfl, _, rfl, ?_⟩
      rw [show Prt.sg (.nm a) = 110 from rfl, s_n, decide_eq_true rfl]
      exact iteT ⟨_, rfl, y, a, rfl, hy, k _ H (Same.refl H) ⟨hok, rfl⟩⟩
    | th t =>
      refine ⟨_, rfl, rfl, _, rfl, ?_⟩
      rw [show Prt.sg (.th t) = 116 from rfl, s_t, show decide (V.str ("t" : Str) = V.str ("n" : Str)) = false by decide +kernel]
      refine iteF ⟨_, rfl, rfl, _, rfl, ?_⟩
      rw [decide_eq_true rfl]
      exact iteT ⟨_, rfl, k _ H (Same.refl H) ⟨y, rfl, hy, hok⟩⟩
    | rw r =>
      refine ⟨_, rfl, rfl, _, rfl, ?_⟩
      rw [show Prt.sg (.rw r) = 114 from rfl, s_r, show decide (V.str ("r" : Str) = V.str ("n" : Str)) = false by decide +kernel]
      refine iteF ⟨_, rfl, rfl, _, rfl, ?_⟩
      rw [show decide (V.str ("r" : Str) = V.str ("t" : Str)) = false by decide +kernel]
      exact iteF ⟨_, rfl, _, rfl, _, _, rfl, rfl, y, fl + 1, r, rfl, hy, hok.1, hok.2.1, hok.2.2, hz, fun q H1 s1 hq => k _ H1 s1 ⟨q, rfl, hq⟩⟩
theorem ok_deedT {f fP' : Addr} {fd fdP' : FuncData} {n : Nat} (F : Fun K "deed_told" "deed_told" sDeedT f fd) (B : Blt mg) (G : FrmC K w mg) (DP : Def P w K mg base "parts" 1 ["thing"] (spParts C)) (DK : Def P w K mg base "kind_told" 2 ["told"] (spKindT C)) (GP : FnOk P w K mg base CX0 (3 * n + 4) fP' fdP' ["part", "sign", "floors"] (spPartT K C n)) (mgp : mg "part_told" = some (.ref fP')) (kp : PySem.W.keepIn K (.ref fP') = true) (bp : Binds K fdP' ["part", "sign", "floors"] []) : FnOk P w K mg base CX0 (3 * n + 5) f fd ["code", "floors"] (spDeedT K C (n + 1)) := by
  obtain ⟨dF, es, nF, mF, kdd, hk⟩ := G.ex
  obtain ⟨tM, mM3⟩ := G.mF
  refine F.ok scDt (fun vs H Q E h => ?_) (fun cdv A outer s H vs Q E hr h => ?_)
  · obtain ⟨y, fl, d, rfl, _⟩ := h
    rfl
  · obtain ⟨y, fl, d, rfl, hy, hok, hdp, hfl, hz, k⟩ := h
    have hr1 : Room 1 _ := hr.mono (by omega)
    have hr2 : Room 2 _ := hr.mono (by omega)
    have hr0 : Room (3 * n + 4) _ := hr
    refine ⟨_, pss_cons (ps_set (i := 2) scDt.nd rfl (Or.inl rfl) (pe_def DP hr1 rfl (pa_cons (pv 0) pa_nil))) (pss_cons (ps_set (i := 3) scDt.nd rfl (Or.inl rfl) (pe_def DK hr2 rfl (pa_cons (pv 2) pa_nil))) (pss_cons (ps_if (PW.pt (pw_or (pt_cmp (pc_isN (pv 3))) (pw_or1 (pt_cmpR op_ne (pe_callB call_len_seq (by rfl) B.len PySem.boot_len (pa_cons (pv 2) pa_nil)) (pe_op op_add pe_int (pe_callB call_len_str (by rfl) B.len PySem.boot_len (pa_cons (pe_ix (r := rIxD K w) ix_kdict (pe_glob (v := .ref dF) rfl mF rfl) (pv 3) (fun _ _ => rfl)) pa_nil))) (nomark _))))) (pss_one (ps_ret (pe_tup pa_nil))) pss_nil) (pss_cons (ps_if (PW.pt (pw_and (pt_cmpR op_inS pe_str (pe_ix (r := rIxD K w) ix_kdict (pe_glob (v := .ref dF) rfl mF rfl) (pv 3) (fun _ _ => rfl)) rfl) (pw_and1 (pt_cmpR op_eq (pv 1) (pe_glob (v := .int 8) rfl mM3 ⟨_, rfl⟩) (nomark _))))) (pss_one (ps_ret (pe_tup pa_nil))) pss_nil) (pss_cons (ps_setLc (i := 4) (own := [("part", 5), ("sign", 6)]) (g := gTup K 2 (gCons (gName 5) (gCons (gName 6) gNil))) (tt := tYes) rfl scDt.nd rfl rfl (sw_true rfl rfl rfl (by decide +kernel)) (pi_zipLS rfl G.mz (pa_cons (pe_slice sl_list (pv 2) (po_some pe_int) po_none) (pa_cons (pe_ix (r := rIxD K w) ix_kdict (pe_glob (v := .ref dF) rfl mF rfl) (pv 3) (fun _ _ => rfl)) pa_nil))) (blkOk_by (N := ["code", "floors", "told", "kind", "inner", "part", "sign"]) (sc := defScope sDeedT) (by decide +kernel)) (fun _ _ _ _ _ => (by exact (pg_tup rfl (pgs_cons (pg_name (i := 5) scDt.nd rfl (Or.inl rfl)) (pgs_cons (pg_name (i := 6) scDt.nd rfl (Or.inl rfl)) pgs_nil))))) (fun _ _ _ _ _ => pts_nil) (fun _ _ _ _ _ => (pe_call GP hr0 rfl mgp kp bp .nil pass0 (pa_cons (pv 5) (pa_cons (pv 6) (pa_cons (pv 1) pa_nil)))))) (pss_one (ps_ret (pe_tup (pa_cons (pv 3) (StX.pa_star (pv 4) pa_nil))))))))), ?_⟩
    have hsl := sizeLine_eq
    have hpl := prs_len d
    have hfm : (formOf d).cps.size = d.prs.length := by rw [← Array.length_toList, prs_sg, List.length_map]
    have hprs := prs_ok (n := n) (fl := fl) d hok hdp hfl
    obtain ⟨tk, hkf⟩ := hk _ (form_in d)
    rw [prs_code] at hy hz
    refine ⟨_, rfl, y, _, rfl, hy, hz, fun l us H1 s1 nl hl hus => ?_⟩
    refine ⟨_, rfl, l, us, _, d, rfl, hl, hus, fun H2 s2 => ?_⟩
    have hl2 := s2 _ _ hl
    have hus2 := ths_kt (KT.of s2) hus
    have hul := Paired.length hus
    rw [List.length_cons, List.length_map] at hul
    have hfl3 : (formOf d).length = d.prs.length := hfm
    refine ⟨_, rfl, _, rfl, ?_⟩
    rw [show decide (V.str (kindOf d) = V.non) = false from decide_eq_false (fun e => nomatch e)]
    refine iteF ?_
    refine ⟨_, rfl, l, us, rfl, .inl (SqL.of hl2), _, rfl, dF, _, .str (formOf d), rfl, rfl, ⟨es, nF, _, kdd.at_, kdd.lit, hkf, ⟨_, rfl⟩⟩, formOf d, rfl, by omega, _, _, rfl, rfl, rfl, _, rfl, ?_⟩
    rw [show ((us.length : Nat) : Int) = 1 + (((formOf d).length : Nat) : Int) by omega, decide_eq_true rfl]
    refine iteF ?_
    refine ⟨_, rfl, dF, _, .str (formOf d), rfl, rfl, ⟨es, nF, _, kdd.at_, kdd.lit, hkf, ⟨_, rfl⟩⟩, 114, formOf d, congrArg V.str s_r.symm, rfl, _, rfl, ite_both ?_ fun hb hc => ?_⟩
    rotate_left
    · have hdd := prs_deep d (of_decide_eq_true hb)
      refine ⟨_, rfl, rfl, _, rfl, ?_⟩
      rw [decide_eq_false (show ¬ V.int ((fl : Nat) : Int) = V.int 8 from fun e => by injection e with e; omega)]
      exact iteF hc
    cases hus2 with
    | cons hx hts =>
      rename_i x0 xs0
      have htl := Paired.length hts
      rw [List.length_map] at htl
      refine ⟨_, rfl, _, rfl, l, _, rfl, SqL.of hl2, fun q nq => ?_⟩
      rw [cut1]
      have sq := Same.new nq (o := .lst xs0)
      have eq : (upd H2 q (.lst xs0)) q = some (.lst xs0) := upd_same
      revert sq eq
      generalize upd H2 q (.lst xs0) = H3
      intro sq eq
      refine ⟨_, rfl, dF, _, .str (formOf d), rfl, rfl, ⟨es, nF, _, kdd.at_, kdd.lit, hkf, ⟨_, rfl⟩⟩, q, _, xs0, rfl, SqL.of eq, fun D nD => lc_it (n := xs0.length) (walk_zipLS (K := K) (a := q) (t := formOf d) (xs := xs0) (by rw [hfm, ← htl, Nat.min_self])) (fun i H' => Same H3 H' ∧ ∃ its, H' D = some (.lst its) ∧ Paired (Prt.At K C H') its (d.prs.take i)) ⟨Same.new nD, [], upd_same, by rw [List.take_zero]; exact .nil⟩ (fun i H' _ z => SqL.of (z.1 _ _ eq)) ?_ ?_⟩
      · rintro i v H4 H5 hi ⟨s4, its, hD4, hits⟩ ⟨T, x, c, rfl, nT, rfl, hxi, hci⟩
        have sT := Same.new nT (o := .tup [x, .str ⟨#[c]⟩])
        have eT : (upd H4 T (.tup [x, .str ⟨#[c]⟩])) T = some (.tup [x, .str ⟨#[c]⟩]) := upd_same
        revert sT eT
        generalize upd H4 T (.tup [x, .str ⟨#[c]⟩]) = H6
        intro sT eT
        have hil : i < d.prs.length := by omega
        have hpi : d.prs[i]? = some d.prs[i] := List.getElem?_eq_getElem hil
        have hcs : c = (d.prs[i]).sg := by
          have e1 : (formOf d).cps.toList[i]? = some c := by simpa using hci
          rw [prs_sg, List.getElem?_map, hpi] at e1
          exact (Option.some.inj e1).symm
        subst hcs
        obtain ⟨ty, e2, y2, rfl, hy2⟩ := paired_get hts hxi
        rw [List.getElem?_map, hpi] at e2
        cases Option.some.inj e2
        have hpz := rowT_size_mem (num d.kix :: d.prs.map Prt.code) (d.prs[i]).code (List.mem_cons_of_mem _ (List.mem_map.mpr ⟨_, List.getElem_mem hil, rfl⟩))
        have s26 := (sq.trans s4).trans sT
        refine ⟨T, _, rfl, SqT.of eT, rfl, _, _, rfl, _, _, rfl, rfl, rfl, lc_yes ?_⟩
        refine ⟨_, rfl, _, rfl, _, rfl, y2, fl, d.prs[i], rfl, hy2.same s26, hprs _ (List.getElem_mem hil), by omega, fun x' H7 s7 hx' => ?_⟩
        have hD7 := s7 _ _ (sT _ _ hD4)
        have hil2 := Paired.length hits
        rw [List.length_take] at hil2
        have kt : KT H7 (upd H7 D (.lst (its ++ [x']))) := KT.lst hD7
        refine ⟨its, hD7, by omega, ((s4.trans sT).trans s7).set nD, its ++ [x'], upd_same, ?_⟩
        rw [List.take_succ_eq_append_getElem hil]
        exact paired_app (ppt_kt kt (ppt_kt (KT.of (sT.trans s7)) hits)) (.cons (hx'.kt kt) .nil)
      · rintro H4 ⟨s4, its, hD4, hits⟩
        rw [htl, List.take_length] at hits
        have hil2 := Paired.length hits
        refine ⟨_, rfl, _, rfl, D, _, rfl, .inr (SqL.of hD4), by rw [List.append_nil, List.length_cons]; omega, fun T2 nT2 => ?_⟩
        rw [List.append_nil]
        have s10 := Same.new nT2 (o := .tup (V.str (kindOf d) :: its))
        exact k T2 _ ((((s1.trans s2).trans sq).trans s4).trans s10) (prs_deed d (ppt_kt (KT.of s10) hits) (SqT.of upd_same))
theorem ok_rowT {f fD : Addr} {fd fdD : FuncData} {n : Nat} (F : Fun K "row_told" "row_told" sRowT f fd) (mt : mg "tuple" = none) (DP : Def P w K mg base "parts" 1 ["thing"] (spParts C)) (GD : FnOk P w K mg base CX0 (3 * n + 5) fD fdD ["code", "floors"] (spDeedT K C (n + 1))) (mgd : mg "deed_told" = some (.ref fD)) (kd : PySem.W.keepIn K (.ref fD) = true) (bd : Binds K fdD ["code", "floors"] []) : FnOk P w K mg base CX0 (3 * (n + 1) + 3) f fd ["thing", "floors"] (spRowT K C (n + 1)) := by
  refine F.ok scRt (fun vs H Q E h => ?_) (fun cdv A outer s H vs Q E hr h => ?_)
  · obtain ⟨y, fl, r, rfl, _⟩ := h
    rfl
  · obtain ⟨y, fl, r, rfl, hy, hok, hdp, hfl, hz, k⟩ := h
    have hr1 : Room 1 _ := hr.mono (by omega)
    refine ⟨_, pss_one (ps_ret (pe_callTy call_tuple_of (by rfl) mt PyProof.Rows.boot_tuple (pa_cons (pe_lc (own := [("part", 2)]) (g := gName 2) (tt := tYes) rfl scRt.nd (pi_list (pe_def DP hr1 rfl (pa_cons (pv 0) pa_nil))) (blkOk_by (N := ["thing", "floors", "part"]) (sc := defScope sRowT) (by decide +kernel)) (fun _ _ _ _ _ => (pg_name (i := 2) scRt.nd rfl (Or.inl rfl))) (fun _ _ _ _ _ => pts_nil) (fun _ _ _ _ _ => (pe_call GD hr rfl mgd kd bd .nil pass0 (pa_cons (pv 2) (pa_cons (pv 1) pa_nil))))) pa_nil))), ?_⟩
    have hsl := sizeLine_eq
    rw [codeR_row] at hy hz
    have hrl := rowT_len (r.map Dd.code)
    rw [List.length_map] at hrl
    refine ⟨_, rfl, y, _, rfl, hy, hz, fun l us H1 s1 nl hl hus => ⟨l, rfl, ⟨_, SqL.of hl⟩, fun D nD => lc_list (K := K) (a := l) (xs := us) (fun i H' => Same H1 H' ∧ ∃ vs, H' D = some (.lst vs) ∧ DsAt K C H' vs (r.take i)) ⟨Same.new nD, [], upd_same, by rw [List.take_zero]; rfl⟩ (fun i H' _ z => SqL.of (z.1 _ _ hl)) ?_ ?_⟩⟩
    · rintro i v H2 hv ⟨s2, vs, hD2, hvs⟩
      obtain ⟨ty, e2, y2, rfl, hy2⟩ := paired_get hus hv
      rw [List.getElem?_map] at e2
      obtain ⟨d, hd, rfl⟩ := Option.map_eq_some_iff.mp e2
      have hdm := List.mem_of_getElem? hd
      have hir := (List.getElem?_eq_some_iff.mp hd).1
      have hdd := deepR_mem r d hdm
      have hdz := rowT_size_mem (r.map Dd.code) d.code (List.mem_map.mpr ⟨d, hdm, rfl⟩)
      have hvl := DsAt.length _ vs hvs
      rw [List.length_take] at hvl
      refine ⟨rfl, lc_yes ?_⟩
      refine ⟨_, rfl, _, rfl, y2, fl, d, rfl, hy2.same s2, okR_mem r d hok hdm, by omega, by omega, by omega, fun p H3 s3 hp => ?_⟩
      have hD3 := s3 _ _ hD2
      have kt : KT H3 (upd H3 D (.lst (vs ++ [V.ref p]))) := KT.lst hD3
      refine ⟨vs, hD3, by omega, (s2.trans s3).set nD, vs ++ [V.ref p], upd_same, ?_⟩
      rw [List.take_succ_eq_append_getElem hir, (List.getElem?_eq_some_iff.mp hd).2]
      exact DsAt_snocT _ _ (DsAt_kt kt _ _ (DsAt_kt (KT.of s3) _ _ hvs)) (DAt_kt kt d _ hp)
    · rintro H2 ⟨s2, vs, hD2, hvs⟩
      have hul := Paired.length hus
      rw [List.length_map] at hul
      rw [hul, List.take_length] at hvs
      refine ⟨D, _, rfl, .inl ⟨SqL.of hD2, fun q nq => ?_⟩⟩
      have sq := Same.new nq (o := .tup vs)
      exact k q _ ((s1.trans s2).trans sq) ⟨vs, SqT.of upd_same, DsAt_kt (KT.of sq) _ _ hvs⟩
theorem ok_rowT0 {f : Addr} {fd : FuncData} (F : Fun K "row_told" "row_told" sRowT f fd) : FnOk P w K mg base CX0 (3 * 0 + 3) f fd ["thing", "floors"] (spRowT K C 0) := by
  refine F.ok scRt (fun vs H Q E h => ?_) (fun cdv A outer s H vs Q E hr h => ?_)
  · obtain ⟨y, fl, r, rfl, _⟩ := h
    rfl
  · obtain ⟨y, fl, r, _, _, _, h, _⟩ := h
    exact absurd h (Nat.not_lt_zero _)
theorem ok_tolds {fR fD fQ : Addr} {fdR fdD fdQ : FuncData} (FR : Fun K "row_told" "row_told" sRowT fR fdR) (FD : Fun K "deed_told" "deed_told" sDeedT fD fdD) (FP : Fun K "part_told" "part_told" sPartT fQ fdQ) (B : Blt mg) (G : FrmC K w mg) (DC : Def P w K mg base "counted" 1 ["thing"] (spCounted C)) (DP : Def P w K mg base "parts" 1 ["thing"] (spParts C)) (DK : Def P w K mg base "kind_told" 2 ["told"] (spKindT C))
    (mgr : mg "row_told" = some (.ref fR)) (br : Binds K fdR ["thing", "floors"] []) (mgd : mg "deed_told" = some (.ref fD)) (bd : Binds K fdD ["code", "floors"] []) (mgp : mg "part_told" = some (.ref fQ)) (bp : Binds K fdQ ["part", "sign", "floors"] []) : ∀ n, FnOk P w K mg base CX0 (3 * n + 3) fR fdR ["thing", "floors"] (spRowT K C n)
  | 0 => ok_rowT0 FR
  | n + 1 => ok_rowT FR G.mt DP (ok_deedT FD B G DP DK (ok_partT FP DC (ok_tolds FR FD FP B G DC DP DK mgr br mgd bd mgp bp n) mgr FR.kp br) mgp FP.kp bp) mgd FD.kp bd
theorem ok_progOf {f : Addr} {fd : FuncData} (F : Fun K "program_of" "program_of" sProgOf f fd) (T : Txt K mg C) (MP : MakerP P w K mg base C CP fP fdP) (DRt : Def P w K mg base "row_told" 30 ["thing", "floors"] (spRowT K C 9)) : FnOk P w K mg base CX0 34 f fd ["thing"] (spProgOf K C CP) := by
  refine F.ok scPo (fun vs H Q E h => ?_) (fun cdv A outer s H vs Q E hr' h => ?_)
  · obtain ⟨y, r, rfl, _⟩ := h
    rfl
  · obtain ⟨y, r, rfl, hy, hok, hdp, hmn, hz, k⟩ := h
    have hr : Room 30 _ := hr'.mono (by decide)
    have hr15 : Room 15 _ := hr'.mono (by decide)
    refine ⟨_, pss_cons (ps_if (pt_not (pt_val (pe_callB (r := rIsi K) call_isi (by rfl) T.isi PyProof.Rows.boot_isinstance (pa_cons (pv 0) (pa_cons (pe_glob (v := .ref C) rfl T.mgC rfl) pa_nil))))) (pss_one ps_never) pss_nil) (pss_one (ps_ret (pe_P MP hr15 rfl (pa_cons (pe_def DRt hr rfl (pa_cons (pv 0) (pa_cons pe_int pa_nil))) pa_nil)))), ?_⟩
    obtain ⟨dx, f1, g1, h1⟩ := hy.obj
    refine ⟨_, rfl, _, _, _, _, true, rfl, ClsV.own C, .base (.ins h1 T.cl T.ca T.cn T.ct T.cm), kit_self _ _, _, rfl, iteF ?_⟩
    refine ⟨_, rfl, y, 0, r, rfl, hy, hok, by omega, by omega, hz, fun q H1 s1 hq => ?_⟩
    exact ⟨q, r, rfl, hq, hdp, hmn, fun z H2 s2 nz hz2 => k z H2 (s1.trans s2) (s1.free nz) hz2⟩
end
end Js
set_option Elab.async false
set_option linter.all false
set_option maxRecDepth 100000
set_option maxHeartbeats 2000000
namespace Js
open PySem L2
open PySem.Spec PyProof.Rows
inductive Rw where
  | bad
  | told (a : Option Nat) (t : Tr)
  | take (s : Bool) (a b : Option Nat)
  | two (s : Bool) (a b c : Option Nat)
  | wh (a : Option Nat) (r : List Rw)
  | iff (a : Option Nat) (r o : List Rw)
def cntW : Tr → Option Nat
  | .nil => some 0
  | .pr .nil t => (cntW t).map (· + 1)
  | .pr (.pr _ _) _ => none
theorem cntW_num : ∀ (t : Tr) (n : Nat), cntW t = some n → t = num n
  | .nil, n, h => by cases Option.some.inj h; rfl
  | .pr .nil t, n, h => by
    rw [cntW] at h
    cases e : cntW t with
    | none => rw [e] at h; cases h
    | some m =>
      rw [e] at h
      cases Option.some.inj h
      rw [cntW_num t m e]
      rfl
  | .pr (.pr _ _) _, n, h => by rw [cntW] at h; cases h
def prtW : Tr → List Tr
  | .nil => []
  | .pr a b => a :: prtW b
theorem prtW_row : ∀ t : Tr, rowT (prtW t) = t
  | .nil => rfl
  | .pr a b => by rw [prtW, rowT, prtW_row b]
theorem prtW_size : ∀ (t : Tr), ∀ x ∈ prtW t, x.size < t.size
  | .nil, x, h => nomatch h
  | .pr a b, x, h => by
    rw [prtW] at h
    rw [Tr.size]
    rcases List.mem_cons.mp h with e | h
    · rw [e]; omega
    · have := prtW_size b x h
      omega
def deedW : Nat → Tr → Rw
  | 0, t => match prtW t with
    | [] => .bad
    | k :: ps => match cntW k, ps with
      | some 0, [a, x] => .told (cntW a) x
      | some 1, [a, b] => .take false (cntW a) (cntW b)
      | some 2, [a, b] => .take true (cntW a) (cntW b)
      | some 3, [a, b, c] => .two false (cntW a) (cntW b) (cntW c)
      | some 4, [a, b, c] => .two true (cntW a) (cntW b) (cntW c)
      | _, _ => .bad
  | n + 1, t => match prtW t with
    | [] => .bad
    | k :: ps => match cntW k, ps with
      | some 0, [a, x] => .told (cntW a) x
      | some 1, [a, b] => .take false (cntW a) (cntW b)
      | some 2, [a, b] => .take true (cntW a) (cntW b)
      | some 3, [a, b, c] => .two false (cntW a) (cntW b) (cntW c)
      | some 4, [a, b, c] => .two true (cntW a) (cntW b) (cntW c)
      | some 5, [a, r] => .wh (cntW a) ((prtW r).map (deedW n))
      | some 6, [a, r, o] => .iff (cntW a) ((prtW r).map (deedW n)) ((prtW o).map (deedW n))
      | _, _ => .bad
def rowW (n : Nat) (t : Tr) : List Rw := (prtW t).map (deedW n)
def nmW : Option Nat → Option Nat
  | some a => if a < 10 then some a else none
  | none => none
theorem nmW_some {o : Option Nat} {a : Nat} (h : nmW o = some a) : o = some a ∧ a < 10 := by
  cases o with
  | none => cases h
  | some b =>
    rw [nmW] at h
    by_cases q : b < 10
    · rw [if_pos q] at h
      cases Option.some.inj h
      exact ⟨rfl, q⟩
    · rw [if_neg q] at h
      cases h
mutual
def Rw.dd : Rw → Option Dd
  | .bad => none
  | .told a t => match nmW a with
    | some n => some (.told n t)
    | none => none
  | .take s a b => match nmW a, nmW b with
    | some n, some m => some (.take s n m)
    | _, _ => none
  | .two s a b c => match nmW a, nmW b, nmW c with
    | some n, some m, some k => some (.two s n m k)
    | _, _, _ => none
  | .wh a r => match nmW a, rowD r with
    | some n, some q => some (.wh n q)
    | _, _ => none
  | .iff a r o => match nmW a, rowD r, rowD o with
    | some n, some q, some p => some (.iff n q p)
    | _, _, _ => none
def rowD : List Rw → Option (List Dd)
  | [] => some []
  | x :: l => match x.dd, rowD l with
    | some d, some r => some (d :: r)
    | _, _ => none
end
theorem rowD_cons {x : Rw} {l : List Rw} {r : List Dd} (h : rowD (x :: l) = some r) : ∃ d q, x.dd = some d ∧ rowD l = some q ∧ r = d :: q := by
  rw [rowD] at h
  cases e1 : x.dd with
  | none => rw [e1] at h; cases h
  | some d =>
    cases e2 : rowD l with
    | none => rw [e1, e2] at h; cases h
    | some q => rw [e1, e2] at h; exact ⟨d, q, rfl, rfl, (Option.some.inj h).symm⟩
theorem row_inv {n : Nat} (hd : ∀ (t : Tr) (d : Dd), t.size ≤ 4000 → (deedW n t).dd = some d → t = d.code ∧ d.ok ∧ d.deep ≤ n) : ∀ (ts : List Tr) (r : List Dd), (∀ t ∈ ts, t.size ≤ 4000) → rowD (ts.map (deedW n)) = some r → rowT ts = codeR r ∧ okR r ∧ deepR r ≤ n
  | [], r, _, h => by
    cases Option.some.inj h
    exact ⟨rfl, trivial, Nat.zero_le _⟩
  | t :: ts, r, hs, h => by
    rw [List.map_cons] at h
    obtain ⟨d, q, h1, h2, rfl⟩ := rowD_cons h
    obtain ⟨e1, o1, p1⟩ := hd t d (hs t (List.mem_cons_self ..)) h1
    obtain ⟨e2, o2, p2⟩ := row_inv hd ts q (fun x hx => hs x (List.mem_cons_of_mem _ hx)) h2
    refine ⟨?_, ⟨o1, o2⟩, ?_⟩
    · rw [rowT, codeR, ← e1, e2]
    · rw [deepR]
      exact Nat.max_le.mpr ⟨p1, p2⟩
theorem nmW_num {a : Tr} {n : Nat} (h : nmW (cntW a) = some n) : a = num n ∧ n < 10 := by
  obtain ⟨h1, h2⟩ := nmW_some h
  exact ⟨cntW_num a n h1, h2⟩
theorem inv_told {a x : Tr} {d : Dd} (hx : x.size ≤ 4000) (h : (Rw.told (cntW a) x).dd = some d) : rowT [num 0, a, x] = d.code ∧ d.ok ∧ d.deep = 0 := by
  rw [Rw.dd] at h
  cases e : nmW (cntW a) with
  | none => rw [e] at h; cases h
  | some n =>
    rw [e] at h
    cases Option.some.inj h
    obtain ⟨rfl, hn⟩ := nmW_num e
    exact ⟨by rw [Dd.code], ⟨hn, hx⟩, by rw [Dd.deep]⟩
theorem inv_take {s : Bool} {a b : Tr} {d : Dd} (h : (Rw.take s (cntW a) (cntW b)).dd = some d) : rowT [num (if s then 2 else 1), a, b] = d.code ∧ d.ok ∧ d.deep = 0 := by
  rw [Rw.dd] at h
  cases e : nmW (cntW a) with
  | none => rw [e] at h; cases h
  | some n =>
    cases e2 : nmW (cntW b) with
    | none => rw [e, e2] at h; cases h
    | some m =>
      rw [e, e2] at h
      cases Option.some.inj h
      obtain ⟨rfl, hn⟩ := nmW_num e
      obtain ⟨rfl, hm⟩ := nmW_num e2
      exact ⟨by rw [Dd.code], ⟨hn, hm⟩, by rw [Dd.deep]⟩
theorem inv_two {s : Bool} {a b c : Tr} {d : Dd} (h : (Rw.two s (cntW a) (cntW b) (cntW c)).dd = some d) : rowT [num (if s then 4 else 3), a, b, c] = d.code ∧ d.ok ∧ d.deep = 0 := by
  rw [Rw.dd] at h
  cases e : nmW (cntW a) with
  | none => rw [e] at h; cases h
  | some n =>
    cases e2 : nmW (cntW b) with
    | none => rw [e, e2] at h; cases h
    | some m =>
      cases e3 : nmW (cntW c) with
      | none => rw [e, e2, e3] at h; cases h
      | some k =>
        rw [e, e2, e3] at h
        cases Option.some.inj h
        obtain ⟨rfl, hn⟩ := nmW_num e
        obtain ⟨rfl, hm⟩ := nmW_num e2
        obtain ⟨rfl, hk⟩ := nmW_num e3
        exact ⟨by rw [Dd.code], ⟨hn, hm, hk⟩, by rw [Dd.deep]⟩
theorem prt_le {t x : Tr} (hs : t.size ≤ 4000) (h : x ∈ prtW t) : x.size ≤ 4000 := by
  have := prtW_size t x h
  omega
theorem inv_wh {n : Nat} (hd : ∀ (t : Tr) (d : Dd), t.size ≤ 4000 → (deedW n t).dd = some d → t = d.code ∧ d.ok ∧ d.deep ≤ n) {a r : Tr} {d : Dd} (hr : r.size ≤ 4000) (h : (Rw.wh (cntW a) ((prtW r).map (deedW n))).dd = some d) : rowT [num 5, a, r] = d.code ∧ d.ok ∧ d.deep ≤ n + 1 := by
  rw [Rw.dd] at h
  cases e : nmW (cntW a) with
  | none => rw [e] at h; cases h
  | some m =>
    cases e2 : rowD ((prtW r).map (deedW n)) with
    | none => rw [e, e2] at h; cases h
    | some q =>
      rw [e, e2] at h
      cases Option.some.inj h
      obtain ⟨rfl, hn⟩ := nmW_num e
      obtain ⟨h1, h2, h3⟩ := row_inv hd (prtW r) q (fun x hx => prt_le hr hx) e2
      rw [prtW_row] at h1
      subst h1
      exact ⟨by rw [Dd.code], ⟨hn, h2⟩, by rw [Dd.deep]; omega⟩
theorem inv_iff {n : Nat} (hd : ∀ (t : Tr) (d : Dd), t.size ≤ 4000 → (deedW n t).dd = some d → t = d.code ∧ d.ok ∧ d.deep ≤ n) {a r o : Tr} {d : Dd} (hr : r.size ≤ 4000) (ho : o.size ≤ 4000) (h : (Rw.iff (cntW a) ((prtW r).map (deedW n)) ((prtW o).map (deedW n))).dd = some d) : rowT [num 6, a, r, o] = d.code ∧ d.ok ∧ d.deep ≤ n + 1 := by
  rw [Rw.dd] at h
  cases e : nmW (cntW a) with
  | none => rw [e] at h; cases h
  | some m =>
    cases e2 : rowD ((prtW r).map (deedW n)) with
    | none => rw [e, e2] at h; cases h
    | some q =>
      cases e3 : rowD ((prtW o).map (deedW n)) with
      | none => rw [e, e2, e3] at h; cases h
      | some p =>
        rw [e, e2, e3] at h
        cases Option.some.inj h
        obtain ⟨rfl, hn⟩ := nmW_num e
        obtain ⟨h1, h2, h3⟩ := row_inv hd (prtW r) q (fun x hx => prt_le hr hx) e2
        obtain ⟨g1, g2, g3⟩ := row_inv hd (prtW o) p (fun x hx => prt_le ho hx) e3
        rw [prtW_row] at h1 g1
        subst h1
        subst g1
        exact ⟨by rw [Dd.code], ⟨hn, h2, g2⟩, by rw [Dd.deep]; omega⟩
theorem deedW_inv : ∀ (n : Nat) (t : Tr) (d : Dd), t.size ≤ 4000 → (deedW n t).dd = some d → t = d.code ∧ d.ok ∧ d.deep ≤ n
  | 0, t, d, hs, h => by
    have hr := prtW_row t
    have hz := fun x hx => prt_le (x := x) hs hx
    rw [deedW] at h
    split at h
    · rw [Rw.dd] at h; cases h
    · rename_i k ps hL
      rw [hL] at hr hz
      split at h
      · rename_i e
        rw [cntW_num _ _ e] at hr
        obtain ⟨h1, h2, h3⟩ := inv_told (hz _ (by simp)) h
        exact ⟨hr.symm.trans h1, h2, by omega⟩
      · rename_i e
        rw [cntW_num _ _ e] at hr
        obtain ⟨h1, h2, h3⟩ := inv_take h
        exact ⟨hr.symm.trans h1, h2, by omega⟩
      · rename_i e
        rw [cntW_num _ _ e] at hr
        obtain ⟨h1, h2, h3⟩ := inv_take h
        exact ⟨hr.symm.trans h1, h2, by omega⟩
      · rename_i e
        rw [cntW_num _ _ e] at hr
        obtain ⟨h1, h2, h3⟩ := inv_two h
        exact ⟨hr.symm.trans h1, h2, by omega⟩
      · rename_i e
        rw [cntW_num _ _ e] at hr
        obtain ⟨h1, h2, h3⟩ := inv_two h
        exact ⟨hr.symm.trans h1, h2, by omega⟩
      · rw [Rw.dd] at h; cases h
  | n + 1, t, d, hs, h => by
    have hr := prtW_row t
    have hz := fun x hx => prt_le (x := x) hs hx
    have ih := deedW_inv n
    rw [deedW] at h
    split at h
    · rw [Rw.dd] at h; cases h
    · rename_i k ps hL
      rw [hL] at hr hz
      split at h
      · rename_i e
        rw [cntW_num _ _ e] at hr
        obtain ⟨h1, h2, h3⟩ := inv_told (hz _ (by simp)) h
        exact ⟨hr.symm.trans h1, h2, by omega⟩
      · rename_i e
        rw [cntW_num _ _ e] at hr
        obtain ⟨h1, h2, h3⟩ := inv_take h
        exact ⟨hr.symm.trans h1, h2, by omega⟩
      · rename_i e
        rw [cntW_num _ _ e] at hr
        obtain ⟨h1, h2, h3⟩ := inv_take h
        exact ⟨hr.symm.trans h1, h2, by omega⟩
      · rename_i e
        rw [cntW_num _ _ e] at hr
        obtain ⟨h1, h2, h3⟩ := inv_two h
        exact ⟨hr.symm.trans h1, h2, by omega⟩
      · rename_i e
        rw [cntW_num _ _ e] at hr
        obtain ⟨h1, h2, h3⟩ := inv_two h
        exact ⟨hr.symm.trans h1, h2, by omega⟩
      · rename_i e
        rw [cntW_num _ _ e] at hr
        obtain ⟨h1, h2, h3⟩ := inv_wh ih (hz _ (by simp)) h
        exact ⟨hr.symm.trans h1, h2, h3⟩
      · rename_i e
        rw [cntW_num _ _ e] at hr
        obtain ⟨h1, h2, h3⟩ := inv_iff ih (hz _ (by simp)) (hz _ (by simp)) h
        exact ⟨hr.symm.trans h1, h2, h3⟩
      · rw [Rw.dd] at h; cases h
theorem rowW_inv {n : Nat} {t : Tr} {r : List Dd} (hs : t.size ≤ 4000) (h : rowD (rowW n t) = some r) : t = codeR r ∧ okR r ∧ deepR r ≤ n := by
  obtain ⟨h1, h2, h3⟩ := row_inv (deedW_inv n) (prtW t) r (fun x hx => prt_le hs hx) h
  rw [prtW_row] at h1
  exact ⟨h1, h2, h3⟩
end Js
set_option Elab.async false
set_option linter.all false
set_option maxRecDepth 100000
set_option maxHeartbeats 2000000
namespace Js
open PySem L2
abbrev sHeadX : Stmt := top 58
abbrev sTailX : Stmt := top 59
def spHeadX : Sp := fun vs H Q _ => ∃ t : Tr, vs = [.str t.text] ∧ t.size ≤ 4000 ∧ ∀ H', Same H H' → Q (.str t.head.text) H'
def spTailX : Sp := fun vs H Q _ => ∃ t : Tr, vs = [.str t.text] ∧ t.size ≤ 4000 ∧ ∀ H', Same H H' → Q (.str t.tail.text) H'
theorem sgn_ix (c : Nat) (h : c = 46 ∨ c = 40 ∨ c = 41) : ∃ i rest, Builtin.Str.occurrences (".()" : Str) ⟨#[c]⟩ 0 ((".()" : Str)).length 1 = i :: rest ∧ atI [V.int 0, V.int 1, V.int (-1)] ((i : Nat) : Int) = some (.int (dp1 c)) := by
  rcases h with rfl | rfl | rfl
  · exact ⟨0, [], by decide +kernel, atI_nat rfl⟩
  · exact ⟨1, [], by decide +kernel, atI_nat rfl⟩
  · exact ⟨2, [], by decide +kernel, atI_nat rfl⟩
section
variable {P : Program} {w : World} {K : PySem.W.Frag} {mg : Str → Option Value} {base : Heap} {C fI : Addr} {fdI : FuncData}
theorem scHX : FnScope ["_law_text", "_law_at", "_law_opened"] ["_law_text"] (defScope sHeadX) := ⟨rfl, rfl, rfl, by decide +kernel, rfl, by decide +kernel, by decide +kernel⟩
theorem ok_headX {f : Addr} {fd : FuncData} (F : Fun K "_law_head" "_law_head" sHeadX f fd) : FnOk P w K mg base CX0 1 f fd ["_law_text"] spHeadX := by
  refine F.ok scHX (fun vs H Q E h => ?_) (fun cdv A outer s H vs Q E hr h => ?_)
  · obtain ⟨t, rfl, _⟩ := h
    rfl
  · obtain ⟨t, rfl, hz, k⟩ := h
    refine ⟨_, pss_cons (ps_if (pt_cmpR op_eq (pv 0) pe_str (nomark _)) (pss_one (ps_ret pe_str)) pss_nil)
      (pss_cons (ps_asg (pe_tup (pa_cons pe_int (pa_cons pe_int pa_nil))) (pg_tup rfl (pgs_cons (pg_name (i := 1) scHX.nd rfl (Or.inl rfl)) (pgs_cons (pg_name (i := 2) scHX.nd rfl (Or.inl rfl)) pgs_nil))))
      (pss_cons (ps_while PassesOwn.never (PW.pt (pw_or (pt_cmpR op_eq (pv 1) pe_int (nomark _)) (pw_or1 (pt_cmpR op_gt (pv 2) pe_int (nomark _)))))
        (pss_cons (ps_set (i := 2) scHX.nd rfl (Or.inl rfl) (pe_op op_add (pv 2) (pe_ix ix_list (pe_lst (pa_cons pe_int (pa_cons pe_int (pa_cons (pe_un un_neg pe_int) pa_nil)))) (pe_m1 PySem.F.slot_str_index PySem.F.type_str_index mt_sindex pe_str (pe_ix ix_str (pv 0) (pv 1) (fun _ _ => rfl))) (fun _ _ => rfl))))
        (pss_one (ps_set (i := 1) scHX.nd rfl (Or.inl rfl) (pe_op op_add (pv 1) pe_int)))))
      (pss_one (ps_ret (pe_slice sl_str (pv 0) (po_some pe_int) (po_some (pv 1))))))), ?_⟩
    have hsl := line4
    cases t with
    | nil =>
      refine ⟨_, rfl, rfl, _, rfl, ?_⟩
      rw [nil_dot]
      refine iteT ?_
      have := k H (Same.refl H)
      exact this
    | pr l r =>
      refine ⟨_, rfl, rfl, _, rfl, ?_⟩
      rw [pr_not_dot]
      refine iteF ?_
      refine ⟨(by show 2 ≤ sizeLine; decide), fun q0 nq0 => ?_⟩
      refine ⟨q0, _, rfl, SqT.of upd_same, rfl, _, _, rfl, _, _, rfl, rfl, ?_⟩
      simp only [Tr.size] at hz
      have hcl := Tr.codes_len l
      have hcr := Tr.codes_len r
      have hcl0 : 0 < l.codes.length := by omega
      have hall : (Tr.pr l r).codes.length = l.codes.length + r.codes.length + 2 := by
        simp only [Tr.codes, List.length_cons, List.length_append, List.length_nil]
        omega
      refine ⟨fun m σ H' => ∃ j, j ≤ l.codes.length ∧ σ = [some (.str (Tr.pr l r).text), some (.int ((1 + j : Nat) : Int)), some (.int (dep (l.codes.take j)))] ∧ Same H H' ∧ m = l.codes.length - j, ⟨_, 0, Nat.zero_le _, rfl, Same.new nq0, rfl⟩, ?_⟩
      rintro m σ H' ⟨j, hj, rfl, s1, rfl⟩
      by_cases hlt : j < l.codes.length
      · have goon : (∀ (R : Bool → Hp → Prop), R true H' → (tOr (tTest (tOp rEq (tVar 1) (tC (.int 1)))) (tTest (tOp (rI0 fun i j => .bl (decide (j < i))) (tVar 2) (tC (.int 0))))) [some (.str (Tr.pr l r).text), some (.int ((1 + j : Nat) : Int)), some (.int (dep (l.codes.take j)))] H' R) := by
          intro R hR
          refine ⟨_, rfl, rfl, _, rfl, ?_⟩
          by_cases h0 : j = 0
          · subst h0
            exact iteT hR
          · have e1 : decide (V.int ((1 + j : Nat) : Int) = V.int 1) = false := by
              simp only [decide_eq_false_iff_not, V.int.injEq]
              omega
            rw [e1]
            refine iteF ?_
            have hd := dep_pos l j (by omega) hlt
            refine ⟨_, rfl, _, _, rfl, rfl, _, rfl, ?_⟩
            rw [decide_eq_true hd]
            exact hR
        refine goon _ ?_
        refine iteT ⟨fun σ' H2 => ∃ m', m' < l.codes.length - j ∧ _, fun σ' H2 z => z, ?_⟩
        refine ⟨_, rfl, _, rfl, (by show 3 ≤ sizeLine; decide), fun q nq => ?_⟩
        have hc : l.codes[j]? = some l.codes[j] := List.getElem?_eq_getElem hlt
        have hcc : (Tr.pr l r).text.cps.toList[1 + j]? = some l.codes[j] := by
          rw [Tr.text_list]
          show (40 :: (l.codes ++ (r.codes ++ [41])))[1 + j]? = _
          rw [Nat.add_comm, List.getElem?_cons_succ, List.getElem?_append_left hlt, hc]
        obtain ⟨i, rest, ho, hat⟩ := sgn_ix _ (codes_sign l _ (List.getElem_mem hlt))
        refine ⟨⟨_, rfl⟩, _, rfl, _, rfl, _, _, _, rfl, rfl, ?_, atI_nat hcc, _, _, i, rest, rfl, rfl, ho, q, _, _, _, rfl, rfl, SqL.of upd_same, hat, _, _, rfl, rfl, ?_⟩
        · rw [Tr.text_len]
          simp only [Tr.size]
          omega
        · refine ⟨_, rfl, _, _, rfl, rfl, ?_⟩
          refine ⟨l.codes.length - (j + 1), by omega, j + 1, hlt, ?_, s1.trans (Same.new nq), rfl⟩
          have e1 : ((1 + j : Nat) : Int) + 1 = ((1 + (j + 1) : Nat) : Int) := by omega
          have e2 : dep (l.codes.take j) + dp1 l.codes[j] = dep (l.codes.take (j + 1)) := by
            rw [List.take_succ_eq_append_getElem hlt, dep_append, dep_cons, dep_nil]
            omega
          show [some (V.str (Tr.pr l r).text), some (V.int (((1 + j : Nat) : Int) + 1)), some (V.int (dep (l.codes.take j) + dp1 l.codes[j]))] = _
          rw [e1, e2]
      · have hjl : j = l.codes.length := by omega
        subst hjl
        refine ⟨_, rfl, rfl, _, rfl, ?_⟩
        have e1 : decide (V.int ((1 + l.codes.length : Nat) : Int) = V.int 1) = false := by
          simp only [decide_eq_false_iff_not, V.int.injEq]
          omega
        rw [e1]
        refine iteF ?_
        refine ⟨_, rfl, _, _, rfl, rfl, _, rfl, ?_⟩
        have e2 : decide ((0 : Int) < dep (l.codes.take l.codes.length)) = false := by
          rw [List.take_length, dep_codes]
          decide
        rw [e2]
        refine iteF ?_
        refine ⟨_, rfl, _, rfl, _, rfl, _, rfl, _, rfl, ?_, ?_⟩
        · rw [Tr.text_len]
          simp only [Tr.size]
          omega
        · have e3 : cutS (Tr.pr l r).text (some (1 : Int)) (some ((1 + l.codes.length : Nat) : Int)) = l.text := by
            have := cut_tx (Tr.pr l r).codes 1 (1 + l.codes.length) (by omega) (by rw [hall]; omega)
            rw [tx_text]
            refine this.trans ?_
            rw [tx_text]
            congr 1
            show (l.codes ++ (r.codes ++ [41])).take (1 + l.codes.length - 1) = _
            rw [Nat.add_sub_cancel_left, List.take_left]
          show Q (.str (cutS (Tr.pr l r).text (some (1 : Int)) (some ((1 + l.codes.length : Nat) : Int)))) H'
          rw [e3]
          exact k H' s1
theorem scTX : FnScope ["_law_text"] ["_law_text"] (defScope sTailX) := ⟨rfl, rfl, rfl, by decide +kernel, rfl, by decide +kernel, by decide +kernel⟩
theorem ok_tailX {f : Addr} {fd : FuncData} (F : Fun K "_law_tail" "_law_tail" sTailX f fd) (B : Blt mg) (DH : Def P w K mg base "_law_head" 1 ["_law_text"] spHeadX) : FnOk P w K mg base CX0 2 f fd ["_law_text"] spTailX := by
  refine F.ok scTX (fun vs H Q E h => ?_) (fun cdv A outer s H vs Q E hr h => ?_)
  · obtain ⟨t, rfl, _⟩ := h
    rfl
  · obtain ⟨t, rfl, hz, k⟩ := h
    refine ⟨_, pss_cons (ps_if (pt_cmpR op_eq (pv 0) pe_str (nomark _)) (pss_one (ps_ret pe_str)) pss_nil)
      (pss_one (ps_ret (pe_slice sl_str (pv 0) (po_some (pe_op op_add pe_int (pe_callB call_len_str (by rfl) B.len PySem.boot_len (pa_cons (pe_def DH hr rfl (pa_cons (pv 0) pa_nil)) pa_nil)))) (po_some (pe_un un_neg pe_int))))), ?_⟩
    have hsl := line4
    cases t with
    | nil =>
      refine ⟨_, rfl, rfl, _, rfl, ?_⟩
      rw [nil_dot]
      exact iteT (k H (Same.refl H))
    | pr l r =>
      refine ⟨_, rfl, rfl, _, rfl, ?_⟩
      rw [pr_not_dot]
      refine iteF ?_
      have hcl := Tr.codes_len l
      have hcr := Tr.codes_len r
      have hall : (Tr.pr l r).codes.length = l.codes.length + r.codes.length + 2 := by
        simp only [Tr.codes, List.length_cons, List.length_append, List.length_nil]
        omega
      refine ⟨_, rfl, _, rfl, .pr l r, rfl, hz, fun H1 s1 => ?_⟩
      simp only [Tr.size] at hz
      refine ⟨_, rfl, ?_, _, _, rfl, rfl, _, rfl, _, rfl, _, rfl, _, rfl, ?_, ?_⟩
      · show l.text.length ≤ sizeLine
        rw [Tr.text_len]
        omega
      · rw [Tr.text_len]
        simp only [Tr.size]
        omega
      · have e3 : cutS (Tr.pr l r).text (some ((1 : Int) + ((l.text.length : Nat) : Int))) (some (-1 : Int)) = r.text := by
          have e4 : ((1 : Int) + ((l.text.length : Nat) : Int)) = ((1 + l.codes.length : Nat) : Int) := by
            rw [tx_text, tx_len]
            omega
          rw [e4]
          have := cut_neg (Tr.pr l r).codes (1 + l.codes.length) 1 (by rw [hall]; omega) (by decide)
          rw [tx_text]
          refine this.trans ?_
          rw [tx_text]
          congr 1
          rw [hall]
          have e5 : l.codes.length + r.codes.length + 2 - 1 - (1 + l.codes.length) = r.codes.length := by omega
          rw [e5]
          show ((40 :: (l.codes ++ (r.codes ++ [41]))).drop (1 + l.codes.length)).take r.codes.length = r.codes
          rw [Nat.add_comm, List.drop_succ_cons, List.drop_left, List.take_left]
        show Q (.str (cutS (Tr.pr l r).text (some ((1 : Int) + ((l.text.length : Nat) : Int))) (some (-1 : Int)))) H1
        rw [e3]
        exact k H1 s1
end
end Js
set_option Elab.async false
set_option linter.all false
set_option maxRecDepth 100000
set_option maxHeartbeats 2000000
namespace Js
open PySem L2
open PySem PySem.Spec PyProof.Rows L2
abbrev sLParts : Stmt := top 63
abbrev sNu17 : Stmt := top 64
theorem str_dec (t u : Tr) : decide (V.str t.text = V.str u.text) = decide (t = u) := by
  by_cases h : t = u
  · rw [h, decide_eq_true rfl, decide_eq_true rfl]
  · rw [decide_eq_false h, decide_eq_false]
    intro z
    exact h (Tr.text_inj (V.str.inj z))
theorem cnt_c (t : Tr) : PySem.Txt.count t.text "(" = ((t.size : Nat) : Int) := by
  rw [tx_text, show (("(" : Str)) = ⟨#[40]⟩ from by decide +kernel, count_tx, count_codes]
def numK (t : Tr) : Nat := match cntW t with
  | some n => n
  | none => 99
theorem cntW_numK : ∀ n, cntW (num n) = some n
  | 0 => rfl
  | n + 1 => by rw [num, cntW, cntW_numK n]; rfl
theorem numK_if (t : Tr) : numK t = if t = num t.size then t.size else 99 := by
  unfold numK
  split
  · next n h =>
    have e := cntW_num t n h
    have es : t.size = n := by rw [e, num_size]
    rw [es, if_pos e]
  · next h =>
    rw [if_neg]
    intro e
    rw [e, cntW_numK] at h
    cases h
def spNu17 : Sp := fun vs H Q _ => ∃ t : Tr, vs = [.str t.text] ∧ t.size ≤ 4000 ∧ ∀ H', Same H H' → Q (.int ((numK t : Nat) : Int)) H'
def spLParts : Sp := fun vs H Q _ => ∃ t : Tr, vs = [.str t.text] ∧ t.size ≤ 4000 ∧ ∀ p H', Same H H' → H p = none → H' p = some (.lst ((prtW t).map fun u => .str u.text)) → Q (.ref p) H'
section
variable {P : Program} {w : World} {K : PySem.W.Frag} {mg : Str → Option Value} {base : Heap} {C : Addr}
theorem scLP17 : FnScope ["_law_text", "_law_found"] ["_law_text"] (defScope sLParts) := ⟨rfl, rfl, rfl, by decide +kernel, rfl, by decide +kernel, by decide +kernel⟩
theorem scNu17 : FnScope ["_law_text", "_law_many"] ["_law_text"] (defScope sNu17) := ⟨rfl, rfl, rfl, by decide +kernel, rfl, by decide +kernel, by decide +kernel⟩
theorem ok_lparts {f : Addr} {fd : FuncData} (F : Fun K "_law_parts" "_law_parts" sLParts f fd) (DH : Def P w K mg base "_law_head" 1 ["_law_text"] spHeadX) (DT : Def P w K mg base "_law_tail" 2 ["_law_text"] spTailX) : FnOk P w K mg base CX0 3 f fd ["_law_text"] spLParts := by
  refine F.ok scLP17 (fun vs H Q E h => ?_) (fun cdv A outer s H vs Q E hr h => ?_)
  · obtain ⟨t, rfl, _⟩ := h
    rfl
  · obtain ⟨t, rfl, hz, k⟩ := h
    have hr1 : Room 1 _ := hr.mono (by decide)
    refine ⟨_, pss_cons (ps_set (i := 1) scLP17.nd rfl (Or.inl rfl) (pe_lst pa_nil)) (pss_cons (ps_while PassesOwn.never (pt_cmpR op_ne (pv 0) pe_str (nomark _)) (pss_cons (ps_expr (pe_bm PySem.F.plainAttrs_list PySem.F.slot_list_append PySem.F.type_list_append mt_append (pv 1) (pa_cons (pe_def DH hr1 rfl (pa_cons (pv 0) pa_nil)) pa_nil))) (pss_one (ps_set (i := 0) scLP17.nd rfl (Or.inl rfl) (pe_def DT hr rfl (pa_cons (pv 0) pa_nil)))))) (pss_one (ps_ret (pv 1)))), ?_⟩
    have hsl := line4
    refine ⟨Nat.zero_le _, fun fl nfl => ?_⟩
    refine ⟨fun m σ H' => ∃ (u : Tr) (ds : List Tr), σ = [some (.str u.text), some (.ref fl)] ∧ Same H H' ∧ H' fl = some (.lst (ds.map fun u => .str u.text)) ∧ m = u.size ∧ ds.length + u.size ≤ t.size ∧ ds ++ prtW u = prtW t, ⟨_, t, [], rfl, Same.new nfl, upd_same, rfl, by simp, rfl⟩, ?_⟩
    rintro m σ H' ⟨u, ds, rfl, s1, hf, rfl, hsz, he⟩
    cases u with
    | nil =>
      refine ⟨_, rfl, rfl, _, rfl, ?_⟩
      have e0 : (!decide (V.str Tr.nil.text = V.str ".")) = false := by decide +kernel
      rw [e0]
      refine iteF ⟨_, rfl, k fl H' s1 nfl ?_⟩
      rw [← he, prtW, List.append_nil]
      exact hf
    | pr l r =>
      refine ⟨_, rfl, rfl, _, rfl, ?_⟩
      have e0 : (!decide (V.str (Tr.pr l r).text = V.str ".")) = true := by
        rw [pr_not_dot]
        rfl
      rw [e0]
      refine iteT ⟨fun σ' H2 => ∃ m', m' < (Tr.pr l r).size ∧ _, fun σ' H2 z => z, ?_⟩
      simp only [Tr.size] at hsz
      refine ⟨_, rfl, .inl ⟨rfl, _, SqL.of hf⟩, _, rfl, .pr l r, rfl, by simp only [Tr.size]; omega, fun H2 s2 => ?_⟩
      refine ⟨fl, _, _, rfl, rfl, s2 _ _ hf, by rw [List.length_map]; omega, ?_⟩
      refine ⟨_, rfl, .pr l r, rfl, by simp only [Tr.size]; omega, fun H3 s3 => ?_⟩
      refine ⟨r.size, by simp only [Tr.size]; omega, r, ds ++ [l], rfl, ((s1.trans s2).set nfl).trans s3, ?_, rfl, ?_, ?_⟩
      · rw [s3 _ _ upd_same, List.map_append]
        rfl
      · rw [List.length_append, List.length_singleton]
        omega
      · rw [← he, prtW]
        simp
theorem ok_nu17 {f : Addr} {fd : FuncData} (F : Fun K "_law_number" "_law_number" sNu17 f fd) (B : Blt mg) (DNt : Def P w K mg base "_law_number_text" 1 ["_law_n"] spNt) : FnOk P w K mg base CX0 2 f fd ["_law_text"] spNu17 := by
  refine F.ok scNu17 (fun vs H Q E h => ?_) (fun cdv A outer s H vs Q E hr h => ?_)
  · obtain ⟨t, rfl, _⟩ := h
    rfl
  · obtain ⟨t, rfl, hz, k⟩ := h
    have hr1 : Room 1 _ := hr.mono (by decide)
    refine ⟨_, pss_cons (ps_set (i := 1) scNu17.nd rfl (Or.inl rfl) (pe_m1 PySem.F.slot_str_count PySem.F.type_str_count mt_count (pv 0) pe_str)) (pss_one (ps_ret (pe_ix (r := rIxL K) ix_list (pe_lst (pa_cons pe_int (pa_cons (pv 1) pa_nil))) (pe_callTy call_int1 (by rfl) B.int PyProof.Rows.boot_int (pa_cons (pe_cmpR op_eq (pv 0) (pe_def DNt hr1 rfl (pa_cons (pv 1) pa_nil)) (nomark _)) pa_nil)) (fun _ _ => rfl)))), ?_⟩
    have hsl := line4
    refine ⟨_, rfl, ⟨_, rfl⟩, _, _, rfl, rfl, ?_⟩
    rw [cnt_c]
    refine ⟨_, rfl, by show 2 ≤ sizeLine; decide, fun L nL => ?_⟩
    refine ⟨_, rfl, _, rfl, t.size, rfl, by omega, fun H1 s1 => ?_⟩
    refine ⟨rfl, .inr ⟨_, rfl, ?_⟩⟩
    rw [str_dec]
    have hk := k H1 ((Same.new nL).trans s1)
    have hL := s1 _ _ (upd_same (H := H) (a := L) (o := .lst [V.int 99, V.int ((t.size : Nat) : Int)]))
    rw [numK_if] at hk
    by_cases ht : t = num t.size
    · rw [if_pos ht] at hk
      rw [decide_eq_true ht]
      exact ⟨L, _, _, .int ((t.size : Nat) : Int), rfl, rfl, SqL.of hL, rfl, hk⟩
    · rw [if_neg ht] at hk
      rw [decide_eq_false ht]
      exact ⟨L, _, _, .int 99, rfl, rfl, SqL.of hL, rfl, hk⟩
end
end Js
set_option Elab.async false
set_option linter.all false
set_option maxRecDepth 100000
set_option maxHeartbeats 2000000
namespace Js
open PySem L2
open PySem.Spec PyProof.Rows
def nmV : Option Nat → V
  | some n => .int ((n : Nat) : Int)
  | none => .non
mutual
def RwAt (K : PySem.W.Frag) (C : Addr) (H : Hp) : V → Rw → Prop
  | v, .bad => ∃ p, v = .ref p ∧ SqT K H p []
  | v, .told a t => ∃ p x, v = .ref p ∧ SqT K H p [.str "told", nmV a, .ref x] ∧ Th C H x t ∧ t.size ≤ 4000
  | v, .take s a b => ∃ p, v = .ref p ∧ SqT K H p [.str (takeS s), nmV a, nmV b]
  | v, .two s a b c => ∃ p, v = .ref p ∧ SqT K H p [.str (twoS s), nmV a, nmV b, nmV c]
  | v, .wh a r => ∃ p q vs, v = .ref p ∧ SqT K H p [.str "while", nmV a, .ref q] ∧ SqT K H q vs ∧ RwsAt K C H vs r
  | v, .iff a r o => ∃ p q vs q2 vs2, v = .ref p ∧ SqT K H p [.str "if", nmV a, .ref q, .ref q2] ∧ SqT K H q vs ∧ RwsAt K C H vs r ∧ SqT K H q2 vs2 ∧ RwsAt K C H vs2 o
def RwsAt (K : PySem.W.Frag) (C : Addr) (H : Hp) : List V → List Rw → Prop
  | vs, [] => vs = []
  | vs, d :: r => ∃ v us, vs = v :: us ∧ RwAt K C H v d ∧ RwsAt K C H us r
end
mutual
theorem RwAt_kt {K : PySem.W.Frag} {C : Addr} {H H' : Hp} (k : KT H H') : ∀ (d : Rw) (v : V), RwAt K C H v d → RwAt K C H' v d
  | .bad, v, h => by
    rw [RwAt] at h ⊢
    obtain ⟨p, e, h1⟩ := h
    exact ⟨p, e, sqt_kt k h1⟩
  | .told a t, v, h => by
    rw [RwAt] at h ⊢
    obtain ⟨p, x, e, h1, h2, h3⟩ := h
    exact ⟨p, x, e, sqt_kt k h1, h2.kt k, h3⟩
  | .take s a b, v, h => by
    rw [RwAt] at h ⊢
    obtain ⟨p, e, h1⟩ := h
    exact ⟨p, e, sqt_kt k h1⟩
  | .two s a b c, v, h => by
    rw [RwAt] at h ⊢
    obtain ⟨p, e, h1⟩ := h
    exact ⟨p, e, sqt_kt k h1⟩
  | .wh a r, v, h => by
    rw [RwAt] at h ⊢
    obtain ⟨p, q, vs, e, h1, h2, h3⟩ := h
    exact ⟨p, q, vs, e, sqt_kt k h1, sqt_kt k h2, RwsAt_kt k r vs h3⟩
  | .iff a r o, v, h => by
    rw [RwAt] at h ⊢
    obtain ⟨p, q, vs, q2, vs2, e, h1, h2, h3, h4, h5⟩ := h
    exact ⟨p, q, vs, q2, vs2, e, sqt_kt k h1, sqt_kt k h2, RwsAt_kt k r vs h3, sqt_kt k h4, RwsAt_kt k o vs2 h5⟩
theorem RwsAt_kt {K : PySem.W.Frag} {C : Addr} {H H' : Hp} (k : KT H H') : ∀ (r : List Rw) (vs : List V), RwsAt K C H vs r → RwsAt K C H' vs r
  | [], vs, h => by rw [RwsAt] at h ⊢; exact h
  | d :: r, vs, h => by
    rw [RwsAt] at h ⊢
    obtain ⟨v, us, e, h1, h2⟩ := h
    exact ⟨v, us, e, RwAt_kt k d v h1, RwsAt_kt k r us h2⟩
end
theorem RwsAt_snoc {K : PySem.W.Frag} {C : Addr} {H : Hp} {v : V} {d : Rw} (hd : RwAt K C H v d) : ∀ (r : List Rw) (vs : List V), RwsAt K C H vs r → RwsAt K C H (vs ++ [v]) (r ++ [d])
  | [], vs, h => by
    rw [RwsAt] at h
    subst h
    exact ⟨v, [], rfl, hd, rfl⟩
  | x :: r, vs, h => by
    rw [RwsAt] at h
    obtain ⟨u, us, rfl, h1, h2⟩ := h
    exact ⟨u, us ++ [v], rfl, h1, RwsAt_snoc hd r us h2⟩
theorem RwsAt_len {K : PySem.W.Frag} {C : Addr} {H : Hp} : ∀ (r : List Rw) (vs : List V), RwsAt K C H vs r → vs.length = r.length
  | [], vs, h => by rw [RwsAt] at h; subst h; rfl
  | x :: r, vs, h => by
    rw [RwsAt] at h
    obtain ⟨u, us, rfl, h1, h2⟩ := h
    rw [List.length_cons, List.length_cons, RwsAt_len r us h2]
mutual
theorem RwAt_dd {K : PySem.W.Frag} {C : Addr} {H : Hp} : ∀ (x : Rw) (v : V) (d : Dd), RwAt K C H v x → x.dd = some d → DAt K C H v d
  | .bad, v, d, h, e => by rw [Rw.dd] at e; cases e
  | .told a t, v, d, h, e => by
    rw [RwAt] at h
    obtain ⟨p, x, rfl, h1, h2, h3⟩ := h
    rw [Rw.dd] at e
    cases e1 : nmW a with
    | none => rw [e1] at e; cases e
    | some n =>
      rw [e1] at e
      cases Option.some.inj e
      obtain ⟨rfl, hn⟩ := nmW_some e1
      exact ⟨p, x, rfl, h1, hn, h2, h3⟩
  | .take s a b, v, d, h, e => by
    rw [RwAt] at h
    obtain ⟨p, rfl, h1⟩ := h
    rw [Rw.dd] at e
    cases e1 : nmW a with
    | none => rw [e1] at e; cases e
    | some n =>
      cases e2 : nmW b with
      | none => rw [e1, e2] at e; cases e
      | some m =>
        rw [e1, e2] at e
        cases Option.some.inj e
        obtain ⟨rfl, hn⟩ := nmW_some e1
        obtain ⟨rfl, hm⟩ := nmW_some e2
        exact ⟨p, rfl, h1, hn, hm⟩
  | .two s a b c, v, d, h, e => by
    rw [RwAt] at h
    obtain ⟨p, rfl, h1⟩ := h
    rw [Rw.dd] at e
    cases e1 : nmW a with
    | none => rw [e1] at e; cases e
    | some n =>
      cases e2 : nmW b with
      | none => rw [e1, e2] at e; cases e
      | some m =>
        cases e3 : nmW c with
        | none => rw [e1, e2, e3] at e; cases e
        | some k =>
          rw [e1, e2, e3] at e
          cases Option.some.inj e
          obtain ⟨rfl, hn⟩ := nmW_some e1
          obtain ⟨rfl, hm⟩ := nmW_some e2
          obtain ⟨rfl, hk⟩ := nmW_some e3
          exact ⟨p, rfl, h1, hn, hm, hk⟩
  | .wh a r, v, d, h, e => by
    rw [RwAt] at h
    obtain ⟨p, q, vs, rfl, h1, h2, h3⟩ := h
    rw [Rw.dd] at e
    cases e1 : nmW a with
    | none => rw [e1] at e; cases e
    | some n =>
      cases e2 : rowD r with
      | none => rw [e1, e2] at e; cases e
      | some q2 =>
        rw [e1, e2] at e
        cases Option.some.inj e
        obtain ⟨rfl, hn⟩ := nmW_some e1
        exact ⟨p, q, vs, rfl, h1, hn, h2, RwsAt_dd r vs q2 h3 e2⟩
  | .iff a r o, v, d, h, e => by
    rw [RwAt] at h
    obtain ⟨p, q, vs, q2, vs2, rfl, h1, h2, h3, h4, h5⟩ := h
    rw [Rw.dd] at e
    cases e1 : nmW a with
    | none => rw [e1] at e; cases e
    | some n =>
      cases e2 : rowD r with
      | none => rw [e1, e2] at e; cases e
      | some r2 =>
        cases e3 : rowD o with
        | none => rw [e1, e2, e3] at e; cases e
        | some o2 =>
          rw [e1, e2, e3] at e
          cases Option.some.inj e
          obtain ⟨rfl, hn⟩ := nmW_some e1
          exact ⟨p, q, vs, q2, vs2, rfl, h1, hn, h2, RwsAt_dd r vs r2 h3 e2, h4, RwsAt_dd o vs2 o2 h5 e3⟩
theorem RwsAt_dd {K : PySem.W.Frag} {C : Addr} {H : Hp} : ∀ (r : List Rw) (vs : List V) (q : List Dd), RwsAt K C H vs r → rowD r = some q → DsAt K C H vs q
  | [], vs, q, h, e => by
    rw [RwsAt] at h
    cases Option.some.inj e
    exact h
  | x :: r, vs, q, h, e => by
    rw [RwsAt] at h
    obtain ⟨v, us, rfl, h1, h2⟩ := h
    obtain ⟨d, q2, e1, e2, rfl⟩ := rowD_cons e
    exact ⟨v, us, rfl, RwAt_dd x v d h1 e1, RwsAt_dd r us q2 h2 e2⟩
end
def spCountW (C : Addr) : Sp := fun vs H Q _ => ∃ a t, vs = [.ref a] ∧ Th C H a t ∧ Q (nmV (cntW t)) H
section
variable {P : Program} {w : World} {K : PySem.W.Frag} {mg : Str → Option Value} {base : Heap} {C CP fI fP : Addr} {fdI fdP : FuncData}
theorem ok_countW {f : Addr} {fd : FuncData} (F : Fun K "counted" "counted" sCounted f fd) (T : Txt K mg C) : FnOk P w K mg base CX0 1 f fd ["thing"] (spCountW C) := by
  refine F.ok scCt (fun vs H Q E h => ?_) (fun cdv A outer s H vs Q E hr h => ?_)
  · obtain ⟨a, n, rfl, _⟩ := h
    rfl
  · obtain ⟨a, t, rfl, ha, k⟩ := h
    refine ⟨_, pss_cons (ps_set (i := 1) scCt.nd rfl (Or.inl rfl) pe_int) (pss_cons (ps_set (i := 2) scCt.nd rfl (Or.inl rfl) (pv 0)) (pss_cons (ps_while PassesOwn.never (pt_truth (pe_fld (pv 2) rfl) (by intro _; rfl)) (pss_cons (ps_if (pt_truth (pe_fld (pe_fld (pv 2) rfl) rfl) (by intro _; rfl)) (pss_one (ps_ret pe_non)) pss_nil) (pss_cons (ps_aug (i := 1) scCt.nd rfl (Or.inl rfl) pe_int ip_add) (pss_one (ps_set (i := 2) scCt.nd rfl (Or.inl rfl) (pe_fld (pv 2) rfl)))))) (pss_one (ps_ret (pv 1))))), ?_⟩
    refine ⟨_, rfl, fun m σ H' => ∃ (i : Nat) (b : Addr) (u : Tr), σ = [some (.ref a), some (.int ((i : Nat) : Int)), some (.ref b)] ∧ H' = H ∧ Th C H b u ∧ u.size = m ∧ cntW t = (cntW u).map (· + i), ⟨t.size, 0, a, t, rfl, rfl, ha, rfl, by cases cntW t <;> rfl⟩, ?_⟩
    rintro m σ H1 ⟨i, b, u, rfl, rfl, hb, hm, hc⟩
    match u, hm, hc, hb with
    | .nil, hm, hc, hb =>
      obtain ⟨dx, f1, g1, h1⟩ := hb.obj
      refine ⟨_, rfl, _, _, _, _, _, rfl, h1, T.cl, T.nZ, tf_size _ _ _, _, rfl, iteF ?_⟩
      rw [hc, show (cntW .nil).map (· + i) = some i by rw [cntW]; exact congrArg some (Nat.zero_add i)] at k
      exact ⟨_, rfl, k⟩
    | .pr x v, hm, hc, hb =>
      obtain ⟨dx, b1, c1, h1, hb1, hc1⟩ := hb.pair
      have e : (((Tr.pr x v).size : Nat) : Int) ≠ 0 := by
        show ((1 + x.size + v.size : Nat) : Int) ≠ 0
        omega
      have hvm : v.size < m := by
        rw [← hm]
        show v.size < 1 + x.size + v.size
        omega
      refine ⟨_, rfl, _, _, _, _, _, rfl, h1, T.cl, T.nZ, tf_size _ _ _, _, rfl, ?_⟩
      rw [show ((((Tr.pr x v).size : Nat) : Int) != 0) = true from by simpa using e]
      refine iteT ⟨fun σ' H5 => ∃ m', m' < m ∧ _, fun σ' H5 z => z, ?_⟩
      obtain ⟨dy, f2, g2, h2⟩ := hb1.obj
      match x, hc, h1, h2, hb1 with
      | .nil, hc, h1, h2, hb1 =>
        refine ⟨_, rfl, _, _, _, _, _, rfl, h1, T.cl, T.nF, tf_first _ _ _, _, _, _, _, _, rfl, h2, T.cl, T.nZ, tf_size _ _ _, _, rfl, iteF ?_⟩
        refine ⟨_, rfl, _, _, rfl, rfl, ?_⟩
        refine ⟨_, rfl, _, _, _, _, _, rfl, h1, T.cl, T.nS, tf_second _ _ _, ?_⟩
        refine ⟨v.size, hvm, i + 1, c1, v, rfl, rfl, hc1, rfl, ?_⟩
        rw [hc, cntW]
        cases cntW v with
        | none => rfl
        | some q => exact congrArg some (by show q + 1 + i = q + (i + 1); omega)
      | .pr y z, hc, h1, h2, hb1 =>
        refine ⟨_, rfl, _, _, _, _, _, rfl, h1, T.cl, T.nF, tf_first _ _ _, _, _, _, _, _, rfl, h2, T.cl, T.nZ, tf_size _ _ _, _, rfl, ?_⟩
        rw [show ((((Tr.pr y z).size : Nat) : Int) != 0) = true from by
          have : (((Tr.pr y z).size : Nat) : Int) ≠ 0 := by
            show ((1 + y.size + z.size : Nat) : Int) ≠ 0
            omega
          simpa using this]
        rw [hc, show cntW (.pr (.pr y z) v) = none from by rw [cntW]] at k
        exact iteT k
end
end Js
set_option Elab.async false
set_option linter.all false
set_option maxRecDepth 100000
set_option maxHeartbeats 2000000
namespace Js
open PySem L2
open PySem.Spec PyProof.Rows
def kindW : List Tr → Option Str
  | [] => none
  | k :: _ => match cntW k with
    | some m => formKs[m]?
    | none => none
def strO : Option Str → V
  | some x => .str x
  | none => .non
def PwAt (K : PySem.W.Frag) (C : Addr) (H : Hp) (x : V) (c m : Nat) (t : Tr) : Prop := (c = 110 ∧ x = nmV (cntW t)) ∨ (c = 116 ∧ ∃ y, x = .ref y ∧ Th C H y t ∧ t.size ≤ 4000) ∨ (c = 114 ∧ ∃ m' q vs, m = m' + 1 ∧ x = .ref q ∧ SqT K H q vs ∧ RwsAt K C H vs (rowW m' t))
theorem PwAt.kt {K : PySem.W.Frag} {C : Addr} {H H' : Hp} (k : KT H H') {x : V} {c m : Nat} {t : Tr} (h : PwAt K C H x c m t) : PwAt K C H' x c m t := by
  rcases h with h | ⟨e, y, e2, h1, h2⟩ | ⟨e, m', q, vs, e2, e3, h1, h2⟩
  · exact .inl h
  · exact .inr (.inl ⟨e, y, e2, h1.kt k, h2⟩)
  · exact .inr (.inr ⟨e, m', q, vs, e2, e3, sqt_kt k h1, RwsAt_kt k _ _ h2⟩)
def spKindW (C : Addr) : Sp := fun vs H Q _ => ∃ l us ts, vs = [.ref l] ∧ H l = some (.lst us) ∧ Paired (ThV C H) us ts ∧ ∀ H', Same H H' → Q (strO (kindW ts)) H'
def spPartW (K : PySem.W.Frag) (C : Addr) (m : Nat) : Sp := fun vs H Q _ => ∃ (y : Addr) (c fl : Nat) (t : Tr), vs = [.ref y, .str ⟨#[c]⟩, .int ((fl : Nat) : Int)] ∧ Th C H y t ∧ t.size ≤ 4000 ∧ (c = 110 ∨ c = 116 ∨ (c = 114 ∧ 1 ≤ m ∧ fl + m = 8)) ∧ ∀ x H', Same H H' → PwAt K C H' x c m t → Q x H'
def spRwT (K : PySem.W.Frag) (C : Addr) (m : Nat) : Sp := fun vs H Q _ => ∃ (m' : Nat) (y : Addr) (fl : Nat) (t : Tr), m = m' + 1 ∧ vs = [.ref y, .int ((fl : Nat) : Int)] ∧ Th C H y t ∧ t.size ≤ 4000 ∧ fl + m' = 8 ∧ ∀ q ws H', Same H H' → SqT K H' q ws → RwsAt K C H' ws (rowW m' t) → Q (.ref q) H'
def spDdT (K : PySem.W.Frag) (C : Addr) (m : Nat) : Sp := fun vs H Q _ => ∃ (m' : Nat) (y : Addr) (fl : Nat) (t : Tr), m = m' + 1 ∧ vs = [.ref y, .int ((fl : Nat) : Int)] ∧ Th C H y t ∧ t.size ≤ 4000 ∧ fl + m' = 8 ∧ ∀ p H', Same H H' → RwAt K C H' (.ref p) (deedW m' t) → Q (.ref p) H'
section
variable {P : Program} {w : World} {K : PySem.W.Frag} {mg : Str → Option Value} {base : Heap} {C CP fI fP : Addr} {fdI fdP : FuncData}
theorem ok_kindW {f : Addr} {fd : FuncData} (F : Fun K "kind_told" "kind_told" sKindT f fd) (B : Blt mg) (ml : mg "list" = none) (Fo : FoK K w mg) (DC : Def P w K mg base "counted" 1 ["thing"] (spCountW C)) : FnOk P w K mg base CX0 2 f fd ["told"] (spKindW C) := by
  obtain ⟨dF, es, nF, mF, kdd, hk, h7, hks⟩ := Fo.ex
  have kdF := (⟨kdd, h7, hks⟩ : KDict K w dF es nF ∧ es.size = 7 ∧ ∀ (i : Nat) (h : i < es.size), ∃ z t, formKs[i]? = some z ∧ es[i].key = Value.str z t)
  refine F.ok scKt (fun vs H Q E h => ?_) (fun cdv A outer s H vs Q E hr h => ?_)
  · obtain ⟨l, us, ts, rfl, _⟩ := h
    rfl
  · obtain ⟨l, us, ts, rfl, hl, hus, k⟩ := h
    refine ⟨_, pss_cons (ps_set (i := 1) scKt.nd rfl (Or.inl rfl) (pe_ifExp (pt_truth (pv 0) (by intro _; rfl)) (pe_def DC hr rfl (pa_cons (pe_ix (r := rIxL K) ix_list (pv 0) pe_int (fun _ _ => rfl)) pa_nil)) pe_non)) (pss_cons (ps_if (PW.pt (pw_or (pt_cmp (pc_isN (pv 1))) (pw_or1 (pt_cmpR op_ge (pv 1) (pe_callB (call_lenKD kdd h7) (by rfl) B.len PySem.boot_len (pa_cons (pe_glob (v := .ref dF) rfl mF rfl) pa_nil)) (nomark _))))) (pss_one (ps_ret pe_non)) pss_nil) (pss_one (ps_ret (pe_ix (r := rIxL K) ix_list (pe_callTy (call_listKD rfl kdF) (by rfl) ml PyProof.Rows.boot_list (pa_cons (pe_glob (v := .ref dF) rfl mF rfl) pa_nil)) (pv 1) (fun _ _ => rfl))))), ?_⟩
    cases hus with
    | nil =>
      refine ⟨_, rfl, _, .inl ⟨_, SqL.of hl, rfl⟩, iteF ?_⟩
      refine ⟨_, rfl, _, rfl, iteT (iteT ?_)⟩
      exact k _ (Same.refl _)
    | cons hx hus =>
      rename_i x0 t0 us0 ts0
      obtain ⟨x, rfl, hx⟩ := hx
      refine ⟨_, rfl, _, .inl ⟨_, SqL.of hl, rfl⟩, iteT ?_⟩
      refine ⟨_, rfl, l, _, 0, _, rfl, rfl, SqL.of hl, at0 _ _, x, t0, rfl, hx, ?_⟩
      have hkw : kindW (t0 :: ts0) = match cntW t0 with | some m => formKs[m]? | none => none := rfl
      rw [hkw] at k
      cases hc : cntW t0 with
      | none =>
        rw [hc] at k
        refine ⟨_, rfl, _, rfl, iteT (iteT ?_)⟩
        exact k _ (Same.refl _)
      | some m =>
        rw [hc] at k
        dsimp only at k
        refine ⟨_, rfl, _, rfl, ?_⟩
        rw [show decide (nmV (some m) = V.non) = false from decide_eq_false (fun e => nomatch e)]
        refine iteF ?_
        refine ⟨_, rfl, rfl, _, _, rfl, rfl, _, rfl, ?_⟩
        by_cases h : 7 ≤ m
        · rw [decide_eq_true (show ((m : Nat) : Int) ≥ 7 by omega)]
          rw [show formKs[m]? = none from List.getElem?_eq_none_iff.mpr h] at k
          exact iteT (k _ (Same.refl _))
        · rw [decide_eq_false (show ¬ ((m : Nat) : Int) ≥ 7 by omega)]
          have hm : m < formKs.length := by show m < 7; omega
          rw [List.getElem?_eq_getElem hm] at k
          refine iteF ?_
          refine ⟨rfl, fun q nq => ?_⟩
          have sq := Same.new nq (o := .lst (strV formKs))
          exact ⟨_, rfl, q, _, _, _, rfl, rfl, SqL.of upd_same, atI_nat (by rw [strV, List.getElem?_map, List.getElem?_eq_getElem hm]; rfl), k _ sq⟩
theorem ok_partW {f fR : Addr} {fd fdR : FuncData} {n : Nat} (F : Fun K "part_told" "part_told" sPartT f fd) (DC : Def P w K mg base "counted" 1 ["thing"] (spCountW C)) (GR : FnOk P w K mg base CX0 (3 * n + 3) fR fdR ["thing", "floors"] (spRwT K C n)) (mgr : mg "row_told" = some (.ref fR)) (kr : PySem.W.keepIn K (.ref fR) = true) (br : Binds K fdR ["thing", "floors"] []) : FnOk P w K mg base CX0 (3 * n + 4) f fd ["part", "sign", "floors"] (spPartW K C n) := by
  refine F.ok scPt (fun vs H Q E h => ?_) (fun cdv A outer s H vs Q E hr h => ?_)
  · obtain ⟨y, c, fl, t, rfl, _⟩ := h
    rfl
  · obtain ⟨y, c, fl, t, rfl, hy, hz, hc, k⟩ := h
    have hr1 : Room 1 _ := hr.mono (by omega)
    refine ⟨_, pss_cons (ps_if (pt_cmpR op_eq (pv 1) pe_str (nomark _)) (pss_one (ps_ret (pe_def DC hr1 rfl (pa_cons (pv 0) pa_nil)))) pss_nil) (pss_cons (ps_if (pt_cmpR op_eq (pv 1) pe_str (nomark _)) (pss_one (ps_ret (pv 0))) pss_nil) (pss_one (ps_ret (pe_call GR hr rfl mgr kr br .nil pass0 (pa_cons (pv 0) (pa_cons (pe_op op_add (pv 2) pe_int) pa_nil)))))), ?_⟩
    rcases hc with rfl | rfl | ⟨rfl, h1, h8⟩
    · refine ⟨_, rfl, rfl, _, rfl, ?_⟩
      rw [s_n, decide_eq_true rfl]
      exact iteT ⟨_, rfl, y, t, rfl, hy, k _ H (Same.refl H) (.inl ⟨rfl, rfl⟩)⟩
    · refine ⟨_, rfl, rfl, _, rfl, ?_⟩
      rw [s_t, show decide (V.str ("t" : Str) = V.str ("n" : Str)) = false by decide +kernel]
      refine iteF ⟨_, rfl, rfl, _, rfl, ?_⟩
      rw [decide_eq_true rfl]
      exact iteT ⟨_, rfl, k _ H (Same.refl H) (.inr (.inl ⟨rfl, y, rfl, hy, hz⟩))⟩
    · refine ⟨_, rfl, rfl, _, rfl, ?_⟩
      rw [s_r, show decide (V.str ("r" : Str) = V.str ("n" : Str)) = false by decide +kernel]
      refine iteF ⟨_, rfl, rfl, _, rfl, ?_⟩
      rw [show decide (V.str ("r" : Str) = V.str ("t" : Str)) = false by decide +kernel]
      exact iteF ⟨_, rfl, _, rfl, _, _, rfl, rfl, n - 1, y, fl + 1, t, by omega, rfl, hy, hz, by omega, fun q ws H1 s1 hq hws => k _ H1 s1 (.inr (.inr ⟨rfl, n - 1, q, ws, by omega, rfl, hq, hws⟩))⟩
theorem ok_rwT {f fD : Addr} {fd fdD : FuncData} {n : Nat} (F : Fun K "row_told" "row_told" sRowT f fd) (mt : mg "tuple" = none) (DP : Def P w K mg base "parts" 1 ["thing"] (spParts C)) (GD : FnOk P w K mg base CX0 (3 * n + 5) fD fdD ["code", "floors"] (spDdT K C (n + 1))) (mgd : mg "deed_told" = some (.ref fD)) (kd : PySem.W.keepIn K (.ref fD) = true) (bd : Binds K fdD ["code", "floors"] []) : FnOk P w K mg base CX0 (3 * (n + 1) + 3) f fd ["thing", "floors"] (spRwT K C (n + 1)) := by
  refine F.ok scRt (fun vs H Q E h => ?_) (fun cdv A outer s H vs Q E hr h => ?_)
  · obtain ⟨m', y, fl, t, _, rfl, _⟩ := h
    rfl
  · obtain ⟨m', y, fl, t, em, rfl, hy, hz, hfl, k⟩ := h
    obtain rfl : n = m' := by omega
    have hr1 : Room 1 _ := hr.mono (by omega)
    refine ⟨_, pss_one (ps_ret (pe_callTy call_tuple_of (by rfl) mt PyProof.Rows.boot_tuple (pa_cons (pe_lc (own := [("part", 2)]) (g := gName 2) (tt := tYes) rfl scRt.nd (pi_list (pe_def DP hr1 rfl (pa_cons (pv 0) pa_nil))) (blkOk_by (N := ["thing", "floors", "part"]) (sc := defScope sRowT) (by decide +kernel)) (fun _ _ _ _ _ => (pg_name (i := 2) scRt.nd rfl (Or.inl rfl))) (fun _ _ _ _ _ => pts_nil) (fun _ _ _ _ _ => (pe_call GD hr rfl mgd kd bd .nil pass0 (pa_cons (pv 2) (pa_cons (pv 1) pa_nil))))) pa_nil))), ?_⟩
    have hsl := sizeLine_eq
    have hrow := prtW_row t
    have hrl := rowT_len (prtW t)
    rw [hrow] at hrl
    refine ⟨_, rfl, y, prtW t, rfl, by rw [hrow]; exact hy, by rw [hrow]; exact hz, fun l us H1 s1 nl hl hus => ⟨l, rfl, ⟨_, SqL.of hl⟩, fun D nD => lc_list (K := K) (a := l) (xs := us) (fun i H' => Same H1 H' ∧ ∃ vs, H' D = some (.lst vs) ∧ RwsAt K C H' vs ((rowW n t).take i)) ⟨Same.new nD, [], upd_same, by rw [List.take_zero]; rfl⟩ (fun i H' _ z => SqL.of (z.1 _ _ hl)) ?_ ?_⟩⟩
    · rintro i v H2 hv ⟨s2, vs, hD2, hvs⟩
      obtain ⟨ty, e2, y2, rfl, hy2⟩ := paired_get hus hv
      have hir := (List.getElem?_eq_some_iff.mp e2).1
      have hwl : (rowW n t).length = (prtW t).length := List.length_map ..
      have hvl := RwsAt_len _ vs hvs
      rw [List.length_take] at hvl
      have htz := prt_le hz (List.mem_of_getElem? e2)
      refine ⟨rfl, lc_yes ?_⟩
      refine ⟨_, rfl, _, rfl, n, y2, fl, ty, rfl, rfl, hy2.same s2, htz, hfl, fun p H3 s3 hp => ?_⟩
      have hD3 := s3 _ _ hD2
      have kt : KT H3 (upd H3 D (.lst (vs ++ [V.ref p]))) := KT.lst hD3
      refine ⟨vs, hD3, by omega, (s2.trans s3).set nD, vs ++ [V.ref p], upd_same, ?_⟩
      rw [take_snoc (show (rowW n t)[i]? = some (deedW n ty) by rw [rowW, List.getElem?_map, e2]; rfl)]
      exact RwsAt_snoc (RwAt_kt kt _ _ hp) _ _ (RwsAt_kt kt _ _ (RwsAt_kt (KT.of s3) _ _ hvs))
    · rintro H2 ⟨s2, vs, hD2, hvs⟩
      have hul := Paired.length hus
      have hwl : (rowW n t).length = (prtW t).length := List.length_map ..
      rw [hul, ← hwl, List.take_length] at hvs
      refine ⟨D, _, rfl, .inl ⟨SqL.of hD2, fun q nq => ?_⟩⟩
      have sq := Same.new nq (o := .tup vs)
      exact k q vs _ ((s1.trans s2).trans sq) (SqT.of upd_same) (RwsAt_kt (KT.of sq) _ _ hvs)
theorem ok_rwT0 {f : Addr} {fd : FuncData} (F : Fun K "row_told" "row_told" sRowT f fd) : FnOk P w K mg base CX0 (3 * 0 + 3) f fd ["thing", "floors"] (spRwT K C 0) := by
  refine F.ok scRt (fun vs H Q E h => ?_) (fun cdv A outer s H vs Q E hr h => ?_)
  · obtain ⟨m', y, fl, t, _, rfl, _⟩ := h
    rfl
  · obtain ⟨m', y, fl, t, h, _⟩ := h
    exact absurd h (by omega)
end
end Js
set_option Elab.async false
set_option linter.all false
set_option maxRecDepth 100000
set_option maxHeartbeats 2000000
namespace Js
open PySem L2
open PySem.Spec PyProof.Rows
def fW : Nat → List Nat
  | 0 => [110, 116]
  | 1 => [110, 110]
  | 2 => [110, 110]
  | 3 => [110, 110, 110]
  | 4 => [110, 110, 110]
  | 5 => [110, 114]
  | _ => [110, 114, 114]
theorem fW_form : ∀ i, i < 7 → ∃ x fo : Str, formKs[i]? = some x ∧ (x, fo) ∈ forms ∧ fo.cps.toList = fW i
  | 0, _ => ⟨_, "nt", rfl, by simp [forms], by rw [cps_nt]; rfl⟩
  | 1, _ => ⟨_, "nn", rfl, by simp [forms], by rw [cps_nn]; rfl⟩
  | 2, _ => ⟨_, "nn", rfl, by simp [forms], by rw [cps_nn]; rfl⟩
  | 3, _ => ⟨_, "nnn", rfl, by simp [forms], by rw [cps_nnn]; rfl⟩
  | 4, _ => ⟨_, "nnn", rfl, by simp [forms], by rw [cps_nnn]; rfl⟩
  | 5, _ => ⟨_, "nr", rfl, by simp [forms], by rw [cps_nr]; rfl⟩
  | 6, _ => ⟨_, "nrr", rfl, by simp [forms], by rw [cps_nrr]; rfl⟩
  | i + 7, h => absurd h (by omega)
theorem fW_len (i : Nat) : 2 ≤ (fW i).length ∧ (fW i).length ≤ 3 := by
  match i with
  | 0 => exact ⟨by decide, by decide⟩
  | 1 => exact ⟨by decide, by decide⟩
  | 2 => exact ⟨by decide, by decide⟩
  | 3 => exact ⟨by decide, by decide⟩
  | 4 => exact ⟨by decide, by decide⟩
  | 5 => exact ⟨by decide, by decide⟩
  | i + 6 => exact ⟨by show 2 ≤ 3; decide, by show 3 ≤ 3; decide⟩
theorem deedW_nil {m : Nat} {t : Tr} (h : prtW t = []) : deedW m t = .bad := by
  cases m <;> rw [deedW, h]
theorem deedW_kind {m : Nat} {t k : Tr} {ps : List Tr} (h : prtW t = k :: ps) (hk : kindW (k :: ps) = none) : deedW m t = .bad := by
  rw [kindW] at hk
  cases hc : cntW k with
  | none => cases m <;> (rw [deedW, h]; simp only [hc])
  | some i =>
    rw [hc] at hk
    have h7 : 7 ≤ i := List.getElem?_eq_none_iff.mp hk
    obtain ⟨j, rfl⟩ : ∃ j, i = j + 7 := ⟨i - 7, by omega⟩
    cases m <;> (rw [deedW, h]; simp only [hc])
theorem deedW_len {m i : Nat} {t k : Tr} {ps : List Tr} (h : prtW t = k :: ps) (hc : cntW k = some i) (h7 : i < 7) (hl : ps.length ≠ (fW i).length) : deedW m t = .bad := by
  match i, h7, hl with
  | 0, _, hl => cases m <;> (rw [deedW, h]; simp only [hc]; split <;> first | rfl | (exfalso; simp_all [fW]))
  | 1, _, hl => cases m <;> (rw [deedW, h]; simp only [hc]; split <;> first | rfl | (exfalso; simp_all [fW]))
  | 2, _, hl => cases m <;> (rw [deedW, h]; simp only [hc]; split <;> first | rfl | (exfalso; simp_all [fW]))
  | 3, _, hl => cases m <;> (rw [deedW, h]; simp only [hc]; split <;> first | rfl | (exfalso; simp_all [fW]))
  | 4, _, hl => cases m <;> (rw [deedW, h]; simp only [hc]; split <;> first | rfl | (exfalso; simp_all [fW]))
  | 5, _, hl => cases m <;> (rw [deedW, h]; simp only [hc]; try (split <;> first | rfl | (exfalso; simp_all [fW])))
  | 6, _, hl => cases m <;> (rw [deedW, h]; simp only [hc]; try (split <;> first | rfl | (exfalso; simp_all [fW])))
  | i + 7, h, _ => exact absurd h (by omega)
theorem deedW_low {i : Nat} {t k : Tr} {ps : List Tr} (h : prtW t = k :: ps) (hc : cntW k = some i) (h7 : i < 7) (hl : 114 ∈ fW i) : deedW 0 t = .bad := by
  match i, h7, hl with
  | 0, _, hl => simp [fW] at hl
  | 1, _, hl => simp [fW] at hl
  | 2, _, hl => simp [fW] at hl
  | 3, _, hl => simp [fW] at hl
  | 4, _, hl => simp [fW] at hl
  | 5, _, hl => rw [deedW, h]; try simp only [hc]
  | 6, _, hl => rw [deedW, h]; try simp only [hc]
  | i + 7, h, _ => exact absurd h (by omega)
def PwIx (K : PySem.W.Frag) (C : Addr) (H : Hp) (m : Nat) (its : List V) (cs : List Nat) (ps : List Tr) : Prop := ∀ (j : Nat) (v : V), its[j]? = some v → ∃ (c : Nat) (u : Tr), cs[j]? = some c ∧ ps[j]? = some u ∧ PwAt K C H v c m u
theorem PwIx.kt {K : PySem.W.Frag} {C : Addr} {H H' : Hp} (k : KT H H') {m : Nat} {its : List V} {cs : List Nat} {ps : List Tr} (h : PwIx K C H m its cs ps) : PwIx K C H' m its cs ps := by
  intro j v hv
  obtain ⟨c, u, h1, h2, h3⟩ := h j v hv
  exact ⟨c, u, h1, h2, h3.kt k⟩
theorem PwIx.snoc {K : PySem.W.Frag} {C : Addr} {H : Hp} {m : Nat} {its : List V} {cs : List Nat} {ps : List Tr} (h : PwIx K C H m its cs ps) {x : V} {c : Nat} {u : Tr} (hc : cs[its.length]? = some c) (hu : ps[its.length]? = some u) (hx : PwAt K C H x c m u) : PwIx K C H m (its ++ [x]) cs ps := by
  intro j v hv
  by_cases q : j < its.length
  · rw [List.getElem?_append_left q] at hv
    exact h j v hv
  · rw [List.getElem?_append_right (by omega)] at hv
    have e : j - its.length = 0 := by
      have := (List.getElem?_eq_some_iff.mp hv).1
      rw [List.length_singleton] at this
      omega
    rw [e] at hv
    cases Option.some.inj hv
    have : j = its.length := by omega
    subst this
    exact ⟨c, u, hc, hu, hx⟩
section
variable {K : PySem.W.Frag} {C : Addr} {H : Hp}
theorem PwAt.n {v : V} {m : Nat} {u : Tr} (h : PwAt K C H v 110 m u) : v = nmV (cntW u) := by
  rcases h with ⟨_, e⟩ | ⟨e, _⟩ | ⟨e, _⟩
  · exact e
  · cases e
  · cases e
theorem PwAt.t {v : V} {m : Nat} {u : Tr} (h : PwAt K C H v 116 m u) : ∃ y, v = .ref y ∧ Th C H y u ∧ u.size ≤ 4000 := by
  rcases h with ⟨e, _⟩ | ⟨_, e⟩ | ⟨e, _⟩
  · cases e
  · exact e
  · cases e
theorem PwAt.r {v : V} {m : Nat} {u : Tr} (h : PwAt K C H v 114 m u) : ∃ m' q vs, m = m' + 1 ∧ v = .ref q ∧ SqT K H q vs ∧ RwsAt K C H vs (rowW m' u) := by
  rcases h with ⟨e, _⟩ | ⟨e, _⟩ | ⟨_, e⟩
  · cases e
  · cases e
  · exact e
theorem PwIx.at {m : Nat} {its : List V} {cs : List Nat} {ps : List Tr} (h : PwIx K C H m its cs ps) {j : Nat} {v : V} {c : Nat} {u : Tr} (hv : its[j]? = some v) (hc : cs[j]? = some c) (hu : ps[j]? = some u) : PwAt K C H v c m u := by
  obtain ⟨c', u', h1, h2, h3⟩ := h j v hv
  rw [hc] at h1
  rw [hu] at h2
  cases Option.some.inj h1
  cases Option.some.inj h2
  exact h3
theorem two_of {α : Type} : ∀ {l : List α}, l.length = 2 → ∃ a b, l = [a, b]
  | [a, b], _ => ⟨a, b, rfl⟩
theorem three_of {α : Type} : ∀ {l : List α}, l.length = 3 → ∃ a b c, l = [a, b, c]
  | [a, b, c], _ => ⟨a, b, c, rfl⟩
theorem deed_join {m i p : Nat} {t k : Tr} {ps : List Tr} {its : List V} {x : Str} (hL : prtW t = k :: ps) (hc : cntW k = some i) (h7 : i < 7) (hx : formKs[i]? = some x) (hl : ps.length = (fW i).length) (hil : its.length = (fW i).length) (hm : 114 ∈ fW i → 1 ≤ m) (hp : SqT K H p (.str x :: its)) (h : PwIx K C H m its (fW i) ps) : RwAt K C H (.ref p) (deedW m t) := by
  match i, h7 with
  | 0, _ =>
    obtain ⟨a, b, rfl⟩ := two_of hl
    obtain ⟨v, u, rfl⟩ := two_of hil
    cases Option.some.inj hx
    have h0 := (h.at (j := 0) rfl rfl rfl : PwAt K C H v 110 m a).n
    obtain ⟨y, e, h1, h2⟩ := (h.at (j := 1) rfl rfl rfl : PwAt K C H u 116 m b).t
    subst h0 e
    have e2 : deedW m t = .told (cntW a) b := by cases m <;> (rw [deedW, hL]; simp only [hc])
    rw [e2, RwAt]
    exact ⟨p, y, rfl, hp, h1, h2⟩
  | 1, _ =>
    obtain ⟨a, b, rfl⟩ := two_of hl
    obtain ⟨v, u, rfl⟩ := two_of hil
    cases Option.some.inj hx
    have h0 := (h.at (j := 0) rfl rfl rfl : PwAt K C H v 110 m a).n
    have h1 := (h.at (j := 1) rfl rfl rfl : PwAt K C H u 110 m b).n
    subst h0 h1
    have e2 : deedW m t = .take false (cntW a) (cntW b) := by cases m <;> (rw [deedW, hL]; simp only [hc])
    rw [e2, RwAt]
    exact ⟨p, rfl, hp⟩
  | 2, _ =>
    obtain ⟨a, b, rfl⟩ := two_of hl
    obtain ⟨v, u, rfl⟩ := two_of hil
    cases Option.some.inj hx
    have h0 := (h.at (j := 0) rfl rfl rfl : PwAt K C H v 110 m a).n
    have h1 := (h.at (j := 1) rfl rfl rfl : PwAt K C H u 110 m b).n
    subst h0 h1
    have e2 : deedW m t = .take true (cntW a) (cntW b) := by cases m <;> (rw [deedW, hL]; simp only [hc])
    rw [e2, RwAt]
    exact ⟨p, rfl, hp⟩
  | 3, _ =>
    obtain ⟨a, b, c, rfl⟩ := three_of hl
    obtain ⟨v, u, z, rfl⟩ := three_of hil
    cases Option.some.inj hx
    have h0 := (h.at (j := 0) rfl rfl rfl : PwAt K C H v 110 m a).n
    have h1 := (h.at (j := 1) rfl rfl rfl : PwAt K C H u 110 m b).n
    have h2 := (h.at (j := 2) rfl rfl rfl : PwAt K C H z 110 m c).n
    subst h0 h1 h2
    have e2 : deedW m t = .two false (cntW a) (cntW b) (cntW c) := by cases m <;> (rw [deedW, hL]; simp only [hc])
    rw [e2, RwAt]
    exact ⟨p, rfl, hp⟩
  | 4, _ =>
    obtain ⟨a, b, c, rfl⟩ := three_of hl
    obtain ⟨v, u, z, rfl⟩ := three_of hil
    cases Option.some.inj hx
    have h0 := (h.at (j := 0) rfl rfl rfl : PwAt K C H v 110 m a).n
    have h1 := (h.at (j := 1) rfl rfl rfl : PwAt K C H u 110 m b).n
    have h2 := (h.at (j := 2) rfl rfl rfl : PwAt K C H z 110 m c).n
    subst h0 h1 h2
    have e2 : deedW m t = .two true (cntW a) (cntW b) (cntW c) := by cases m <;> (rw [deedW, hL]; simp only [hc])
    rw [e2, RwAt]
    exact ⟨p, rfl, hp⟩
  | 5, _ =>
    obtain ⟨a, b, rfl⟩ := two_of hl
    obtain ⟨v, u, rfl⟩ := two_of hil
    cases Option.some.inj hx
    have h0 := (h.at (j := 0) rfl rfl rfl : PwAt K C H v 110 m a).n
    obtain ⟨m', q, ws, rfl, e, h1, h2⟩ := (h.at (j := 1) rfl rfl rfl : PwAt K C H u 114 m b).r
    subst h0 e
    have e2 : deedW (m' + 1) t = .wh (cntW a) (rowW m' b) := by rw [deedW, hL]; simp only [hc]; rfl
    rw [e2, RwAt]
    exact ⟨p, q, ws, rfl, hp, h1, h2⟩
  | 6, _ =>
    obtain ⟨a, b, c, rfl⟩ := three_of hl
    obtain ⟨v, u, z, rfl⟩ := three_of hil
    cases Option.some.inj hx
    have h0 := (h.at (j := 0) rfl rfl rfl : PwAt K C H v 110 m a).n
    obtain ⟨m', q, ws, rfl, e, h1, h2⟩ := (h.at (j := 1) rfl rfl rfl : PwAt K C H u 114 m b).r
    obtain ⟨m2, q2, ws2, em, e3, h3, h4⟩ := (h.at (j := 2) rfl rfl rfl : PwAt K C H z 114 (m' + 1) c).r
    obtain rfl : m' = m2 := by omega
    subst h0 e e3
    have e2 : deedW (m' + 1) t = .iff (cntW a) (rowW m' b) (rowW m' c) := by rw [deedW, hL]; simp only [hc]; rfl
    rw [e2, RwAt]
    exact ⟨p, q, ws, q2, ws2, rfl, hp, h1, h2, h3, h4⟩
  | i + 7, h => exact absurd h (by omega)
end
section
variable {P : Program} {w : World} {K : PySem.W.Frag} {mg : Str → Option Value} {base : Heap} {C CP fI fP : Addr} {fdI fdP : FuncData}
theorem ok_ddT {f fP' : Addr} {fd fdP' : FuncData} {n : Nat} (F : Fun K "deed_told" "deed_told" sDeedT f fd) (B : Blt mg) (G : FrmC K w mg) (DP : Def P w K mg base "parts" 1 ["thing"] (spParts C)) (DK : Def P w K mg base "kind_told" 2 ["told"] (spKindW C)) (GP : FnOk P w K mg base CX0 (3 * n + 4) fP' fdP' ["part", "sign", "floors"] (spPartW K C n)) (mgp : mg "part_told" = some (.ref fP')) (kp : PySem.W.keepIn K (.ref fP') = true) (bp : Binds K fdP' ["part", "sign", "floors"] []) : FnOk P w K mg base CX0 (3 * n + 5) f fd ["code", "floors"] (spDdT K C (n + 1)) := by
  obtain ⟨dF, es, nF, mF, kdd, hk⟩ := G.ex
  obtain ⟨tM, mM3⟩ := G.mF
  refine F.ok scDt (fun vs H Q E h => ?_) (fun cdv A outer s H vs Q E hr h => ?_)
  · obtain ⟨m', y, fl, t, _, rfl, _⟩ := h
    rfl
  · obtain ⟨m', y, fl, t, em, rfl, hy, hz, hfl, k⟩ := h
    obtain rfl : n = m' := by omega
    have hr1 : Room 1 _ := hr.mono (by omega)
    have hr2 : Room 2 _ := hr.mono (by omega)
    have hr0 : Room (3 * n + 4) _ := hr
    refine ⟨_, pss_cons (ps_set (i := 2) scDt.nd rfl (Or.inl rfl) (pe_def DP hr1 rfl (pa_cons (pv 0) pa_nil))) (pss_cons (ps_set (i := 3) scDt.nd rfl (Or.inl rfl) (pe_def DK hr2 rfl (pa_cons (pv 2) pa_nil))) (pss_cons (ps_if (PW.pt (pw_or (pt_cmp (pc_isN (pv 3))) (pw_or1 (pt_cmpR op_ne (pe_callB call_len_seq (by rfl) B.len PySem.boot_len (pa_cons (pv 2) pa_nil)) (pe_op op_add pe_int (pe_callB call_len_str (by rfl) B.len PySem.boot_len (pa_cons (pe_ix (r := rIxD K w) ix_kdict (pe_glob (v := .ref dF) rfl mF rfl) (pv 3) (fun _ _ => rfl)) pa_nil))) (nomark _))))) (pss_one (ps_ret (pe_tup pa_nil))) pss_nil) (pss_cons (ps_if (PW.pt (pw_and (pt_cmpR op_inS pe_str (pe_ix (r := rIxD K w) ix_kdict (pe_glob (v := .ref dF) rfl mF rfl) (pv 3) (fun _ _ => rfl)) rfl) (pw_and1 (pt_cmpR op_eq (pv 1) (pe_glob (v := .int 8) rfl mM3 ⟨_, rfl⟩) (nomark _))))) (pss_one (ps_ret (pe_tup pa_nil))) pss_nil) (pss_cons (ps_setLc (i := 4) (own := [("part", 5), ("sign", 6)]) (g := gTup K 2 (gCons (gName 5) (gCons (gName 6) gNil))) (tt := tYes) rfl scDt.nd rfl rfl (sw_true rfl rfl rfl (by decide +kernel)) (pi_zipLS rfl G.mz (pa_cons (pe_slice sl_list (pv 2) (po_some pe_int) po_none) (pa_cons (pe_ix (r := rIxD K w) ix_kdict (pe_glob (v := .ref dF) rfl mF rfl) (pv 3) (fun _ _ => rfl)) pa_nil))) (blkOk_by (N := ["code", "floors", "told", "kind", "inner", "part", "sign"]) (sc := defScope sDeedT) (by decide +kernel)) (fun _ _ _ _ _ => (by exact (pg_tup rfl (pgs_cons (pg_name (i := 5) scDt.nd rfl (Or.inl rfl)) (pgs_cons (pg_name (i := 6) scDt.nd rfl (Or.inl rfl)) pgs_nil))))) (fun _ _ _ _ _ => pts_nil) (fun _ _ _ _ _ => (pe_call GP hr0 rfl mgp kp bp .nil pass0 (pa_cons (pv 5) (pa_cons (pv 6) (pa_cons (pv 1) pa_nil)))))) (pss_one (ps_ret (pe_tup (pa_cons (pv 3) (StX.pa_star (pv 4) pa_nil))))))))), ?_⟩
    have hsl := sizeLine_eq
    have hrow := prtW_row t
    have hpz : ∀ x ∈ prtW t, x.size ≤ 4000 := fun x hx => prt_le hz hx
    have bad : ∀ {G : Hp}, Same H G → deedW n t = .bad → ∀ T, G T = none → Q (.ref T) (upd G T (.tup [])) := fun {G} s e T nT => k T _ (s.trans (Same.new nT)) (by rw [e, RwAt]; exact ⟨T, rfl, SqT.of upd_same⟩)
    refine ⟨_, rfl, y, prtW t, rfl, by rw [hrow]; exact hy, by rw [hrow]; exact hz, fun l us H1 s1 nl hl hus => ?_⟩
    refine ⟨_, rfl, l, us, _, rfl, hl, hus, fun H2 s2 => ?_⟩
    have hl2 := s2 _ _ hl
    have hus2 := ths_kt (KT.of s2) hus
    have s02 := s1.trans s2
    have hul := Paired.length hus
    generalize hL : prtW t = L at hus2 hul hpz
    cases hkw : kindW L with
    | none =>
      refine ⟨_, rfl, _, rfl, iteT (iteT ?_)⟩
      have e : deedW n t = .bad := by
        cases L with
        | nil => exact deedW_nil hL
        | cons x ps => exact deedW_kind hL hkw
      exact ⟨Nat.zero_le _, fun T nT => bad s02 e T nT⟩
    | some x =>
      obtain ⟨kk, ps, rfl⟩ : ∃ kk ps, L = kk :: ps := by
        cases L with
        | nil => rw [kindW] at hkw; cases hkw
        | cons a b => exact ⟨a, b, rfl⟩
      obtain ⟨i, hc, hx⟩ : ∃ i, cntW kk = some i ∧ formKs[i]? = some x := by
        rw [kindW] at hkw
        cases hc : cntW kk with
        | none => rw [hc] at hkw; cases hkw
        | some i => rw [hc] at hkw; exact ⟨i, rfl, hkw⟩
      have h7 : i < 7 := (List.getElem?_eq_some_iff.mp hx).1
      obtain ⟨x', fo, hx', hfo, hcps⟩ := fW_form i h7
      rw [hx] at hx'
      cases Option.some.inj hx'
      obtain ⟨tk, hkf⟩ := hk _ hfo
      have hfol : fo.length = (fW i).length := by
        have e := congrArg List.length hcps
        rw [Array.length_toList] at e
        exact e
      have hf3 := fW_len i
      rw [List.length_cons] at hul
      refine ⟨_, rfl, _, rfl, ?_⟩
      rw [show decide (strO (some x) = V.non) = false from decide_eq_false (fun e => nomatch e)]
      refine iteF ?_
      refine ⟨_, rfl, l, us, rfl, .inl (SqL.of hl2), _, rfl, dF, _, .str fo, rfl, rfl, ⟨es, nF, _, kdd.at_, kdd.lit, hkf, ⟨_, rfl⟩⟩, fo, rfl, by omega, _, _, rfl, rfl, rfl, _, rfl, ?_⟩
      by_cases hlen : ps.length = (fW i).length
      rotate_left
      · rw [show (!decide (V.int ((us.length : Nat) : Int) = V.int (1 + ((fo.length : Nat) : Int)))) = true by
          rw [decide_eq_false (fun e => hlen (by injection e with e; omega))]; rfl]
        exact iteT ⟨Nat.zero_le _, fun T nT => bad s02 (deedW_len hL hc h7 hlen) T nT⟩
      rw [show ((us.length : Nat) : Int) = 1 + ((fo.length : Nat) : Int) by omega, decide_eq_true rfl]
      refine iteF ?_
      refine ⟨_, rfl, dF, _, .str fo, rfl, rfl, ⟨es, nF, _, kdd.at_, kdd.lit, hkf, ⟨_, rfl⟩⟩, 114, fo, congrArg V.str s_r.symm, rfl, _, rfl, ?_⟩
      by_cases hlow : 114 ∈ fW i ∧ n = 0
      · obtain ⟨h114, rfl⟩ := hlow
        rw [show decide (114 ∈ fo.cps.toList) = true from decide_eq_true (by rw [hcps]; exact h114)]
        refine iteT ?_
        refine ⟨_, rfl, rfl, _, rfl, ?_⟩
        rw [decide_eq_true (show V.int ((fl : Nat) : Int) = V.int 8 by rw [show fl = 8 by omega]; rfl)]
        exact iteT ⟨Nat.zero_le _, fun T nT => bad s02 (deedW_low hL hc h7 h114) T nT⟩
      have hm1 : 114 ∈ fW i → 1 ≤ n := fun h => by
        by_cases q : n = 0
        · exact absurd ⟨h, q⟩ hlow
        · omega
      refine ite_both ?_ fun hb hc' => ?_
      rotate_left
      · have h1 := hm1 (by rw [← hcps]; exact of_decide_eq_true hb)
        refine ⟨_, rfl, rfl, _, rfl, ?_⟩
        rw [decide_eq_false (show ¬ V.int ((fl : Nat) : Int) = V.int 8 from fun e => by injection e with e; omega)]
        exact iteF hc'
      cases hus2 with
      | cons hx2 hts =>
        rename_i x0 xs0
        have htl := Paired.length hts
        refine ⟨_, rfl, _, rfl, l, _, rfl, SqL.of hl2, fun q nq => ?_⟩
        rw [cut1]
        have sq := Same.new nq (o := .lst xs0)
        have eq : (upd H2 q (.lst xs0)) q = some (.lst xs0) := upd_same
        revert sq eq
        generalize upd H2 q (.lst xs0) = H3
        intro sq eq
        have hfsz : fo.cps.size = (fW i).length := hfol
        refine ⟨_, rfl, dF, _, .str fo, rfl, rfl, ⟨es, nF, _, kdd.at_, kdd.lit, hkf, ⟨_, rfl⟩⟩, q, _, xs0, rfl, SqL.of eq, fun D nD => lc_it (n := xs0.length) (walk_zipLS (K := K) (a := q) (t := fo) (xs := xs0) (by rw [hfsz, htl, hlen, Nat.min_self])) (fun i' H' => Same H3 H' ∧ ∃ its, H' D = some (.lst its) ∧ its.length = i' ∧ PwIx K C H' n its (fW i) ps) ⟨Same.new nD, [], upd_same, rfl, fun j v e => by cases e⟩ (fun i' H' _ z => SqL.of (z.1 _ _ eq)) ?_ ?_⟩
        · rintro i' v H4 H5 hi ⟨s4, its, hD4, hil, hits⟩ ⟨T, x', c, rfl, nT, rfl, hxi, hci⟩
          have sT := Same.new nT (o := .tup [x', .str ⟨#[c]⟩])
          have eT : (upd H4 T (.tup [x', .str ⟨#[c]⟩])) T = some (.tup [x', .str ⟨#[c]⟩]) := upd_same
          revert sT eT
          generalize upd H4 T (.tup [x', .str ⟨#[c]⟩]) = H6
          intro sT eT
          have hcs : (fW i)[i']? = some c := by
            have e1 : fo.cps.toList[i']? = some c := by simpa using hci
            rw [hcps] at e1
            exact e1
          obtain ⟨ty, e2, y2, rfl, hy2⟩ := paired_get hts hxi
          have htz : ty.size ≤ 4000 := hpz ty (List.mem_cons_of_mem _ (List.mem_of_getElem? e2))
          have hcv : c = 110 ∨ c = 116 ∨ (c = 114 ∧ 1 ≤ n ∧ fl + n = 8) := by
            have hmem := List.mem_of_getElem? hcs
            have hall : c = 110 ∨ c = 116 ∨ c = 114 := by
              match i, h7, hmem with
              | 0, _, hmem => simp [fW] at hmem; omega
              | 1, _, hmem => simp [fW] at hmem; omega
              | 2, _, hmem => simp [fW] at hmem; omega
              | 3, _, hmem => simp [fW] at hmem; omega
              | 4, _, hmem => simp [fW] at hmem; omega
              | 5, _, hmem => simp [fW] at hmem; omega
              | 6, _, hmem => simp [fW] at hmem; omega
              | j + 7, h, _ => exact absurd h (by omega)
            rcases hall with e | e | e
            · exact .inl e
            · exact .inr (.inl e)
            · exact .inr (.inr ⟨e, hm1 (by rw [← e]; exact hmem), hfl⟩)
          have s26 := (sq.trans s4).trans sT
          refine ⟨T, _, rfl, SqT.of eT, rfl, _, _, rfl, _, _, rfl, rfl, rfl, lc_yes ?_⟩
          refine ⟨_, rfl, _, rfl, _, rfl, y2, c, fl, ty, rfl, hy2.same s26, htz, hcv, fun x2 H7 s7 hx7 => ?_⟩
          have hD7 := s7 _ _ (sT _ _ hD4)
          have hii := (List.getElem?_eq_some_iff.mp hcs).1
          have kt : KT H7 (upd H7 D (.lst (its ++ [x2]))) := KT.lst hD7
          subst hil
          refine ⟨its, hD7, by omega, ((s4.trans sT).trans s7).set nD, its ++ [x2], upd_same, by rw [List.length_append, List.length_singleton], ?_⟩
          exact ((hits.kt (KT.of (sT.trans s7))).kt kt).snoc hcs e2 (hx7.kt kt)
        · rintro H4 ⟨s4, its, hD4, hil, hits⟩
          refine ⟨_, rfl, _, rfl, D, _, rfl, .inr (SqL.of hD4), by rw [List.append_nil, List.length_cons]; omega, fun T2 nT2 => ?_⟩
          rw [List.append_nil]
          have s10 := Same.new nT2 (o := .tup (V.str x :: its))
          exact k T2 _ (((s02.trans sq).trans s4).trans s10) (deed_join hL hc h7 hx hlen (by omega) hm1 (SqT.of upd_same) (hits.kt (KT.of s10)))
theorem ok_toldsW {fR fD fQ : Addr} {fdR fdD fdQ : FuncData} (FR : Fun K "row_told" "row_told" sRowT fR fdR) (FD : Fun K "deed_told" "deed_told" sDeedT fD fdD) (FP : Fun K "part_told" "part_told" sPartT fQ fdQ) (B : Blt mg) (G : FrmC K w mg) (DC : Def P w K mg base "counted" 1 ["thing"] (spCountW C)) (DP : Def P w K mg base "parts" 1 ["thing"] (spParts C)) (DK : Def P w K mg base "kind_told" 2 ["told"] (spKindW C))
    (mgr : mg "row_told" = some (.ref fR)) (br : Binds K fdR ["thing", "floors"] []) (mgd : mg "deed_told" = some (.ref fD)) (bd : Binds K fdD ["code", "floors"] []) (mgp : mg "part_told" = some (.ref fQ)) (bp : Binds K fdQ ["part", "sign", "floors"] []) : ∀ n, FnOk P w K mg base CX0 (3 * n + 3) fR fdR ["thing", "floors"] (spRwT K C n)
  | 0 => ok_rwT0 FR
  | n + 1 => ok_rwT FR G.mt DP (ok_ddT FD B G DP DK (ok_partW FP DC (ok_toldsW FR FD FP B G DC DP DK mgr br mgd bd mgp bp n) mgr FR.kp br) mgp FP.kp bp) mgd FD.kp bd
end
end Js
set_option Elab.async false
set_option linter.all false
set_option maxRecDepth 100000
set_option maxHeartbeats 2000000
namespace Js
open PySem L2
open PySem.Spec PyProof.Rows
def kxW : Rw → Nat
  | .bad => 0
  | .told _ _ => 0
  | .take s _ _ => if s then 2 else 1
  | .two s _ _ _ => if s then 4 else 3
  | .wh _ _ => 5
  | .iff _ _ _ => 6
def bsW : Rw → List Bool
  | .bad => []
  | .told a _ => [(nmW a).isSome, true]
  | .take _ a b => [(nmW a).isSome, (nmW b).isSome]
  | .two _ a b c => [(nmW a).isSome, (nmW b).isSome, (nmW c).isSome]
  | .wh a _ => [(nmW a).isSome, true]
  | .iff a _ _ => [(nmW a).isSome, true, true]
def formB : Rw → Bool
  | .bad => false
  | x => (bsW x).all id
def FitsW (K : PySem.W.Frag) (C : Addr) (H : Hp) (x : V) (c : Nat) (b : Bool) : Prop := (c = 110 ∧ ∃ o, x = nmV o ∧ b = (nmW o).isSome) ∨ (c = 116 ∧ b = true ∧ ∃ a t, x = .ref a ∧ Th C H a t) ∨ (c = 114 ∧ b = true ∧ ∃ q vs, x = .ref q ∧ SqT K H q vs)
theorem FitsW.same {K : PySem.W.Frag} {C : Addr} {H H' : Hp} (s : Same H H') {x : V} {c : Nat} {b : Bool} (h : FitsW K C H x c b) : FitsW K C H' x c b := by
  rcases h with h | ⟨e, eb, a, t, e2, h⟩ | ⟨e, eb, q, vs, e2, h⟩
  · exact .inl h
  · exact .inr (.inl ⟨e, eb, a, t, e2, h.same s⟩)
  · exact .inr (.inr ⟨e, eb, q, vs, e2, sqt_kt (KT.of s) h⟩)
theorem shapeW {K : PySem.W.Frag} {C : Addr} {H : Hp} {v : V} : ∀ (x : Rw), RwAt K C H v x → x ≠ .bad → ∃ (p : Addr) (k : Str) (its : List V), v = .ref p ∧ SqT K H p (.str k :: its) ∧ kxW x < 7 ∧ formKs[kxW x]? = some k ∧ its.length = (fW (kxW x)).length ∧ (bsW x).length = its.length ∧ formB x = (bsW x).all id ∧
    ∀ (i : Nat) (y : V) (c : Nat), its[i]? = some y → (fW (kxW x))[i]? = some c → ∃ b, (bsW x)[i]? = some b ∧ FitsW K C H y c b
  | .bad, _, h => absurd rfl h
  | .told a t, h, _ => by
    rw [RwAt] at h
    obtain ⟨p, x, e, h1, h2, h3⟩ := h
    refine ⟨p, _, _, e, h1, by simp [kxW], rfl, rfl, rfl, rfl, fun i y c g1 g2 => ?_⟩
    match i, g1, g2 with
    | 0, g1, g2 => cases Option.some.inj g1; cases Option.some.inj g2; exact ⟨_, rfl, .inl ⟨rfl, a, rfl, rfl⟩⟩
    | 1, g1, g2 => cases Option.some.inj g1; cases Option.some.inj g2; exact ⟨_, rfl, .inr (.inl ⟨rfl, rfl, x, t, rfl, h2⟩)⟩
    | i + 2, g1, g2 => simp at g1
  | .take s a b, h, _ => by
    rw [RwAt] at h
    obtain ⟨p, e, h1⟩ := h
    refine ⟨p, takeS s, _, e, h1, by cases s <;> simp [kxW], by cases s <;> rfl, by cases s <;> rfl, rfl, rfl, fun i y c g1 g2 => ?_⟩
    have g2 : ([110, 110] : List Nat)[i]? = some c := by cases s <;> exact g2
    match i, g1, g2 with
    | 0, g1, g2 => cases Option.some.inj g1; cases Option.some.inj g2; exact ⟨_, rfl, .inl ⟨rfl, a, rfl, rfl⟩⟩
    | 1, g1, g2 => cases Option.some.inj g1; cases Option.some.inj g2; exact ⟨_, rfl, .inl ⟨rfl, b, rfl, rfl⟩⟩
    | i + 2, g1, g2 => simp at g1
  | .two s a b d, h, _ => by
    rw [RwAt] at h
    obtain ⟨p, e, h1⟩ := h
    refine ⟨p, twoS s, _, e, h1, by cases s <;> simp [kxW], by cases s <;> rfl, by cases s <;> rfl, rfl, rfl, fun i y c g1 g2 => ?_⟩
    have g2 : ([110, 110, 110] : List Nat)[i]? = some c := by cases s <;> exact g2
    match i, g1, g2 with
    | 0, g1, g2 => cases Option.some.inj g1; cases Option.some.inj g2; exact ⟨_, rfl, .inl ⟨rfl, a, rfl, rfl⟩⟩
    | 1, g1, g2 => cases Option.some.inj g1; cases Option.some.inj g2; exact ⟨_, rfl, .inl ⟨rfl, b, rfl, rfl⟩⟩
    | 2, g1, g2 => cases Option.some.inj g1; cases Option.some.inj g2; exact ⟨_, rfl, .inl ⟨rfl, d, rfl, rfl⟩⟩
    | i + 3, g1, g2 => simp at g1
  | .wh a r, h, _ => by
    rw [RwAt] at h
    obtain ⟨p, q, ws, e, h1, h2, h3⟩ := h
    refine ⟨p, _, _, e, h1, by simp [kxW], rfl, rfl, rfl, rfl, fun i y c g1 g2 => ?_⟩
    match i, g1, g2 with
    | 0, g1, g2 => cases Option.some.inj g1; cases Option.some.inj g2; exact ⟨_, rfl, .inl ⟨rfl, a, rfl, rfl⟩⟩
    | 1, g1, g2 => cases Option.some.inj g1; cases Option.some.inj g2; exact ⟨_, rfl, .inr (.inr ⟨rfl, rfl, q, ws, rfl, h2⟩)⟩
    | i + 2, g1, g2 => simp at g1
  | .iff a r o, h, _ => by
    rw [RwAt] at h
    obtain ⟨p, q, ws, q2, ws2, e, h1, h2, h3, h4, h5⟩ := h
    refine ⟨p, _, _, e, h1, by simp [kxW], rfl, rfl, rfl, rfl, fun i y c g1 g2 => ?_⟩
    match i, g1, g2 with
    | 0, g1, g2 => cases Option.some.inj g1; cases Option.some.inj g2; exact ⟨_, rfl, .inl ⟨rfl, a, rfl, rfl⟩⟩
    | 1, g1, g2 => cases Option.some.inj g1; cases Option.some.inj g2; exact ⟨_, rfl, .inr (.inr ⟨rfl, rfl, q, ws, rfl, h2⟩)⟩
    | 2, g1, g2 => cases Option.some.inj g1; cases Option.some.inj g2; exact ⟨_, rfl, .inr (.inr ⟨rfl, rfl, q2, ws2, rfl, h4⟩)⟩
    | i + 3, g1, g2 => simp at g1
def spIsNameW : Sp := fun vs H Q _ => ∃ o, vs = [nmV o] ∧ Q (.bl (nmW o).isSome) H
def spFitsW (K : PySem.W.Frag) (C : Addr) : Sp := fun vs H Q _ => ∃ x c b, vs = [x, .str ⟨#[c]⟩] ∧ FitsW K C H x c b ∧ Q (.bl b) H
def spHasFormW (K : PySem.W.Frag) (C : Addr) : Sp := fun vs H Q _ => ∃ v x, vs = [v] ∧ RwAt K C H v x ∧ ∀ H', Same H H' → Q (.bl (formB x)) H'
section
variable {P : Program} {w : World} {K : PySem.W.Frag} {mg : Str → Option Value} {base : Heap} {C : Addr}
theorem ok_isNameW {f : Addr} {fd : FuncData} (F : Fun K "is_name" "is_name" sIsName f fd) (B : Blt mg) (T : Txt K mg C) (G : FrmC K w mg) (hni : PySem.W.kitOne K (.type "NoneType") (.type "int") = some false) : FnOk P w K mg base CX0 1 f fd ["part"] spIsNameW := by
  obtain ⟨tm, mM⟩ := G.mM
  refine F.ok scIN (fun vs H Q E h => ?_) (fun cdv A outer s H vs Q E hr h => ?_)
  · obtain ⟨o, rfl, _⟩ := h
    rfl
  · obtain ⟨o, rfl, k⟩ := h
    refine ⟨_, pss_one (ps_ret (pe_and (pe_callB (r := rIsi K) call_isi (by rfl) T.isi PyProof.Rows.boot_isinstance (pa_cons (pv 0) (pa_cons (pe_bltn (v := .ty "int") rfl B.int PyProof.Rows.boot_int rfl) pa_nil))) (pe_and (pe_not (pe_callB (r := rIsi K) call_isi (by rfl) T.isi PyProof.Rows.boot_isinstance (pa_cons (pv 0) (pa_cons (pe_bltn (v := .ty "bool") rfl G.mb PyProof.Rows.boot_bool rfl) pa_nil)))) (pe_one (pe_chain op_le op_lt pe_int (pv 0) (pe_glob (v := .int 10) rfl mM ⟨_, rfl⟩)))))), ?_⟩
    cases o with
    | none =>
      refine ⟨_, rfl, _, _, _, _, false, rfl, .ty "int", .base .non, hni, _, rfl, iteF ?_⟩
      exact k
    | some a =>
      refine ⟨_, rfl, _, _, _, _, true, rfl, .ty "int", .base (.int _), G.ii, _, rfl, iteT ?_⟩
      refine ⟨_, rfl, _, _, _, _, false, rfl, .ty "bool", .base (.int _), G.ib, _, rfl, _, rfl, iteT ?_⟩
      refine ⟨_, rfl, _, _, rfl, rfl, _, rfl, ?_⟩
      rw [decide_eq_true (show (0 : Int) ≤ ((a : Nat) : Int) by omega)]
      refine iteT ?_
      refine ⟨_, _, rfl, rfl, ?_⟩
      show Q (.bl (decide (((a : Nat) : Int) < 10))) H
      by_cases h : a < 10
      · rw [decide_eq_true (show ((a : Nat) : Int) < 10 by omega)]
        rw [nmW, if_pos h] at k
        exact k
      · rw [decide_eq_false (show ¬ ((a : Nat) : Int) < 10 by omega)]
        rw [nmW, if_neg h] at k
        exact k
theorem ok_fitsW {f : Addr} {fd : FuncData} (F : Fun K "fits" "fits" sFits f fd) (B : Blt mg) (T : Txt K mg C) (G : FrmC K w mg) (DI : Def P w K mg base "is_name" 1 ["part"] spIsNameW) : FnOk P w K mg base CX0 2 f fd ["part", "sign"] (spFitsW K C) := by
  refine F.ok scFt (fun vs H Q E h => ?_) (fun cdv A outer s H vs Q E hr h => ?_)
  · obtain ⟨x, c, b, rfl, _⟩ := h
    rfl
  · obtain ⟨x, c, b, rfl, hf, k⟩ := h
    refine ⟨_, pss_cons (ps_if (pt_cmpR op_eq (pv 1) pe_str (nomark _)) (pss_one (ps_ret (pe_def DI hr rfl (pa_cons (pv 0) pa_nil)))) pss_nil) (pss_cons (ps_if (pt_cmpR op_eq (pv 1) pe_str (nomark _)) (pss_one (ps_ret (pe_callB (r := rIsi K) call_isi (by rfl) T.isi PyProof.Rows.boot_isinstance (pa_cons (pv 0) (pa_cons (pe_glob (v := .ref C) rfl T.mgC rfl) pa_nil))))) pss_nil) (pss_one (ps_ret (pe_callB (r := rIsi K) call_isi (by rfl) T.isi PyProof.Rows.boot_isinstance (pa_cons (pv 0) (pa_cons (pe_bltn (v := .ty "tuple") rfl G.mt PyProof.Rows.boot_tuple rfl) pa_nil)))))), ?_⟩
    refine ⟨_, rfl, rfl, _, rfl, ?_⟩
    rw [c_n, sg_eq]
    rcases hf with ⟨rfl, o, rfl, rfl⟩ | ⟨rfl, rfl, a, t, rfl, ha⟩ | ⟨rfl, rfl, q, vs, rfl, hq⟩
    · rw [decide_eq_true rfl]
      refine iteT ?_
      exact ⟨_, rfl, o, rfl, k⟩
    · rw [decide_eq_false (by decide)]
      refine iteF ?_
      refine ⟨_, rfl, rfl, _, rfl, ?_⟩
      rw [c_t, sg_eq, decide_eq_true rfl]
      refine iteT ?_
      obtain ⟨dx, f1, g1, h1⟩ := ha.obj
      exact ⟨_, rfl, _, _, _, _, true, rfl, ClsV.own C, .base (.ins h1 T.cl T.ca T.cn T.ct T.cm), kit_self _ _, k⟩
    · rw [decide_eq_false (by decide)]
      refine iteF ?_
      refine ⟨_, rfl, rfl, _, rfl, ?_⟩
      rw [c_t, sg_eq, decide_eq_false (by decide)]
      refine iteF ?_
      exact ⟨_, rfl, _, _, _, _, true, rfl, .ty "tuple", sqt_ty hq, G.tt, k⟩
theorem ok_hasFormW {f : Addr} {fd : FuncData} (F : Fun K "has_form" "has_form" sHasForm f fd) (B : Blt mg) (T : Txt K mg C) (G : FrmC K w mg) (DF : Def P w K mg base "fits" 2 ["part", "sign"] (spFitsW K C)) : FnOk P w K mg base CX0 3 f fd ["deed"] (spHasFormW K C) := by
  obtain ⟨dF, es, n, mF, kd, hk⟩ := G.ex
  refine F.ok scHF (fun vs H Q E h => ?_) (fun cdv A outer s H vs Q E hr h => ?_)
  · obtain ⟨v, x, rfl, _⟩ := h
    rfl
  · obtain ⟨v, x, rfl, hd, k⟩ := h
    refine ⟨_, pss_cons (ps_if (PW.pt (pw_or (pt_not (pt_val (pe_callB (r := rIsi K) call_isi (by rfl) T.isi PyProof.Rows.boot_isinstance (pa_cons (pv 0) (pa_cons (pe_bltn (v := .ty "tuple") rfl G.mt PyProof.Rows.boot_tuple rfl) pa_nil))))) (pw_or1 (pt_cmpR op_eq (pe_callB call_len_seq (by rfl) B.len PySem.boot_len (pa_cons (pv 0) pa_nil)) pe_int (nomark _))))) (pss_one (ps_ret pe_bl)) pss_nil) (pss_cons (ps_set (i := 1) scHF.nd rfl (Or.inl rfl) (pe_ix (r := rIxT K) ix_tup (pv 0) pe_int (fun _ _ => rfl))) (pss_cons (ps_if (PW.pt (pw_or (pt_not (pt_val (pe_callB (r := rIsi K) call_isi (by rfl) T.isi PyProof.Rows.boot_isinstance (pa_cons (pv 1) (pa_cons (pe_bltn (v := .ty "str") rfl B.str PyProof.Rows.boot_str rfl) pa_nil))))) (pw_or1 (pt_cmpR (op_notIn_kd kd) (pv 1) (pe_glob (v := .ref dF) rfl mF rfl) rfl)))) (pss_one (ps_ret pe_bl)) pss_nil) (pss_cons (ps_set (i := 2) scHF.nd rfl (Or.inl rfl) (pe_ix (r := rIxD K w) ix_kdict (pe_glob (v := .ref dF) rfl mF rfl) (pv 1) (fun _ _ => rfl))) (pss_one (ps_ret (pe_and (pe_cmpR op_eq (pe_callB call_len_seq (by rfl) B.len PySem.boot_len (pa_cons (pv 0) pa_nil)) (pe_op op_add pe_int (pe_callB call_len_str (by rfl) B.len PySem.boot_len (pa_cons (pv 2) pa_nil))) (nomark _)) (pe_one (pe_callB (cr_all rfl) (by rfl) B.all (by decide +kernel) (pa_cons (pe_lc (own := [("part", 3), ("sign", 4)]) (g := gTup K 2 (gCons (gName 3) (gCons (gName 4) gNil))) (tt := tYes) rfl scHF.nd (pi_zipTS rfl G.mz (pa_cons (pe_slice sl_tup (pv 0) (po_some pe_int) po_none) (pa_cons (pv 2) pa_nil))) (blkOk_by (N := ["deed", "kind", "form", "part", "sign"]) (sc := defScope sHasForm) (by decide +kernel)) (fun _ _ _ _ _ => by exact (pg_tup rfl (pgs_cons (pg_name (i := 3) scHF.nd rfl (Or.inl rfl)) (pgs_cons (pg_name (i := 4) scHF.nd rfl (Or.inl rfl)) pgs_nil)))) (fun _ _ _ _ _ => pts_nil) (fun _ _ _ _ _ => (pe_def DF hr rfl (pa_cons (pv 3) (pa_cons (pv 4) pa_nil))))) pa_nil))))))))), ?_⟩
    have hsl := line4
    by_cases hbad : x = .bad
    · subst hbad
      rw [RwAt] at hd
      obtain ⟨p, rfl, hp⟩ := hd
      refine ⟨_, rfl, _, _, _, _, true, rfl, .ty "tuple", sqt_ty hp, G.tt, _, rfl, iteF ?_⟩
      refine ⟨_, rfl, p, _, rfl, .inr hp, rfl, _, rfl, ?_⟩
      exact iteT (k H (Same.refl H))
    obtain ⟨p, kk, its, rfl, hp, h7, hkk, hl, hbl, hfb, hall⟩ := shapeW x hd hbad
    obtain ⟨kk', fo, hk', hfo, hcps⟩ := fW_form _ h7
    rw [hkk] at hk'
    cases Option.some.inj hk'
    obtain ⟨tk, hk⟩ := hk _ hfo
    have hf3 := fW_len (kxW x)
    have hfsz : fo.cps.size = (fW (kxW x)).length := by
      have e := congrArg List.length hcps
      rw [Array.length_toList] at e
      exact e
    refine ⟨_, rfl, _, _, _, _, true, rfl, .ty "tuple", sqt_ty hp, G.tt, _, rfl, iteF ?_⟩
    refine ⟨_, rfl, p, _, rfl, .inr hp, rfl, _, rfl, ?_⟩
    have e0 : decide (V.int ((((V.str kk) :: its).length : Nat) : Int) = V.int 0) = false := by
      rw [List.length_cons]
      simp only [decide_eq_false_iff_not, V.int.injEq]
      omega
    rw [e0]
    refine iteF ?_
    refine ⟨_, rfl, p, _, 0, _, rfl, rfl, hp, at0 _ _, ?_⟩
    refine ⟨_, rfl, _, _, _, _, true, rfl, .ty "str", .base (.str _), G.ss, _, rfl, iteF ?_⟩
    refine ⟨_, rfl, _, _, rfl, rfl, hk, _, rfl, iteF ?_⟩
    refine ⟨_, rfl, dF, _, .str fo, rfl, rfl, ⟨es, n, _, kd.at_, kd.lit, hk, ⟨_, rfl⟩⟩, ?_⟩
    refine ⟨_, rfl, p, _, rfl, .inr hp, ?_⟩
    have fl : fo.length = its.length := hfsz.trans hl.symm
    refine ⟨_, rfl, fo, rfl, by omega, _, _, rfl, rfl, rfl, _, rfl, ?_⟩
    have e1 : decide (V.int ((((V.str kk) :: its).length : Nat) : Int) = V.int (1 + ((fo.length : Nat) : Int))) = true := by
      rw [List.length_cons, fl]
      simp only [decide_eq_true_eq, V.int.injEq]
      omega
    rw [e1]
    refine iteT ?_
    refine ⟨_, rfl, _, rfl, p, _, rfl, hp, ?_, fun q nq => ?_⟩
    · rintro ⟨h0, _⟩
      have e : HT.sIx (its.length + 1) 0 (some 1) = 1 := by
        show min 1 (its.length + 1) = 1
        omega
      rw [List.length_cons, e] at h0
      cases h0
    rw [cut1]
    have sq := Same.new nq (o := .tup its)
    refine ⟨_, rfl, q, _, its, rfl, SqT.of upd_same, fun D nD => lc_it (n := its.length) (walk_zipTS (K := K) (a := q) (t := fo) (xs := its) (by rw [hfsz, ← hl, Nat.min_self])) (fun i H' => Same (upd H q (.tup its)) H' ∧ SqT K H' q its ∧ H' D = some (.lst (((bsW x).take i).map .bl))) ⟨Same.new nD, SqT.of (Same.new nD _ _ upd_same), by rw [upd_same, List.take_zero]; rfl⟩ (fun i H' _ z => z.2.1) ?_ ?_⟩
    · rintro i y H1 H2 hi ⟨s1, hq1, hD1⟩ ⟨T, z, c, rfl, nT, rfl, hz, hc⟩
      have sT := Same.new nT (o := .tup [z, .str ⟨#[c]⟩])
      have hcs : (fW (kxW x))[i]? = some c := by
        have e1 : fo.cps.toList[i]? = some c := by simpa using hc
        rw [hcps] at e1
        exact e1
      obtain ⟨b, hb, hfit⟩ := hall i z c hz hcs
      have hib := (List.getElem?_eq_some_iff.mp hb).1
      refine ⟨T, _, rfl, SqT.of upd_same, rfl, _, _, rfl, _, _, rfl, rfl, rfl, lc_yes ?_⟩
      refine ⟨_, rfl, _, rfl, z, c, b, rfl, hfit.same ((sq.trans s1).trans sT), ?_⟩
      refine ⟨_, sT _ _ hD1, by rw [List.length_map, List.length_take]; omega, (s1.trans sT).set nD, ?_, ?_⟩
      · have nDq : q ≠ D := fun z => by
          rw [← z, upd_same] at nD
          cases nD
        exact sqt_kt (KT.lst (sT _ _ hD1)) (sqt_kt (KT.of sT) hq1)
      · rw [upd_same, take_snoc hb, List.map_append]
        rfl
    · rintro H1 ⟨s1, hq1, hD1⟩
      rw [show (bsW x).take its.length = bsW x by rw [← hbl, List.take_length]] at hD1
      refine ⟨D, bsW x, rfl, SqL.of hD1, ?_⟩
      rw [hfb] at k
      exact k H1 (sq.trans s1)
end
end Js
set_option Elab.async false
set_option linter.all false
set_option maxRecDepth 100000
set_option maxHeartbeats 2000000
namespace Js
open PySem L2
open PySem.Spec PyProof.Rows
def Rw.rows : Rw → List (List Rw)
  | .wh _ r => [r]
  | .iff _ r o => [r, o]
  | _ => []
def RowsW (K : PySem.W.Frag) (C : Addr) (H : Hp) (ws : List V) (rs : List (List Rw)) : Prop := Paired (fun v r => ∃ q us, v = .ref q ∧ SqT K H q us ∧ RwsAt K C H us r) ws rs
theorem RowsW.kt {K : PySem.W.Frag} {C : Addr} {H H' : Hp} (k : KT H H') : ∀ {ws : List V} {rs : List (List Rw)}, RowsW K C H ws rs → RowsW K C H' ws rs
  | _, _, .nil => .nil
  | _, _, .cons ⟨q, us, e, h1, h2⟩ t => .cons ⟨q, us, e, sqt_kt k h1, RwsAt_kt k _ _ h2⟩ (RowsW.kt k t)
theorem rows_lookW {K : PySem.W.Frag} {C : Addr} {H : Hp} {v : V} : ∀ (x : Rw), RwAt K C H v x → x ≠ .bad → ∃ (p : Addr) (k : Str) (y : V) (its : List V), v = .ref p ∧ SqT K H p (.str k :: y :: its) ∧ kxW x < 7 ∧ formKs[kxW x]? = some k ∧ ((114 ∈ fW (kxW x) ∧ RowsW K C H its x.rows) ∨ (¬ 114 ∈ fW (kxW x) ∧ x.rows = []))
  | .bad, _, h => absurd rfl h
  | .told a t, h, _ => by
    rw [RwAt] at h
    obtain ⟨p, x, e, h1, _⟩ := h
    exact ⟨p, _, _, _, e, h1, by simp [kxW], rfl, .inr ⟨by simp [kxW, fW], rfl⟩⟩
  | .take s a b, h, _ => by
    rw [RwAt] at h
    obtain ⟨p, e, h1⟩ := h
    exact ⟨p, takeS s, _, _, e, h1, by cases s <;> simp [kxW], by cases s <;> rfl, .inr ⟨by cases s <;> simp [kxW, fW], rfl⟩⟩
  | .two s a b c, h, _ => by
    rw [RwAt] at h
    obtain ⟨p, e, h1⟩ := h
    exact ⟨p, twoS s, _, _, e, h1, by cases s <;> simp [kxW], by cases s <;> rfl, .inr ⟨by cases s <;> simp [kxW, fW], rfl⟩⟩
  | .wh a r, h, _ => by
    rw [RwAt] at h
    obtain ⟨p, q, vs, e, h1, h2, h3⟩ := h
    exact ⟨p, _, _, _, e, h1, by simp [kxW], rfl, .inl ⟨by simp [kxW, fW], .cons ⟨q, vs, rfl, h2, h3⟩ .nil⟩⟩
  | .iff a r o, h, _ => by
    rw [RwAt] at h
    obtain ⟨p, q, vs, q2, vs2, e, h1, h2, h3, h4, h5⟩ := h
    exact ⟨p, _, _, _, e, h1, by simp [kxW], rfl, .inl ⟨by simp [kxW, fW], .cons ⟨q, vs, rfl, h2, h3⟩ (.cons ⟨q2, vs2, rfl, h4, h5⟩ .nil)⟩⟩
def spRowsInW (K : PySem.W.Frag) (C : Addr) : Sp := fun vs H Q _ => ∃ v x, vs = [v] ∧ RwAt K C H v x ∧ x ≠ .bad ∧ ∀ p ws H', Same H H' → SqT K H' p ws → RowsW K C H' ws x.rows → Q (.ref p) H'
section
variable {P : Program} {w : World} {K : PySem.W.Frag} {mg : Str → Option Value} {base : Heap} {C : Addr}
theorem ok_rowsInW {f : Addr} {fd : FuncData} (F : Fun K "rows_in" "rows_in" sRowsIn f fd) (G : FrmC K w mg) : FnOk P w K mg base CX0 1 f fd ["deed"] (spRowsInW K C) := by
  obtain ⟨dF, es, n, mF, kd, hk⟩ := G.ex
  refine F.ok scRI (fun vs H Q E h => ?_) (fun cdv A outer s H vs Q E hr h => ?_)
  · obtain ⟨v, x, rfl, _⟩ := h
    rfl
  · obtain ⟨v, x, rfl, hd, hb, k⟩ := h
    refine ⟨_, pss_one (ps_ret (pe_ifExp (pt_cmpR op_in_sign pe_str (pe_ix (r := rIxD K w) ix_kdict (pe_glob (v := .ref dF) rfl mF rfl) (pe_ix (r := rIxT K) ix_tup (pv 0) pe_int (fun _ _ => rfl)) (fun _ _ => rfl)) rfl) (pe_slice sl_tup (pv 0) (po_some pe_int) po_none) (pe_tup pa_nil))), ?_⟩
    obtain ⟨p, kk, y, its, rfl, hp, h7, hkk, hrs⟩ := rows_lookW x hd hb
    obtain ⟨kk', fo, hk', hfo, hcps⟩ := fW_form _ h7
    rw [hkk] at hk'
    cases Option.some.inj hk'
    obtain ⟨tk, hk⟩ := hk _ hfo
    have hsl := line4
    refine ⟨_, rfl, p, _, 0, _, rfl, rfl, hp, at0 _ _, dF, _, .str fo, rfl, rfl, ⟨es, n, _, kd.at_, kd.lit, hk, ⟨_, rfl⟩⟩, 114, fo, congrArg V.str c_r, rfl, _, rfl, ?_⟩
    rcases hrs with ⟨e, hrs⟩ | ⟨e, hrs⟩
    · rw [decide_eq_true (show 114 ∈ fo.cps.toList by rw [hcps]; exact e)]
      refine iteT ?_
      refine ⟨_, rfl, _, rfl, p, _, rfl, hp, ?_, fun q nq => ?_⟩
      · rintro ⟨h0, _⟩
        have e : HT.sIx (its.length + 1 + 1) 0 (some 2) = 2 := by
          show min 2 (its.length + 1 + 1) = 2
          omega
        rw [List.length_cons, List.length_cons, e] at h0
        cases h0
      rw [cut2]
      exact k q its _ (Same.new nq) (SqT.of upd_same) (hrs.kt (KT.of (Same.new nq)))
    · rw [decide_eq_false (show ¬ 114 ∈ fo.cps.toList by rw [hcps]; exact e)]
      refine iteF ?_
      refine ⟨Nat.zero_le _, fun q nq => ?_⟩
      exact k q [] _ (Same.new nq) (SqT.of upd_same) (by rw [hrs]; exact .nil)
end
end Js
set_option Elab.async false
set_option linter.all false
set_option maxRecDepth 100000
set_option maxHeartbeats 2000000
namespace Js
open PySem L2
open PySem.Spec PyProof.Rows
mutual
def Rw.dp : Rw → Nat
  | .wh _ r => dpW r + 1
  | .iff _ r o => max (dpW r) (dpW o) + 1
  | _ => 0
def dpW : List Rw → Nat
  | [] => 0
  | x :: l => max x.dp (dpW l)
end
theorem dpW_mem : ∀ {l : List Rw} {x : Rw}, x ∈ l → x.dp ≤ dpW l
  | y :: l, x, h => by
    rw [dpW]
    rcases List.mem_cons.mp h with e | h
    · rw [e]; omega
    · have := dpW_mem h
      omega
theorem rows_dp {x : Rw} {r : List Rw} (h : r ∈ x.rows) : dpW r < x.dp := by
  cases x with
  | wh a q =>
    rw [Rw.rows] at h
    rw [List.mem_singleton.mp h, Rw.dp]
    omega
  | iff a q o =>
    rw [Rw.rows] at h
    rw [Rw.dp]
    simp only [List.mem_cons, List.not_mem_nil, or_false] at h
    rcases h with rfl | rfl <;> omega
  | _ => simp [Rw.rows] at h
theorem rowD_pair : ∀ {l : List Rw} {r : List Dd}, rowD l = some r → Paired (fun x d => Rw.dd x = some d) l r
  | [], r, h => by cases Option.some.inj h; exact .nil
  | x :: l, r, h => by
    obtain ⟨d, q, h1, h2, rfl⟩ := rowD_cons h
    exact .cons h1 (rowD_pair h2)
theorem pair_rowD : ∀ {l : List Rw} {r : List Dd}, Paired (fun x d => Rw.dd x = some d) l r → rowD l = some r
  | _, _, .nil => by rw [rowD]
  | _, _, .cons h t => by rw [rowD, h, pair_rowD t]
theorem pair_take {α β : Type} {R : α → β → Prop} : ∀ {l : List α} {r : List β} (i : Nat), Paired R l r → Paired R (l.take i) (r.take i)
  | _, _, _, .nil => by rw [List.take_nil, List.take_nil]; exact .nil
  | _, _, 0, .cons _ _ => by rw [List.take_zero, List.take_zero]; exact .nil
  | _, _, i + 1, .cons h t => by rw [List.take_succ_cons, List.take_succ_cons]; exact .cons h (pair_take i t)
theorem rowD_take {l : List Rw} {r : List Dd} (h : rowD l = some r) (i : Nat) : rowD (l.take i) = some (r.take i) := pair_rowD (pair_take i (rowD_pair h))
theorem rowD_at {l : List Rw} {r : List Dd} (h : rowD l = some r) {i : Nat} {x : Rw} (hx : l[i]? = some x) : ∃ d, r[i]? = some d ∧ x.dd = some d := paired_get (rowD_pair h) hx
theorem rowD_snoc {l : List Rw} {r : List Dd} {x : Rw} {d : Dd} (h : rowD l = some r) (hx : x.dd = some d) : rowD (l ++ [x]) = some (r ++ [d]) := pair_rowD (paired_app (rowD_pair h) (.cons hx .nil))
theorem formB_of {x : Rw} {d : Dd} (h : x.dd = some d) : formB x = true := by
  cases x with
  | bad => rw [Rw.dd] at h; cases h
  | told a t =>
    rw [Rw.dd] at h
    cases e : nmW a with
    | none => rw [e] at h; cases h
    | some n => simp [formB, bsW, e]
  | take s a b =>
    rw [Rw.dd] at h
    cases e : nmW a with
    | none => rw [e] at h; cases h
    | some n =>
      cases e2 : nmW b with
      | none => rw [e, e2] at h; cases h
      | some m => simp [formB, bsW, e, e2]
  | two s a b c =>
    rw [Rw.dd] at h
    cases e : nmW a with
    | none => rw [e] at h; cases h
    | some n =>
      cases e2 : nmW b with
      | none => rw [e, e2] at h; cases h
      | some m =>
        cases e3 : nmW c with
        | none => rw [e, e2, e3] at h; cases h
        | some k => simp [formB, bsW, e, e2, e3]
  | wh a r =>
    rw [Rw.dd] at h
    cases e : nmW a with
    | none => rw [e] at h; cases h
    | some n => simp [formB, bsW, e]
  | iff a r o =>
    rw [Rw.dd] at h
    cases e : nmW a with
    | none => rw [e] at h; cases h
    | some n => simp [formB, bsW, e]
theorem dd_rows {x : Rw} {d : Dd} (h : x.dd = some d) : Paired (fun l r => rowD l = some r) x.rows d.rows := by
  cases x with
  | bad => rw [Rw.dd] at h; cases h
  | told a t =>
    rw [Rw.dd] at h
    cases e : nmW a with
    | none => rw [e] at h; cases h
    | some n => rw [e] at h; cases Option.some.inj h; exact .nil
  | take s a b =>
    rw [Rw.dd] at h
    cases e : nmW a with
    | none => rw [e] at h; cases h
    | some n =>
      cases e2 : nmW b with
      | none => rw [e, e2] at h; cases h
      | some m => rw [e, e2] at h; cases Option.some.inj h; exact .nil
  | two s a b c =>
    rw [Rw.dd] at h
    cases e : nmW a with
    | none => rw [e] at h; cases h
    | some n =>
      cases e2 : nmW b with
      | none => rw [e, e2] at h; cases h
      | some m =>
        cases e3 : nmW c with
        | none => rw [e, e2, e3] at h; cases h
        | some k => rw [e, e2, e3] at h; cases Option.some.inj h; exact .nil
  | wh a r =>
    rw [Rw.dd] at h
    cases e : nmW a with
    | none => rw [e] at h; cases h
    | some n =>
      cases e2 : rowD r with
      | none => rw [e, e2] at h; cases h
      | some q => rw [e, e2] at h; cases Option.some.inj h; exact .cons e2 .nil
  | iff a r o =>
    rw [Rw.dd] at h
    cases e : nmW a with
    | none => rw [e] at h; cases h
    | some n =>
      cases e2 : rowD r with
      | none => rw [e, e2] at h; cases h
      | some q =>
        cases e3 : rowD o with
        | none => rw [e, e2, e3] at h; cases h
        | some p => rw [e, e2, e3] at h; cases Option.some.inj h; exact .cons e2 (.cons e3 .nil)
theorem paired_1 {α β : Type} {R : α → β → Prop} {a : α} {l : List β} (h : Paired R [a] l) : ∃ b, l = [b] ∧ R a b := by
  cases h with
  | cons h t => cases t; exact ⟨_, rfl, h⟩
theorem paired_2 {α β : Type} {R : α → β → Prop} {a c : α} {l : List β} (h : Paired R [a, c] l) : ∃ b d, l = [b, d] ∧ R a b ∧ R c d := by
  cases h with
  | cons h t =>
    obtain ⟨d, rfl, h2⟩ := paired_1 t
    exact ⟨_, d, rfl, h, h2⟩
theorem dd_of {x : Rw} {rs : List (List Dd)} (hf : formB x = true) (h : Paired (fun l r => rowD l = some r) x.rows rs) : ∃ d, x.dd = some d ∧ d.rows = rs := by
  cases x with
  | bad => cases hf
  | told a t =>
    cases h
    cases e : nmW a with
    | none => simp [formB, bsW, e] at hf
    | some n => exact ⟨.told n t, by rw [Rw.dd, e], rfl⟩
  | take s a b =>
    cases h
    cases e : nmW a with
    | none => simp [formB, bsW, e] at hf
    | some n =>
      cases e2 : nmW b with
      | none => simp [formB, bsW, e2] at hf
      | some m => exact ⟨.take s n m, by rw [Rw.dd, e, e2], rfl⟩
  | two s a b c =>
    cases h
    cases e : nmW a with
    | none => simp [formB, bsW, e] at hf
    | some n =>
      cases e2 : nmW b with
      | none => simp [formB, bsW, e2] at hf
      | some m =>
        cases e3 : nmW c with
        | none => simp [formB, bsW, e3] at hf
        | some k => exact ⟨.two s n m k, by rw [Rw.dd, e, e2, e3], rfl⟩
  | wh a r =>
    obtain ⟨q, rfl, h1⟩ := paired_1 h
    cases e : nmW a with
    | none => simp [formB, bsW, e] at hf
    | some n => exact ⟨.wh n q, by rw [Rw.dd, e, h1], rfl⟩
  | iff a r o =>
    obtain ⟨q, p, rfl, h1, h2⟩ := paired_2 h
    cases e : nmW a with
    | none => simp [formB, bsW, e] at hf
    | some n => exact ⟨.iff n q p, by rw [Rw.dd, e, h1, h2], rfl⟩
def okRow (rws : List Rw) (f l : Nat) (r : List Dd) : Prop := rowD rws = some r ∧ f + deepR r ≤ 8 ∧ l + manyR r ≤ 4000
end Js
set_option Elab.async false
set_option linter.all false
set_option maxRecDepth 100000
set_option maxHeartbeats 4000000
namespace Js
open PySem L2 PySem.Spec PyProof.Rows
section
variable {X : Cx} {o e : Expr} {es : List Expr} {to te : TE} {ta : TA} {f : Str} {p p' p1 p2 pos : Pos} {B nw ini : String} {tl : List Value}
theorem typ_VE : typeOf (.type "ValueError") = pure (.type "type") := by kernel_rfl
theorem pe_veinit2 {pl : Sem Bool} (hg : Gl X "ValueError") (hm : X.mg "ValueError" = none) (vV : PySem.W.findCls X.K (.type "ValueError") (.type "type") "__init__" = some (.val (.builtin "ValueError.__init__"))) (ha : PA X (e :: es) ta)
    (hc : eval (.Call (.Attribute (.Name "ValueError" p1) "__init__" p2) (e :: es) [] pos) X.env = (do
      let ov ← eval (.Name "ValueError" p1) X.env; standAt p2.atName
      let (f, first) ← holding [ov] (getMethod ov "__init__" pl); callWith pos f first (backTo pos (starEach (e :: es) X.env)) (backToKw pos (keywordEach [] X.env))) := by rfl)
    (he : starEach (e :: es) X.env = (false, eval e X.env) :: starEach es X.env := by rfl) (hpl : (backTo pos (starEach es X.env)).any (·.1) = false := by rfl) :
    PE X (.Call (.Attribute (.Name "ValueError" p1) "__init__" p2) (e :: es) [] pos) (tGi X.K "ValueError" nw "ValueError.__init__" tl ta) := by
  constructor
  intro pins s σ H Q I h
  refine PySem.W.methodCall_KW (ld_blt I hg hm PyProof.Rows.Boot.«ValueError» ?_ (by decide) (by decide)) hc
  obtain ⟨m, fr⟩ := I.fr
  refine PySem.W.method_type fr I.ok.mod.kin typ_VE (by decide +kernel) vV (by decide +kernel) ?_
  show wpAny _ _ (callWith pos (Value.builtin "ValueError.__init__") [] (backTo pos (starEach (e :: es) X.env)) []) _ _ _
  refine PyProof.Rows.callWith_method1 (thn (ha.run pos pins _ σ H _ (I.tok _) h) ?_) he hpl
  rintro us s1 ⟨vs, H1, I1, r1, a, C, r, rfl, hl, T, ea, q⟩
  cases r1 with
  | @cons _ u0 _ ur ra rr =>
    cases (show u0 = Value.ref a from ra)
    refine g_init T I1 ea ?_ fun s' J => ⟨.non, H1, J, rfl, q⟩
    have e1 := Paired.length rr
    have e2 := sizeLine_eq
    omega
end
end Js
namespace Js
open PySem L2
abbrev sNp : Stmt := inClass (top 3) 0
abbrev tlV : List Value := [.type "ValueError", .type "Exception", .type "BaseException", .type "object"]
abbrev GexV (K : PySem.W.Frag) (N : Addr) : Prop := GexC K N "ValueError" "ValueError.__new__" "ValueError.__init__" tlV
structure NpC (K : PySem.W.Frag) (mg : Str → Option Value) (N : Addr) : Prop where
  mgN : mg "NoProgram" = some (.ref N)
  O : GexV K N
  bd : PySem.W.findIn K (.ref N) "place" = some none
  mVE2 : mg "ValueError" = none
  vV : PySem.W.findCls K (.type "ValueError") (.type "type") "__init__" = some (.val (.builtin "ValueError.__init__"))
def spNp (K : PySem.W.Frag) : Sp := fun vs H Q _ => ∃ (a N : Addr) (n : Nat), vs = [.ref a, .int (n : Nat)] ∧ n ≤ 1000000 ∧ GexV K N ∧ PySem.W.findIn K (.ref N) "place" = some none ∧ H a = some (exo a N none) ∧
  ∀ dx, H dx = none → dx ≠ a → Q .non (upd (upd H dx (exd dx [("place", .int (n : Nat))])) a (exo a N (some dx)))
section
variable {P : Program} {w : World} {K : PySem.W.Frag} {mg : Str → Option Value} {base : Heap} {N C : Addr}
theorem scNp : FnScope ["self", "place"] ["self", "place"] (defScope sNp) := ⟨rfl, rfl, rfl, by decide +kernel, rfl, by decide +kernel, by decide +kernel⟩
theorem ok_np {f : Addr} {fd : FuncData} (F : Fun K "__init__" "NoProgram.__init__" sNp f fd) (T : NpC K mg N) : FnOk P w K mg base CX0 1 f fd ["self", "place"] (spNp K) := by
  refine F.ok scNp (fun vs H Q E h => ?_) (fun cdv A outer s H vs Q E hr h => ?_)
  · obtain ⟨a, N, n, rfl, _⟩ := h
    rfl
  · obtain ⟨a, N, n, rfl, hn, hO, hno, ha, k⟩ := h
    refine ⟨_, pss_cons (ps_expr (pe_veinit2 (nw := "ValueError.__new__") (tl := tlV) rfl T.mVE2 T.vV (pa_cons (pv 0) (pa_cons (pe_joined (.cons pe_str (.cons (pe_fmt (pv 1)) (.cons pe_str .nil)))) pa_nil)))) (pss_one (ps_gst (B := "ValueError") (nw := "ValueError.__new__") (ini := "ValueError.__init__") (tl := tlV) (pv 0) (pv 1))), ?_⟩
    have hlg := nat_log n hn
    have hl := PyProof.Rows.int_text_len_1921 hlg
    have hs := sizeLine_eq
    refine ⟨_, rfl, _, rfl, by decide +kernel, _, rfl, .inr ⟨_, rfl, hlg, _, rfl, ?_, ?_⟩⟩
    · rw [PySem.Str.length_append]
      have e : (Str.empty ++ ("no program: deed " : Str)).length = 17 := by decide +kernel
      omega
    refine ⟨_, rfl, ?_, ?_⟩
    · rw [PySem.Str.length_append, PySem.Str.length_append]
      have e : (Str.empty ++ ("no program: deed " : Str)).length = 17 := by decide +kernel
      have e2 : (" is none" : Str).length = 8 := by decide +kernel
      omega
    · refine ⟨a, N, _, rfl, by simp, hO, ha, ?_⟩
      exact ⟨_, rfl, _, rfl, a, N, rfl, hO, hno, ha, fun dx h1 h2 => k dx h1 h2⟩
theorem raise_np {H1 : Hp} {n : Nat} {Q : XK} (hO : GexV K N) (hno : PySem.W.findIn K (.ref N) "place" = some none) (hn : n ≤ 1000000)
    (q : ∀ d H', Same H1 H' → H' d = some (.xd [("place", .int (n : Nat))]) → Q (.ref N) (some d) H') :
    ∀ a, H1 a = none → spNp K [.ref a, .int (n : Nat)] (upd H1 a (exo a N none)) (fun v H2 => v = .non ∧ ∃ (d : Addr) (fs : List (Str × V)), H2 a = some (exo a N (some d)) ∧ H2 d = some (exd d fs) ∧ H1 d = none ∧ Q (.ref N) (some d) (upd (del H2 a) d (.xd fs))) (fun _ _ _ => False) := by
  intro a ha
  refine ⟨a, N, n, rfl, hn, hO, hno, upd_same, fun dx hd ne => ⟨rfl, dx, _, upd_same, (upd_ne ne).trans upd_same, ?_, q dx _ ?_ upd_same⟩⟩
  · rw [upd_ne ne] at hd
    exact hd
  · rw [upd_ne ne] at hd
    intro b o h
    have e1 := ne_of_none h hd
    have e2 := ne_of_none h ha
    rw [upd_ne e1, del_ne e2, upd_ne e2, upd_ne e1, upd_ne e2]
    exact h
structure NpM (P : Program) (w : World) (K : PySem.W.Frag) (mg : Str → Option Value) (base : Heap) (N fN : Addr) (fdN : FuncData) : Prop where
  T : NpC K mg N
  iN : PySem.W.findIn K (.ref N) "__init__" = some (some (.ref fN))
  tN : PySem.W.typeIn K (.ref fN) = some (.type "function")
  ok : FnOk P w K mg base CX0 1 fN fdN ["self", "place"] (spNp K)
  bN : Binds K fdN ["self", "place"] []
end
end Js
set_option Elab.async false
set_option linter.all false
set_option maxRecDepth 100000
set_option maxHeartbeats 4000000
namespace Js
open PySem L2
open PySem.Spec PyProof.Rows
theorem deepR_ap : ∀ (a b : List Dd), deepR (a ++ b) = max (deepR a) (deepR b)
  | [], b => by rw [List.nil_append, deepR, Nat.zero_max]
  | d :: a, b => by rw [List.cons_append, deepR, deepR_ap a b, deepR, Nat.max_assoc]
theorem deepL_ap : ∀ (a b : List (List Dd)), deepL (a ++ b) = max (deepL a) (deepL b)
  | [], b => by rw [List.nil_append, deepL, Nat.zero_max]
  | d :: a, b => by rw [List.cons_append, deepL, deepL_ap a b, deepL, Nat.max_assoc]
def spLookW (K : PySem.W.Frag) (C NP : Addr) (n : Nat) : Sp := fun vs H Q E => ∃ (q e : Addr) (f : Nat) (ws : List V) (rws : List Rw) (es : List Nat), vs = [.ref q, .int (f : Nat), .ref e] ∧ SqT K H q ws ∧ RwsAt K C H ws rws ∧ dpW rws < n ∧ f ≤ 8 ∧ H e = some (.lst (numsV es)) ∧ es.length ≤ 4000 ∧
  (∀ r, okRow rws f es.length r → ∀ H', KB e H H' → H' e = some (.lst (numsV (es ++ endsR r es.length))) → Q .non H') ∧
  ((¬ ∃ r, okRow rws f es.length r) → ∀ (m : Nat) (d : Addr) H', KB e H H' → H' d = some (.xd [("place", .int (m : Nat))]) → E (.ref NP) (some d) H')
theorem RwsAt_get {K : PySem.W.Frag} {C : Addr} {H : Hp} : ∀ (r : List Rw) (vs : List V) (i : Nat) (v : V), RwsAt K C H vs r → vs[i]? = some v → ∃ x, r[i]? = some x ∧ RwAt K C H v x
  | [], vs, i, v, h, hv => by rw [RwsAt] at h; subst h; cases hv
  | x :: r, vs, 0, v, h, hv => by
    rw [RwsAt] at h
    obtain ⟨u, us, rfl, h1, h2⟩ := h
    cases Option.some.inj hv
    exact ⟨x, rfl, h1⟩
  | x :: r, vs, i + 1, v, h, hv => by
    rw [RwsAt] at h
    obtain ⟨u, us, rfl, h1, h2⟩ := h
    exact RwsAt_get r us i v h2 hv
theorem okRow_at {rws : List Rw} {f l : Nat} {r rp : List Dd} {i : Nat} {x : Rw} (h : okRow rws f l r) (hp : rowD (rws.take i) = some rp) (hx : rws[i]? = some x) : ∃ d, x.dd = some d ∧ f + d.deep ≤ 8 ∧ l + manyR rp + d.many ≤ 4000 := by
  obtain ⟨h1, h2, h3⟩ := h
  obtain ⟨d, hd, hxd⟩ := rowD_at h1 hx
  have e := rowD_take h1 i
  rw [hp] at e
  cases Option.some.inj e
  have hm := manyR_take r i d hd
  have hdm := deepR_mem r d (List.mem_of_getElem? hd)
  exact ⟨d, hxd, by omega, by omega⟩
section
variable {P : Program} {w : World} {K : PySem.W.Frag} {mg : Str → Option Value} {base : Heap} {C NP fNP : Addr} {fdNP : FuncData}
theorem ok_lookW {f : Addr} {fd : FuncData} (F : Fun K "look_through" "look_through" sLook f fd) (mgf : mg "look_through" = some (.ref f)) (b : Binds K fd ["row", "floors", "ends"] []) (B : Blt mg) (T : Txt K mg C) (G : FrmC K w mg) (M : NpM P w K mg base NP fNP fdNP)
    (DH : Def P w K mg base "has_form" 3 ["deed"] (spHasFormW K C)) (DR : Def P w K mg base "rows_in" 1 ["deed"] (spRowsInW K C)) : ∀ n, FnOk P w K mg base (L2N.CX P w) (n + 4) f fd ["row", "floors", "ends"] (spLookW K C NP n) := by
  obtain ⟨t1, mD⟩ := G.mD
  obtain ⟨t2, mFl⟩ := G.mF
  intro n
  induction n with
  | zero =>
    refine okC F scLk (fun vs H Q E h => ?_) (fun cdv A outer s H vs Q E hr h => ?_)
    · obtain ⟨q, e, f, ws, rws, es, rfl, _⟩ := h
      rfl
    · obtain ⟨q, e, f, ws, rws, es, _, _, _, h, _⟩ := h
      exact absurd h (Nat.not_lt_zero _)
  | succ n G' =>
  refine okC F scLk (fun vs H Q E h => ?_) (fun cdv A outer s H vs Q E hr h => ?_)
  · obtain ⟨q, e, f, ws, rws, es, rfl, _⟩ := h
    rfl
  · obtain ⟨q, e, f, vs, rws, es, rfl, hq, hvs, hdp, hf8, he, hel, k, ke⟩ := h
    have hr1 : Room 1 _ := hr.mono (by omega)
    have hr2 : Room 2 _ := hr.mono (by omega)
    have hr3 : Room 3 _ := hr.mono (by omega)
    refine ⟨_, pss_one (ps_for (passes_of rfl) rfl (pi_tup (pv 0)) (pg_name (i := 3) scLk.nd rfl (Or.inl rfl)) (pss_cons (ps_set (i := 4) scLk.nd rfl (Or.inl rfl) (pe_callB call_len_seq (by rfl) B.len PySem.boot_len (pa_cons (pv 2) pa_nil))) (pss_cons (ps_if (PW.pt (pw_or (pt_cmpR op_eq (pv 4) (pe_glob (v := .int 4000) rfl mD ⟨_, rfl⟩) (nomark _)) (pw_or1 (pt_not (pt_val (pe_def DH hr3 rfl (pa_cons (pv 3) pa_nil))))))) (pss_one (L2N.ps_raise rfl (L2N.takes_of rfl rfl rfl rfl) (pmk_gexN M.T.O M.iN M.tN M.ok hr2 M.bN .nil pass0 rfl M.T.mgN (pa_cons (pv 4) pa_nil)))) pss_nil) (pss_cons (ps_set (i := 5) scLk.nd rfl (Or.inl rfl) (pe_def DR hr1 rfl (pa_cons (pv 3) pa_nil))) (pss_cons (ps_if (PW.pt (pw_and (pt_truth (pv 5) (by intro _; rfl)) (pw_and1 (pt_cmpR op_eq (pv 1) (pe_glob (v := .int 8) rfl mFl ⟨_, rfl⟩) (nomark _))))) (pss_one (L2N.ps_raise rfl (L2N.takes_of rfl rfl rfl rfl) (pmk_gexN M.T.O M.iN M.tN M.ok hr2 M.bN .nil pass0 rfl M.T.mgN (pa_cons (pv 4) pa_nil)))) pss_nil) (pss_cons (ps_expr (pe_bm PySem.F.plainAttrs_list PySem.F.slot_list_append PySem.F.type_list_append mt_append (pv 2) (pa_cons (pe_op op_add (pv 4) pe_int) pa_nil))) (pss_cons (ps_for (passes_of rfl) rfl (pi_tup (pv 5)) (pg_name (i := 6) scLk.nd rfl (Or.inl rfl)) (pss_one (ps_expr (pe_callS G' hr rfl mgf F.kp b (fun σ => L2N.passAt (L2N.takes_of rfl rfl rfl rfl) σ) (pa_cons (pv 6) (pa_cons (pe_op op_add (pv 1) pe_int) (pa_cons (pv 2) pa_nil))))))) (pss_one (ps_asg (pe_callB call_len_seq (by rfl) B.len PySem.boot_len (pa_cons (pv 2) pa_nil)) (pg_sub (pv 2) (pv 4) set_list)))))))))), ?_⟩
    have hsl := line4
    have hlen := RwsAt_len rws vs hvs
    refine ⟨_, rfl, q, rfl, ⟨_, hq⟩, for_tup (K := K) (a := q) (xs := vs) (fun i σ H' => ∃ (x3 x4 x5 x6 : Option V) (rp : List Dd), σ = [some (.ref q), some (.int (f : Nat)), some (.ref e), x3, x4, x5, x6] ∧ KB e H H' ∧ okRow (rws.take i) f es.length rp ∧ H' e = some (.lst (numsV (es ++ endsR rp es.length)))) ⟨none, none, none, none, [], rfl, KB.refl e H, ⟨rfl, by rw [deepR]; omega, by rw [many_nil]; omega⟩, by simpa [endsR] using he⟩ ?_ ?_ ?_⟩
    · rintro i σ H1 _ ⟨x3, x4, x5, x6, rp, rfl, kb1, _, he1⟩
      exact sqt_kt (kb1.kt he) hq
    · rintro i v σ H1 hv ⟨x3, x4, x5, x6, rp, rfl, kb1, hrp, he1⟩
      obtain ⟨x, hx, hxv⟩ := RwsAt_get rws vs i v hvs hv
      have hat := fun (r : List Dd) (h : okRow rws f es.length r) => okRow_at h hrp.1 hx
      have hxv1 := RwAt_kt (kb1.kt he) x v hxv
      obtain ⟨pl, hpl⟩ : ∃ pl, es.length + manyR rp = pl := ⟨_, rfl⟩
      have hpl4 : pl ≤ 4000 := by have := hrp.2.2; omega
      have hl1 : (numsV (es ++ endsR rp es.length)).length = pl := by rw [numsV_len, List.length_append, endsR_len, hpl]
      refine ⟨_, rfl, e, _, rfl, .inl (SqL.of he1), ?_⟩
      rw [hl1]
      refine ⟨_, rfl, rfl, _, rfl, ?_⟩
      by_cases hp4 : pl = 4000
      · rw [decide_eq_true (show V.int ((pl : Nat) : Int) = V.int 4000 by rw [hp4]; rfl)]
        refine iteT (iteT ?_)
        refine ⟨_, rfl, by simp, raise_np M.T.O M.T.bd (by omega) fun d H' sH hd => ke (fun ⟨r, hr'⟩ => ?_) pl d H' (kb1.trans (KB.of sH)) hd⟩
        obtain ⟨d, _, _, h3⟩ := hat r hr'
        have := many_pos d
        omega
      have e0 : decide (V.int ((pl : Nat) : Int) = V.int 4000) = false := by
        simp only [decide_eq_false_iff_not, V.int.injEq]
        omega
      rw [e0]
      refine iteF ?_
      refine ⟨_, rfl, v, x, rfl, hxv1, fun H2 s2 => ?_⟩
      have kb2 := kb1.trans (KB.of s2)
      have hxv2 := RwAt_kt (KT.of s2) x v hxv1
      refine ⟨_, rfl, ?_⟩
      cases hfb : formB x with
      | false =>
        refine iteT ?_
        refine ⟨_, rfl, by simp, raise_np M.T.O M.T.bd (by omega) fun d H' sH hd => ke (fun ⟨r, hr'⟩ => ?_) pl d H' (kb2.trans (KB.of sH)) hd⟩
        obtain ⟨d', h1, _, _⟩ := hat r hr'
        rw [formB_of h1] at hfb
        cases hfb
      | true =>
        refine iteF ?_
        have hnb : x ≠ .bad := fun z => by subst z; cases hfb
        refine ⟨_, rfl, v, x, rfl, hxv2, hnb, fun ip ws H3 s3 hip hws => ?_⟩
        have hwl := Paired.length hws
        have kb3 := kb2.trans (KB.of s3)
        have he3 := s3 _ _ (s2 _ _ he1)
        refine ⟨_, rfl, !ws.isEmpty, .inr (.inl ⟨ws, hip, rfl⟩), ?_⟩
        by_cases hin : ws ≠ [] ∧ f = 8
        · obtain ⟨hne, hf⟩ := hin
          rw [show (!ws.isEmpty) = true by cases ws with | nil => exact absurd rfl hne | cons => rfl]
          refine iteT ?_
          refine ⟨_, rfl, rfl, _, rfl, ?_⟩
          rw [decide_eq_true (show V.int ((f : Nat) : Int) = V.int 8 by rw [hf]; rfl)]
          refine iteT ?_
          refine ⟨_, rfl, by simp, raise_np M.T.O M.T.bd (by omega) fun d H' sH hd => ke (fun ⟨r, hr'⟩ => ?_) pl d H' (kb3.trans (KB.of sH)) hd⟩
          obtain ⟨d', h1, h2, _⟩ := hat r hr'
          have hrl := Paired.length (dd_rows h1)
          have hdr : d'.rows ≠ [] := fun z => by
            rw [z, ← hwl] at hrl
            exact hne (List.length_eq_zero_iff.mp hrl)
          have := deep_rows d' hdr
          omega
        have step2 : ∀ (R : Bool → Hp → Prop), R false H3 → (if (!ws.isEmpty) = true then (tTest (tOp rEq (tVar 1) (tC (.int 8)))) [some (.ref q), some (.int (f : Nat)), some (.ref e), some v, some (.int ((pl : Nat) : Int)), some (.ref ip), x6] H3 R else R false H3) := by
          intro R hR
          cases hw : ws with
          | nil => exact iteF hR
          | cons w0 wr =>
            refine iteT ?_
            refine ⟨_, rfl, rfl, _, rfl, ?_⟩
            have e1 : decide (V.int ((f : Nat) : Int) = V.int 8) = false := by
              simp only [decide_eq_false_iff_not, V.int.injEq]
              intro z
              exact hin ⟨by rw [hw]; exact (fun z => by cases z), by omega⟩
            rw [e1]
            exact hR
        refine step2 _ ?_
        refine iteF ?_
        have hf7 : x.rows ≠ [] → f ≤ 7 := fun h => by
          by_cases q : f = 8
          · exact absurd ⟨fun z => h (List.length_eq_zero_iff.mp (by rw [← hwl, z]; rfl)), q⟩ hin
          · omega
        obtain ⟨as, has⟩ : ∃ as, es ++ endsR rp es.length = as := ⟨_, rfl⟩
        rw [has] at he3 hl1
        rw [numsV_len] at hl1
        refine ⟨_, rfl, .inl ⟨rfl, _, SqL.of he3⟩, _, rfl, _, _, rfl, rfl, e, _, _, rfl, rfl, he3, by rw [numsV_len]; omega, ?_⟩
        have e4 : numsV as ++ [V.int (((pl : Nat) : Int) + 1)] = numsV (as ++ [pl + 1]) := by
          rw [numsV_app]
          rfl
        rw [e4]
        have he4 : (upd H3 e (.lst (numsV (as ++ [pl + 1])))) e = some (.lst (numsV (as ++ [pl + 1]))) := upd_same
        have kb4 : KB e H3 (upd H3 e (.lst (numsV (as ++ [pl + 1])))) := KB.set
        revert he4 kb4
        generalize upd H3 e (.lst (numsV (as ++ [pl + 1]))) = H4
        intro he4 kb4
        have kt4 : KT H3 H4 := kb4.kt he3
        refine ⟨_, rfl, ip, rfl, ⟨_, sqt_kt kt4 hip⟩, for_tup (K := K) (a := ip) (xs := ws) (fun j σ H' => ∃ (x6 : Option V) (rs : List (List Dd)), σ = [some (.ref q), some (.int (f : Nat)), some (.ref e), some v, some (.int ((pl : Nat) : Int)), some (.ref ip), x6] ∧ KB e H4 H' ∧ Paired (fun l r => rowD l = some r) (x.rows.take j) rs ∧ (rs ≠ [] → f + 1 + deepL rs ≤ 8) ∧ pl + 1 + manyL rs ≤ 4000 ∧ H' e = some (.lst (numsV (as ++ [pl + 1] ++ endsL rs (pl + 1))))) ⟨_, [], rfl, KB.refl e H4, by rw [List.take_zero]; exact .nil, fun z => absurd rfl z, by rw [manyL]; omega, by simpa [endsL] using he4⟩ ?_ ?_ ?_⟩
        · rintro j σ H5 _ ⟨x6, rs, rfl, kb5, _, _, _, he5⟩
          exact sqt_kt (kb5.kt he4) (sqt_kt kt4 hip)
        · rintro j v6 σ H5 hv6 ⟨x6, rs, rfl, kb5, hrs, hdl, hml, he5⟩
          obtain ⟨r6, hr6, q6, us6, rfl, hq6, hus6⟩ := paired_get hws hv6
          have hne : x.rows ≠ [] := fun z => by
            rw [z] at hr6
            cases hr6
          have l5 : (as ++ [pl + 1] ++ endsL rs (pl + 1)).length = pl + 1 + manyL rs := by
            rw [List.length_append, List.length_append, endsL_len, hl1]
            rfl
          have kt5 := kt4.trans (kb5.kt he4)
          have hdm := rows_dp (List.mem_of_getElem? hr6)
          have hdx := dpW_mem (List.mem_of_getElem? hx)
          refine ⟨_, rfl, _, rfl, _, _, rfl, rfl, _, rfl, q6, e, f + 1, us6, r6, _, rfl, sqt_kt kt5 hq6, RwsAt_kt kt5 _ _ hus6, by omega, by have := hf7 hne; omega, he5, by rw [l5]; exact hml, fun r hr' H6 kb6 he6 => ?_, fun hno m dd H6 kb6 hd6 => ke (fun ⟨r, hr'⟩ => hno ?_) m dd H6 (((kb3.trans kb4).trans kb5).trans kb6) hd6⟩
          · rw [l5] at hr' he6
            refine ⟨_, rs ++ [r], rfl, kb5.trans kb6, ?_, ?_, ?_, ?_⟩
            · rw [take_snoc hr6]
              exact paired_app hrs (.cons hr'.1 .nil)
            · intro _
              rw [deepL_ap, deepL, deepL]
              have h1 := hr'.2.1
              by_cases hz : rs = []
              · subst hz
                rw [deepL]
                omega
              · have := hdl hz
                omega
            · rw [manyL_app, manyL_one]
              have := hr'.2.2
              omega
            · rw [he6, endsL_app, endsL_one, List.append_assoc (as ++ [pl + 1])]
          · obtain ⟨d', h1, h2, h3⟩ := hat r hr'
            have hdd := dd_rows h1
            obtain ⟨r7, hr7, h7⟩ := paired_get hdd hr6
            have ht := pair_take j hdd
            have e7 : rs = d'.rows.take j := by
              have : ∀ {l : List (List Rw)} {a b : List (List Dd)}, Paired (fun l r => rowD l = some r) l a → Paired (fun l r => rowD l = some r) l b → a = b := by
                intro l a b ha
                induction ha generalizing b with
                | nil => intro hb; cases hb; rfl
                | cons h t ih =>
                  intro hb
                  cases hb with
                  | cons h' t' => rw [Option.some.inj (h.symm.trans h'), ih t']
              exact this hrs ht
            have hmt := manyL_take d'.rows j r7 hr7
            have hmr := many_rows d'
            have hdl7 := deepL_mem d'.rows r7 (List.mem_of_getElem? hr7)
            have hdr : d'.rows ≠ [] := fun z => by
              rw [z] at hr7
              cases hr7
            have hde := deep_rows d' hdr
            refine ⟨r7, h7, by omega, ?_⟩
            rw [l5, e7]
            omega
        · rintro σ H5 ⟨x6, rs, rfl, kb5, hrs, hdl, hml, he5⟩
          rw [hwl, List.take_length] at hrs
          obtain ⟨d', h1, hdr⟩ := dd_of hfb hrs
          subst hdr
          have hmr := many_rows d'
          have l5 : (as ++ [pl + 1] ++ endsL d'.rows (pl + 1)).length = pl + d'.many := by
            rw [List.length_append, List.length_append, endsL_len, hl1, hmr]
            simp only [List.length_cons, List.length_nil]
            omega
          refine ⟨_, rfl, e, _, rfl, .inl (SqL.of he5), ?_⟩
          rw [numsV_len, l5]
          refine ⟨_, rfl, _, rfl, e, _, _, pl, rfl, rfl, he5, ?_, ?_⟩
          · rw [numsV_len, l5]
            have := many_pos d'
            exact ixN_at _ _ (by omega)
          · have es5 : (numsV (as ++ [pl + 1] ++ endsL d'.rows (pl + 1))).set pl (V.int (((pl + d'.many : Nat)) : Int)) = numsV (es ++ endsR (rp ++ [d']) es.length) := by
              rw [endsR_app, endsR_one, ends_rows, ← List.append_assoc, has, hpl, List.append_assoc, numsV_app, numsV_app]
              rw [List.set_append_right _ _ (by rw [numsV_len, hl1]; exact Nat.le_refl _), numsV_len, hl1, Nat.sub_self, numsV_app]
              rfl
            refine ⟨_, _, _, _, rp ++ [d'], rfl, ((kb3.trans kb4).trans kb5).trans KB.set, ⟨?_, ?_, ?_⟩, ?_⟩
            · rw [take_snoc hx]
              exact rowD_snoc hrp.1 h1
            · rw [deepR_ap, deepR, deepR]
              have g1 := hrp.2.1
              by_cases hz : d'.rows = []
              · have : d'.deep = 0 := by
                  cases d' with
                  | told => rw [Dd.deep]
                  | take => rw [Dd.deep]
                  | two => rw [Dd.deep]
                  | wh => cases hz
                  | iff => cases hz
                omega
              · have g2 := hdl hz
                have g3 := deep_rows d' hz
                omega
            · rw [manyR_app, manyR_one]
              omega
            · rw [upd_same, ← es5]
    · rintro σ H1 ⟨x3, x4, x5, x6, rp, rfl, kb1, hrp, he1⟩
      rw [hlen, List.take_length] at hrp
      exact k rp hrp H1 kb1 he1
end
end Js
set_option Elab.async false
set_option linter.all false
set_option maxRecDepth 100000
set_option maxHeartbeats 4000000
namespace Js
open PySem L2
open PySem.Spec PyProof.Rows
def errA {α : Type} (g : α → Nat → Bool × Nat) : List α → Nat → Bool × Nat
  | [], l => (false, l)
  | x :: xs, l => match g x l with
    | (true, m) => (true, m)
    | (false, m) => errA g xs m
def errX : Nat → Rw → Nat → Bool × Nat
  | 0, x, l => if l = 4000 ∨ formB x = false then (true, l) else if x.rows.isEmpty = true then (false, l + 1) else (true, l)
  | k + 1, x, l => if l = 4000 ∨ formB x = false then (true, l) else errA (errA (errX k)) x.rows (l + 1)
theorem errX_bad {k : Nat} {x : Rw} {l : Nat} (h : l = 4000 ∨ formB x = false) : errX k x l = (true, l) := by
  cases k with
  | zero => rw [errX, if_pos h]
  | succ k => rw [errX, if_pos h]
theorem errA_at {α : Type} {g : α → Nat → Bool × Nat} {x : α} {n : Nat} : ∀ {xs : List α} {i l m : Nat}, errA g (xs.take i) l = (false, m) → xs[i]? = some x → g x m = (true, n) → errA g xs l = (true, n)
  | [], i, l, m, _, hx, _ => by cases hx
  | y :: xs, 0, l, m, h, hx, hg => by
    cases Option.some.inj hx
    rw [List.take_zero, errA] at h
    cases h
    rw [errA, hg]
  | y :: xs, i + 1, l, m, h, hx, hg => by
    rw [List.take_succ_cons, errA] at h
    rw [errA]
    cases e : g y l with
    | mk b p =>
      rw [e] at h
      cases b with
      | true => cases h
      | false => exact errA_at h hx hg
theorem errA_snoc {α : Type} {g : α → Nat → Bool × Nat} {x : α} : ∀ {xs : List α} {l m : Nat}, errA g xs l = (false, m) → errA g (xs ++ [x]) l = g x m
  | [], l, m, h => by
    rw [errA] at h
    cases h
    rw [List.nil_append, errA]
    cases e : g x l with
    | mk b p => cases b <;> rfl
  | y :: xs, l, m, h => by
    rw [errA] at h
    rw [List.cons_append, errA]
    cases e : g y l with
    | mk b p =>
      rw [e] at h
      cases b with
      | true => cases h
      | false => exact errA_snoc h
def spLookP (K : PySem.W.Frag) (C NP : Addr) (n : Nat) : Sp := fun vs H Q E => ∃ (q e : Addr) (f : Nat) (ws : List V) (rws : List Rw) (es : List Nat), vs = [.ref q, .int (f : Nat), .ref e] ∧ SqT K H q ws ∧ RwsAt K C H ws rws ∧ dpW rws < n ∧ f ≤ 8 ∧ H e = some (.lst (numsV es)) ∧ es.length ≤ 4000 ∧
  (∀ r, okRow rws f es.length r → errA (errX (8 - f)) rws es.length = (false, es.length + manyR r) → ∀ H', KB e H H' → H' e = some (.lst (numsV (es ++ endsR r es.length))) → Q .non H') ∧
  (∀ m : Nat, errA (errX (8 - f)) rws es.length = (true, m) → ∀ (d : Addr) H', KB e H H' → H' d = some (.xd [("place", .int (m : Nat))]) → E (.ref NP) (some d) H')
section
variable {P : Program} {w : World} {K : PySem.W.Frag} {mg : Str → Option Value} {base : Heap} {C NP fNP : Addr} {fdNP : FuncData}
theorem ok_lookP {f : Addr} {fd : FuncData} (F : Fun K "look_through" "look_through" sLook f fd) (mgf : mg "look_through" = some (.ref f)) (b : Binds K fd ["row", "floors", "ends"] []) (B : Blt mg) (T : Txt K mg C) (G : FrmC K w mg) (M : NpM P w K mg base NP fNP fdNP)
    (DH : Def P w K mg base "has_form" 3 ["deed"] (spHasFormW K C)) (DR : Def P w K mg base "rows_in" 1 ["deed"] (spRowsInW K C)) : ∀ n, FnOk P w K mg base (L2N.CX P w) (n + 4) f fd ["row", "floors", "ends"] (spLookP K C NP n) := by
  obtain ⟨t1, mD⟩ := G.mD
  obtain ⟨t2, mFl⟩ := G.mF
  intro n
  induction n with
  | zero =>
    refine okC F scLk (fun vs H Q E h => ?_) (fun cdv A outer s H vs Q E hr h => ?_)
    · obtain ⟨q, e, f, ws, rws, es, rfl, _⟩ := h
      rfl
    · obtain ⟨q, e, f, ws, rws, es, _, _, _, h, _⟩ := h
      exact absurd h (Nat.not_lt_zero _)
  | succ n G' =>
  refine okC F scLk (fun vs H Q E h => ?_) (fun cdv A outer s H vs Q E hr h => ?_)
  · obtain ⟨q, e, f, ws, rws, es, rfl, _⟩ := h
    rfl
  · obtain ⟨q, e, f, vs, rws, es, rfl, hq, hvs, hdp, hf8, he, hel, k, ke⟩ := h
    have hr1 : Room 1 _ := hr.mono (by omega)
    have hr2 : Room 2 _ := hr.mono (by omega)
    have hr3 : Room 3 _ := hr.mono (by omega)
    refine ⟨_, pss_one (ps_for (passes_of rfl) rfl (pi_tup (pv 0)) (pg_name (i := 3) scLk.nd rfl (Or.inl rfl)) (pss_cons (ps_set (i := 4) scLk.nd rfl (Or.inl rfl) (pe_callB call_len_seq (by rfl) B.len PySem.boot_len (pa_cons (pv 2) pa_nil))) (pss_cons (ps_if (PW.pt (pw_or (pt_cmpR op_eq (pv 4) (pe_glob (v := .int 4000) rfl mD ⟨_, rfl⟩) (nomark _)) (pw_or1 (pt_not (pt_val (pe_def DH hr3 rfl (pa_cons (pv 3) pa_nil))))))) (pss_one (L2N.ps_raise rfl (L2N.takes_of rfl rfl rfl rfl) (pmk_gexN M.T.O M.iN M.tN M.ok hr2 M.bN .nil pass0 rfl M.T.mgN (pa_cons (pv 4) pa_nil)))) pss_nil) (pss_cons (ps_set (i := 5) scLk.nd rfl (Or.inl rfl) (pe_def DR hr1 rfl (pa_cons (pv 3) pa_nil))) (pss_cons (ps_if (PW.pt (pw_and (pt_truth (pv 5) (by intro _; rfl)) (pw_and1 (pt_cmpR op_eq (pv 1) (pe_glob (v := .int 8) rfl mFl ⟨_, rfl⟩) (nomark _))))) (pss_one (L2N.ps_raise rfl (L2N.takes_of rfl rfl rfl rfl) (pmk_gexN M.T.O M.iN M.tN M.ok hr2 M.bN .nil pass0 rfl M.T.mgN (pa_cons (pv 4) pa_nil)))) pss_nil) (pss_cons (ps_expr (pe_bm PySem.F.plainAttrs_list PySem.F.slot_list_append PySem.F.type_list_append mt_append (pv 2) (pa_cons (pe_op op_add (pv 4) pe_int) pa_nil))) (pss_cons (ps_for (passes_of rfl) rfl (pi_tup (pv 5)) (pg_name (i := 6) scLk.nd rfl (Or.inl rfl)) (pss_one (ps_expr (pe_callS G' hr rfl mgf F.kp b (fun σ => L2N.passAt (L2N.takes_of rfl rfl rfl rfl) σ) (pa_cons (pv 6) (pa_cons (pe_op op_add (pv 1) pe_int) (pa_cons (pv 2) pa_nil))))))) (pss_one (ps_asg (pe_callB call_len_seq (by rfl) B.len PySem.boot_len (pa_cons (pv 2) pa_nil)) (pg_sub (pv 2) (pv 4) set_list)))))))))), ?_⟩
    have hsl := line4
    have hlen := RwsAt_len rws vs hvs
    refine ⟨_, rfl, q, rfl, ⟨_, hq⟩, for_tup (K := K) (a := q) (xs := vs) (fun i σ H' => ∃ (x3 x4 x5 x6 : Option V) (rp : List Dd), σ = [some (.ref q), some (.int (f : Nat)), some (.ref e), x3, x4, x5, x6] ∧ KB e H H' ∧ okRow (rws.take i) f es.length rp ∧ errA (errX (8 - f)) (rws.take i) es.length = (false, es.length + manyR rp) ∧ H' e = some (.lst (numsV (es ++ endsR rp es.length)))) ⟨none, none, none, none, [], rfl, KB.refl e H, ⟨rfl, by rw [deepR]; omega, by rw [many_nil]; omega⟩, by rw [List.take_zero, errA, many_nil]; rfl, by simpa [endsR] using he⟩ ?_ ?_ ?_⟩
    · rintro i σ H1 _ ⟨x3, x4, x5, x6, rp, rfl, kb1, _, _, he1⟩
      exact sqt_kt (kb1.kt he) hq
    · rintro i v σ H1 hv ⟨x3, x4, x5, x6, rp, rfl, kb1, hrp, hep, he1⟩
      obtain ⟨x, hx, hxv⟩ := RwsAt_get rws vs i v hvs hv
      have hxv1 := RwAt_kt (kb1.kt he) x v hxv
      obtain ⟨pl, hpl⟩ : ∃ pl, es.length + manyR rp = pl := ⟨_, rfl⟩
      rw [hpl] at hep
      have hpl4 : pl ≤ 4000 := by have := hrp.2.2; omega
      have hl1 : (numsV (es ++ endsR rp es.length)).length = pl := by rw [numsV_len, List.length_append, endsR_len, hpl]
      refine ⟨_, rfl, e, _, rfl, .inl (SqL.of he1), ?_⟩
      rw [hl1]
      refine ⟨_, rfl, rfl, _, rfl, ?_⟩
      by_cases hp4 : pl = 4000
      · rw [decide_eq_true (show V.int ((pl : Nat) : Int) = V.int 4000 by rw [hp4]; rfl)]
        refine iteT (iteT ?_)
        refine ⟨_, rfl, by simp, raise_np M.T.O M.T.bd (by omega) fun d H' sH hd => ke pl (errA_at hep hx (errX_bad (.inl hp4))) d H' (kb1.trans (KB.of sH)) hd⟩
      have e0 : decide (V.int ((pl : Nat) : Int) = V.int 4000) = false := by
        simp only [decide_eq_false_iff_not, V.int.injEq]
        omega
      rw [e0]
      refine iteF ?_
      refine ⟨_, rfl, v, x, rfl, hxv1, fun H2 s2 => ?_⟩
      have kb2 := kb1.trans (KB.of s2)
      have hxv2 := RwAt_kt (KT.of s2) x v hxv1
      refine ⟨_, rfl, ?_⟩
      cases hfb : formB x with
      | false =>
        refine iteT ?_
        refine ⟨_, rfl, by simp, raise_np M.T.O M.T.bd (by omega) fun d H' sH hd => ke pl (errA_at hep hx (errX_bad (.inr hfb))) d H' (kb2.trans (KB.of sH)) hd⟩
      | true =>
        refine iteF ?_
        have hnb : x ≠ .bad := fun z => by subst z; cases hfb
        refine ⟨_, rfl, v, x, rfl, hxv2, hnb, fun ip ws H3 s3 hip hws => ?_⟩
        have hwl := Paired.length hws
        have kb3 := kb2.trans (KB.of s3)
        have he3 := s3 _ _ (s2 _ _ he1)
        refine ⟨_, rfl, !ws.isEmpty, .inr (.inl ⟨ws, hip, rfl⟩), ?_⟩
        by_cases hin : ws ≠ [] ∧ f = 8
        · obtain ⟨hne, hf⟩ := hin
          rw [show (!ws.isEmpty) = true by cases ws with | nil => exact absurd rfl hne | cons => rfl]
          refine iteT ?_
          refine ⟨_, rfl, rfl, _, rfl, ?_⟩
          rw [decide_eq_true (show V.int ((f : Nat) : Int) = V.int 8 by rw [hf]; rfl)]
          refine iteT ?_
          refine ⟨_, rfl, by simp, raise_np M.T.O M.T.bd (by omega) fun d H' sH hd => ke pl (errA_at hep hx ?_) d H' (kb3.trans (KB.of sH)) hd⟩
          have hre : x.rows.isEmpty = false := by
            cases hxr : x.rows with
            | nil =>
              rw [hxr] at hwl
              exact absurd (List.length_eq_zero_iff.mp hwl) hne
            | cons _ _ => rfl
          rw [hf, Nat.sub_self, errX, if_neg (fun z => z.elim hp4 (fun z => by rw [hfb] at z; cases z)), hre]
          rfl
        have step2 : ∀ (R : Bool → Hp → Prop), R false H3 → (if (!ws.isEmpty) = true then (tTest (tOp rEq (tVar 1) (tC (.int 8)))) [some (.ref q), some (.int (f : Nat)), some (.ref e), some v, some (.int ((pl : Nat) : Int)), some (.ref ip), x6] H3 R else R false H3) := by
          intro R hR
          cases hw : ws with
          | nil => exact iteF hR
          | cons w0 wr =>
            refine iteT ?_
            refine ⟨_, rfl, rfl, _, rfl, ?_⟩
            have e1 : decide (V.int ((f : Nat) : Int) = V.int 8) = false := by
              simp only [decide_eq_false_iff_not, V.int.injEq]
              intro z
              exact hin ⟨by rw [hw]; exact (fun z => by cases z), by omega⟩
            rw [e1]
            exact hR
        refine step2 _ ?_
        refine iteF ?_
        have hf7 : x.rows ≠ [] → f ≤ 7 := fun h => by
          by_cases q : f = 8
          · exact absurd ⟨fun z => h (List.length_eq_zero_iff.mp (by rw [← hwl, z]; rfl)), q⟩ hin
          · omega
        obtain ⟨as, has⟩ : ∃ as, es ++ endsR rp es.length = as := ⟨_, rfl⟩
        rw [has] at he3 hl1
        rw [numsV_len] at hl1
        refine ⟨_, rfl, .inl ⟨rfl, _, SqL.of he3⟩, _, rfl, _, _, rfl, rfl, e, _, _, rfl, rfl, he3, by rw [numsV_len]; omega, ?_⟩
        have e4 : numsV as ++ [V.int (((pl : Nat) : Int) + 1)] = numsV (as ++ [pl + 1]) := by
          rw [numsV_app]
          rfl
        rw [e4]
        have he4 : (upd H3 e (.lst (numsV (as ++ [pl + 1])))) e = some (.lst (numsV (as ++ [pl + 1]))) := upd_same
        have kb4 : KB e H3 (upd H3 e (.lst (numsV (as ++ [pl + 1])))) := KB.set
        revert he4 kb4
        generalize upd H3 e (.lst (numsV (as ++ [pl + 1]))) = H4
        intro he4 kb4
        have kt4 : KT H3 H4 := kb4.kt he3
        refine ⟨_, rfl, ip, rfl, ⟨_, sqt_kt kt4 hip⟩, for_tup (K := K) (a := ip) (xs := ws) (fun j σ H' => ∃ (x6 : Option V) (rs : List (List Dd)), σ = [some (.ref q), some (.int (f : Nat)), some (.ref e), some v, some (.int ((pl : Nat) : Int)), some (.ref ip), x6] ∧ KB e H4 H' ∧ Paired (fun l r => rowD l = some r) (x.rows.take j) rs ∧ (rs ≠ [] → f + 1 + deepL rs ≤ 8) ∧ pl + 1 + manyL rs ≤ 4000 ∧ (∀ k, 8 - f = k + 1 → errA (errA (errX k)) (x.rows.take j) (pl + 1) = (false, pl + 1 + manyL rs)) ∧ H' e = some (.lst (numsV (as ++ [pl + 1] ++ endsL rs (pl + 1))))) ⟨_, [], rfl, KB.refl e H4, by rw [List.take_zero]; exact .nil, fun z => absurd rfl z, by rw [manyL]; omega, fun k _ => by rw [List.take_zero, errA, manyL], by simpa [endsL] using he4⟩ ?_ ?_ ?_⟩
        · rintro j σ H5 _ ⟨x6, rs, rfl, kb5, _, _, _, _, he5⟩
          exact sqt_kt (kb5.kt he4) (sqt_kt kt4 hip)
        · rintro j v6 σ H5 hv6 ⟨x6, rs, rfl, kb5, hrs, hdl, hml, hel5, he5⟩
          obtain ⟨r6, hr6, q6, us6, rfl, hq6, hus6⟩ := paired_get hws hv6
          have hne : x.rows ≠ [] := fun z => by
            rw [z] at hr6
            cases hr6
          have l5 : (as ++ [pl + 1] ++ endsL rs (pl + 1)).length = pl + 1 + manyL rs := by
            rw [List.length_append, List.length_append, endsL_len, hl1]
            rfl
          have kt5 := kt4.trans (kb5.kt he4)
          have hdm := rows_dp (List.mem_of_getElem? hr6)
          have hdx := dpW_mem (List.mem_of_getElem? hx)
          refine ⟨_, rfl, _, rfl, _, _, rfl, rfl, _, rfl, q6, e, f + 1, us6, r6, _, rfl, sqt_kt kt5 hq6, RwsAt_kt kt5 _ _ hus6, by omega, by have := hf7 hne; omega, he5, by rw [l5]; exact hml, fun r hr' hee H6 kb6 he6 => ?_, fun m hem dd H6 kb6 hd6 => ke m (errA_at hep hx ?_) dd H6 (((kb3.trans kb4).trans kb5).trans kb6) hd6⟩
          · rw [l5] at hr' he6 hee
            refine ⟨_, rs ++ [r], rfl, kb5.trans kb6, ?_, ?_, ?_, ?_, ?_⟩
            · rw [take_snoc hr6]
              exact paired_app hrs (.cons hr'.1 .nil)
            · intro _
              rw [deepL_ap, deepL, deepL]
              have h1 := hr'.2.1
              by_cases hz : rs = []
              · subst hz
                rw [deepL]
                omega
              · have := hdl hz
                omega
            · rw [manyL_app, manyL_one]
              have := hr'.2.2
              omega
            · intro kk hkk
              rw [take_snoc hr6, errA_snoc (hel5 kk hkk), manyL_app, manyL_one]
              rw [show 8 - (f + 1) = kk by omega] at hee
              rw [hee, Nat.add_assoc]
            · rw [he6, endsL_app, endsL_one, List.append_assoc (as ++ [pl + 1])]
          · rw [l5] at hem
            have hf8' : 8 - f = (8 - (f + 1)) + 1 := by have := hf7 hne; omega
            rw [hf8', errX, if_neg (fun z => z.elim hp4 (fun z => by rw [hfb] at z; cases z))]
            exact errA_at (hel5 _ hf8') hr6 hem
        · rintro σ H5 ⟨x6, rs, rfl, kb5, hrs, hdl, hml, hel5, he5⟩
          rw [hwl, List.take_length] at hrs
          obtain ⟨d', h1, hdr⟩ := dd_of hfb hrs
          subst hdr
          have hmr := many_rows d'
          have l5 : (as ++ [pl + 1] ++ endsL d'.rows (pl + 1)).length = pl + d'.many := by
            rw [List.length_append, List.length_append, endsL_len, hl1, hmr]
            simp only [List.length_cons, List.length_nil]
            omega
          refine ⟨_, rfl, e, _, rfl, .inl (SqL.of he5), ?_⟩
          rw [numsV_len, l5]
          refine ⟨_, rfl, _, rfl, e, _, _, pl, rfl, rfl, he5, ?_, ?_⟩
          · rw [numsV_len, l5]
            have := many_pos d'
            exact ixN_at _ _ (by omega)
          · have es5 : (numsV (as ++ [pl + 1] ++ endsL d'.rows (pl + 1))).set pl (V.int (((pl + d'.many : Nat)) : Int)) = numsV (es ++ endsR (rp ++ [d']) es.length) := by
              rw [endsR_app, endsR_one, ends_rows, ← List.append_assoc, has, hpl, List.append_assoc, numsV_app, numsV_app]
              rw [List.set_append_right _ _ (by rw [numsV_len, hl1]; exact Nat.le_refl _), numsV_len, hl1, Nat.sub_self, numsV_app]
              rfl
            refine ⟨_, _, _, _, rp ++ [d'], rfl, ((kb3.trans kb4).trans kb5).trans KB.set, ⟨?_, ?_, ?_⟩, ?_, ?_⟩
            · rw [take_snoc hx]
              exact rowD_snoc hrp.1 h1
            · rw [deepR_ap, deepR, deepR]
              have g1 := hrp.2.1
              by_cases hz : d'.rows = []
              · have : d'.deep = 0 := by
                  cases d' with
                  | told => rw [Dd.deep]
                  | take => rw [Dd.deep]
                  | two => rw [Dd.deep]
                  | wh => cases hz
                  | iff => cases hz
                omega
              · have g2 := hdl hz
                have g3 := deep_rows d' hz
                omega
            · rw [manyR_app, manyR_one]
              omega
            · rw [take_snoc hx, errA_snoc hep, manyR_app, manyR_one, ← Nat.add_assoc, hpl, hmr]
              by_cases h8 : f = 8
              · have hxe : x.rows = [] := by
                  cases hxr : x.rows with
                  | nil => rfl
                  | cons _ _ => exact absurd (hf7 (by rw [hxr]; exact fun z => nomatch z)) (by omega)
                rw [hxe] at hrs
                cases hrs' : d'.rows with
                | nil =>
                  rw [h8, Nat.sub_self, errX, if_neg (fun z => z.elim hp4 (fun z => by rw [hfb] at z; cases z)), hxe, manyL]
                  rfl
                | cons _ _ => rw [hrs'] at hrs; cases hrs
              · have hf8' : 8 - f = (7 - f) + 1 := by omega
                have h9 := hel5 _ hf8'
                rw [hwl, List.take_length] at h9
                rw [hf8', errX, if_neg (fun z => z.elim hp4 (fun z => by rw [hfb] at z; cases z)), h9]
                congr 1
                omega
            · rw [upd_same, ← es5]
    · rintro σ H1 ⟨x3, x4, x5, x6, rp, rfl, kb1, hrp, hep, he1⟩
      rw [hlen, List.take_length] at hrp hep
      exact k rp hrp hep H1 kb1 he1
end
end Js
set_option Elab.async false
set_option linter.all false
set_option maxRecDepth 100000
set_option maxHeartbeats 2000000
namespace Js
open PySem L2
open PySem PySem.Spec PyProof.Rows L2
abbrev sDw17 : Stmt := top 65
def txV (ts : List Tr) : List V := ts.map fun u => .str u.text
def lensN : List Nat := [3, 3, 3, 4, 4, 3, 4]
def nmsN : List Nat := [2, 3, 3, 4, 4, 2, 2]
def okK (k kd : Nat) (rest : List Tr) : Bool := decide (kd ≤ 6) && decide (rest.length + 1 = lensN.getD kd 0) && (decide (kd ≤ 4) || decide (0 < k)) && ((rest.take (nmsN.getD kd 0 - 1)).all fun a => decide (numK a ≤ 9))
theorem nm_le (a : Tr) : (nmW (cntW a)).isSome = decide (numK a ≤ 9) := by
  unfold numK
  cases e : cntW a with
  | none => rfl
  | some n =>
    dsimp only
    rw [nmW]
    by_cases h : n < 10
    · rw [if_pos h, decide_eq_true (by omega)]
      rfl
    · rw [if_neg h, decide_eq_false (by omega)]
      rfl
theorem numK_le {t : Tr} (h : numK t ≤ 6) : cntW t = some (numK t) := by
  unfold numK at h ⊢
  cases e : cntW t with
  | none => rw [e] at h; exact absurd h (by decide)
  | some n => rfl
theorem form_nil {k : Nat} {c : Tr} (hp : prtW c = []) : formB (deedW k c) = false := by
  cases k with
  | zero => unfold deedW; rw [hp]; rfl
  | succ k => unfold deedW; rw [hp]; rfl
theorem form_okK {k : Nat} {c h : Tr} {rest : List Tr} (hp : prtW c = h :: rest) : formB (deedW k c) = okK k (numK h) rest := by
  by_cases h6 : numK h ≤ 6
  · have e := numK_le h6
    generalize numK h = i at h6 e
    have hi : i = 0 ∨ i = 1 ∨ i = 2 ∨ i = 3 ∨ i = 4 ∨ i = 5 ∨ i = 6 := by omega
    rcases hi with rfl | rfl | rfl | rfl | rfl | rfl | rfl <;> cases k <;> unfold deedW <;> rw [hp] <;> dsimp only <;> rw [e] <;> (match rest with
      | [] => rfl
      | [a] => rfl
      | [a, b] => simp [formB, bsW, okK, nm_le, lensN, nmsN]
      | [a, b, d] => simp [formB, bsW, okK, nm_le, lensN, nmsN, Bool.and_assoc]
      | a :: b :: d :: f :: r => simp [formB, okK, lensN])
  · have e0 : okK k (numK h) rest = false := by
      unfold okK
      rw [decide_eq_false h6]
      rfl
    rw [e0]
    cases e : cntW h with
    | none => cases k <;> unfold deedW <;> rw [hp] <;> dsimp only <;> rw [e] <;> rfl
    | some n =>
      have hn : 6 < n := by
        unfold numK at h6
        rw [e] at h6
        dsimp only at h6
        omega
      obtain ⟨m, rfl⟩ : ∃ m, n = m + 7 := ⟨n - 7, by omega⟩
      cases k <;> unfold deedW <;> rw [hp] <;> dsimp only <;> rw [e] <;> rfl
def innT (c : Tr) : List Tr := match prtW c with
    | h :: rest => if 4 < numK h then rest.drop 1 else []
    | [] => []
theorem inn_rows {k : Nat} {c : Tr} (hf : formB (deedW (k + 1) c) = true) : (deedW (k + 1) c).rows = (innT c).map (rowW k) := by
  cases hp : prtW c with
  | nil => rw [form_nil hp] at hf; cases hf
  | cons h rest =>
    have hf2 := hf
    rw [form_okK hp] at hf2
    have h6 : numK h ≤ 6 := by
      unfold okK at hf2
      simp only [Bool.and_eq_true, decide_eq_true_eq] at hf2
      exact hf2.1.1.1
    have e := numK_le h6
    unfold innT
    rw [hp]
    dsimp only
    generalize numK h = i at h6 e hf2
    have hi : i = 0 ∨ i = 1 ∨ i = 2 ∨ i = 3 ∨ i = 4 ∨ i = 5 ∨ i = 6 := by omega
    rcases hi with rfl | rfl | rfl | rfl | rfl | rfl | rfl <;> unfold deedW <;> rw [hp] <;> dsimp only <;> rw [e] <;> (match rest, hf2 with
      | [], hf2 => simp [okK, lensN] at hf2
      | [a], hf2 => simp [okK, lensN] at hf2
      | [a, b], hf2 => first | rfl | simp [okK, lensN] at hf2
      | [a, b, d], hf2 => first | rfl | simp [okK, lensN] at hf2
      | a :: b :: d :: f :: r, hf2 => simp [okK, lensN] at hf2)
theorem inn_zero {c : Tr} (hf : formB (deedW 0 c) = true) : (deedW 0 c).rows = [] ∧ innT c = [] := by
  cases hp : prtW c with
  | nil => rw [form_nil hp] at hf; cases hf
  | cons h rest =>
    have hf2 := hf
    rw [form_okK hp] at hf2
    have h6 : numK h ≤ 6 := by
      unfold okK at hf2
      simp only [Bool.and_eq_true, decide_eq_true_eq] at hf2
      exact hf2.1.1.1
    have e := numK_le h6
    unfold innT
    rw [hp]
    dsimp only
    generalize numK h = i at h6 e hf2
    have hi : i = 0 ∨ i = 1 ∨ i = 2 ∨ i = 3 ∨ i = 4 ∨ i = 5 ∨ i = 6 := by omega
    rcases hi with rfl | rfl | rfl | rfl | rfl | rfl | rfl <;> unfold deedW <;> rw [hp] <;> dsimp only <;> rw [e] <;> (match rest, hf2 with
      | [], hf2 => simp [okK, lensN] at hf2
      | [a], hf2 => simp [okK, lensN] at hf2
      | [a, b], hf2 => first | exact ⟨rfl, rfl⟩ | simp [okK, lensN] at hf2
      | [a, b, d], hf2 => first | exact ⟨rfl, rfl⟩ | simp [okK, lensN] at hf2
      | a :: b :: d :: f :: r, hf2 => simp [okK, lensN] at hf2)
def kdOf : List Tr → Nat
  | [] => 99
  | h :: _ => numK h
theorem lens_at {kd : Nat} (h : kd ≤ 6) : atI [V.int 3, .int 3, .int 3, .int 4, .int 4, .int 3, .int 4] ((kd : Nat) : Int) = some (.int ((lensN.getD kd 0 : Nat) : Int)) := by
  refine atI_nat ?_
  have hi : kd = 0 ∨ kd = 1 ∨ kd = 2 ∨ kd = 3 ∨ kd = 4 ∨ kd = 5 ∨ kd = 6 := by omega
  rcases hi with rfl | rfl | rfl | rfl | rfl | rfl | rfl <;> rfl
theorem nms_at {kd : Nat} (h : kd ≤ 6) : atI [V.int 2, .int 3, .int 3, .int 4, .int 4, .int 2, .int 2] ((kd : Nat) : Int) = some (.int ((nmsN.getD kd 0 : Nat) : Int)) := by
  refine atI_nat ?_
  have hi : kd = 0 ∨ kd = 1 ∨ kd = 2 ∨ kd = 3 ∨ kd = 4 ∨ kd = 5 ∨ kd = 6 := by omega
  rcases hi with rfl | rfl | rfl | rfl | rfl | rfl | rfl <;> rfl
theorem cut_1n (x : V) (ys : List V) (n : Nat) (hn : 1 ≤ n) : cutV (x :: ys) (some 1) (some ((n : Nat) : Int)) = ys.take (n - 1) := by
  unfold cutV
  rw [show (some (1 : Int)) = some ((1 : Nat) : Int) from rfl, HT.sIx_nat, HT.sIx_nat, List.length_cons]
  rw [show min 1 (ys.length + 1) = 1 by omega, List.drop_succ_cons, List.drop_zero]
  by_cases h : n ≤ ys.length + 1
  · rw [Nat.min_eq_left h]
  · rw [Nat.min_eq_right (by omega), List.take_of_length_le (by omega), List.take_of_length_le (by omega)]
theorem txV_take (ts : List Tr) (n : Nat) : (txV ts).take n = txV (ts.take n) := by
  unfold txV
  rw [List.map_take]
theorem broken_of {k : Nat} {c h : Tr} {rest : List Tr} (hp : prtW c = h :: rest) (hb : 6 < numK h ∨ rest.length + 1 ≠ lensN.getD (numK h) 0 ∨ (4 < numK h ∧ k = 0) ∨ ((rest.take (nmsN.getD (numK h) 0 - 1)).any fun a => decide (9 < ((numK a : Nat) : Int))) = true) : formB (deedW k c) = false := by
  rw [form_okK hp]
  unfold okK
  rcases hb with hb | hb | ⟨h1, h2⟩ | hb
  · rw [decide_eq_false (by omega)]
    rfl
  · rw [decide_eq_false hb, Bool.and_false]
    rfl
  · rw [decide_eq_false (show ¬ numK h ≤ 4 by omega), decide_eq_false (show ¬ 0 < k by omega), Bool.or_self, Bool.and_false]
    rfl
  · obtain ⟨a, ha, h9⟩ := List.any_eq_true.mp hb
    have h9 := of_decide_eq_true h9
    have : ((rest.take (nmsN.getD (numK h) 0 - 1)).all fun a => decide (numK a ≤ 9)) = false := by
      rw [List.all_eq_false]
      exact ⟨a, ha, by rw [decide_eq_false (by omega)]; exact fun z => nomatch z⟩
    rw [this, Bool.and_false]
theorem good_of {k : Nat} {c h : Tr} {rest : List Tr} (hp : prtW c = h :: rest) (h6 : ¬ 6 < numK h) (hl : rest.length + 1 = lensN.getD (numK h) 0) (h4 : ¬ (4 < numK h ∧ k = 0)) (hb : ((rest.take (nmsN.getD (numK h) 0 - 1)).any fun a => decide (9 < ((numK a : Nat) : Int))) = false) : formB (deedW k c) = true := by
  rw [form_okK hp]
  unfold okK
  rw [decide_eq_true (show numK h ≤ 6 by omega), decide_eq_true hl]
  have e1 : (decide (numK h ≤ 4) || decide (0 < k)) = true := by
    rw [Bool.or_eq_true, decide_eq_true_eq, decide_eq_true_eq]
    omega
  rw [e1, Bool.true_and, Bool.true_and, Bool.true_and, List.all_eq_true]
  intro a ha
  have := List.any_eq_false.mp hb a ha
  rw [decide_eq_true_eq]
  rw [decide_eq_true_eq] at this
  omega
theorem seq17 {a b : TS} {D : Ends} {σ : L2.St} {H : Hp} (P : L2.St → Hp → Prop) (ha : ∀ D' : Ends, (∀ σ' H', P σ' H' → D'.nx σ' H') → D'.rt = D.rt → a D' σ H) (hb : ∀ σ' H', P σ' H' → b D σ' H') : tSeq a b D σ H := ha { D with nx := b D } hb rfl
theorem iteT' {c : Bool} {p q : Prop} (h : c = true) (hp : p) : if c = true then p else q := by
  rw [if_pos h]
  exact hp
theorem iteF' {c : Bool} {p q : Prop} (h : c = false) (hq : q) : if c = true then p else q := by
  rw [if_neg (by rw [h]; decide)]
  exact hq
def spDw17 : Sp := fun vs H Q _ => ∃ (c : Tr) (k : Nat), vs = [.str c.text, .int ((9 - k : Nat) : Int)] ∧ c.size ≤ 4000 ∧ k ≤ 8 ∧ ∀ (p p2 : Addr) (ts : List Tr) H', Same H H' → H' p = some (.lst [.bl (!formB (deedW k c)), .ref p2]) → H' p2 = some (.lst (txV ts)) → (formB (deedW k c) = true → ts = innT c) → Q (.ref p) H'
section
variable {P : Program} {w : World} {K : PySem.W.Frag} {mg : Str → Option Value} {base : Heap} {C : Addr}
theorem scDw17 : FnScope ["_law_text", "_law_deep", "_law_some", "_law_kind", "_law_names", "_law_name_here"] ["_law_text", "_law_deep"] (defScope sDw17) := ⟨rfl, rfl, rfl, by decide +kernel, rfl, by decide +kernel, by decide +kernel⟩
theorem ok_dw17 {f : Addr} {fd : FuncData} (F : Fun K "_law_deed_wrong" "_law_deed_wrong" sDw17 f fd) (B : Blt mg) (many : mg "any" = none) (DLp : Def P w K mg base "_law_parts" 3 ["_law_text"] spLParts) (DNu : Def P w K mg base "_law_number" 2 ["_law_text"] spNu17) : FnOk P w K mg base CX0 4 f fd ["_law_text", "_law_deep"] spDw17 := by
  refine F.ok scDw17 (fun vs H Q E h => ?_) (fun cdv A outer s H vs Q E hr h => ?_)
  · obtain ⟨c, k, rfl, _⟩ := h
    rfl
  · obtain ⟨c, k, rfl, hz, hk8, kk⟩ := h
    have hr1 : Room 1 _ := hr.mono (by decide)
    have hr2 : Room 2 _ := hr.mono (by decide)
    have hr3 : Room 3 _ := hr.mono (by decide)
    refine ⟨_, pss_cons (ps_set (i := 2) scDw17.nd rfl (Or.inl rfl) (pe_def DLp hr3 rfl (pa_cons (pv 0) pa_nil))) (pss_cons (ps_set (i := 3) scDw17.nd rfl (Or.inl rfl) pe_int) (pss_cons (ps_if (pt_cmpR (op_neTl (rcT_list_ne (D := TFlat) (fun _ _ _ _ _ _ d => d) eqT_flat) hr1) (pv 2) (pe_lst pa_nil) (nomark _)) (pss_one (ps_set (i := 3) scDw17.nd rfl (Or.inl rfl) (pe_def DNu hr2 rfl (pa_cons (pe_ix (r := rIxL K) ix_list (pv 2) pe_int (fun _ _ => rfl)) pa_nil)))) pss_nil) (pss_cons (ps_if (PW.pt (pw_or (pt_cmpR op_gt (pv 3) pe_int (nomark _)) (pw_or (pt_cmpR op_ne (pe_callB call_len_seq (by rfl) B.len PySem.boot_len (pa_cons (pv 2) pa_nil)) (pe_ix (r := rIxL K) ix_list (pe_lst (pa_cons pe_int (pa_cons pe_int (pa_cons pe_int (pa_cons pe_int (pa_cons pe_int (pa_cons pe_int (pa_cons pe_int pa_nil)))))))) (pv 3) (fun _ _ => rfl)) (nomark _)) (pw_or1 (PW.pt (pw_and (pt_cmpR op_gt (pv 3) pe_int (nomark _)) (pw_and1 (pt_cmpR op_gt (pv 1) pe_int (nomark _))))))))) (pss_one (ps_ret (pe_lst (pa_cons pe_bl (pa_cons (pe_lst pa_nil) pa_nil))))) pss_nil) (pss_cons (ps_set (i := 4) scDw17.nd rfl (Or.inl rfl) (pe_slice sl_list (pv 2) (po_some pe_int) (po_some (pe_ix (r := rIxL K) ix_list (pe_lst (pa_cons pe_int (pa_cons pe_int (pa_cons pe_int (pa_cons pe_int (pa_cons pe_int (pa_cons pe_int (pa_cons pe_int pa_nil)))))))) (pv 3) (fun _ _ => rfl))))) (pss_cons (ps_if (pt_val (pe_callB (cr_any rfl) (by rfl) many (by decide +kernel) (pa_cons (pe_lc (own := [("_law_name_here", 5)]) (g := gName 5) (tt := tYes) rfl scDw17.nd (pi_list (pv 4)) (blkOk_by (N := ["_law_text", "_law_deep", "_law_some", "_law_kind", "_law_names", "_law_name_here"]) (sc := defScope sDw17) (by decide +kernel)) (fun _ _ _ _ _ => (pg_name (i := 5) scDw17.nd rfl (Or.inl rfl))) (fun _ _ _ _ _ => pts_nil) (fun _ _ _ _ _ => (pe_cmpR op_gt (pe_def DNu hr2 rfl (pa_cons (pv 5) pa_nil)) pe_int (nomark _)))) pa_nil))) (pss_one (ps_ret (pe_lst (pa_cons pe_bl (pa_cons (pe_lst pa_nil) pa_nil))))) pss_nil) (pss_one (ps_ret (pe_lst (pa_cons pe_bl (pa_cons (pe_op op_rep (pe_slice sl_list (pv 2) (po_some pe_int) po_none) (pe_callTy call_int1 (by rfl) B.int PyProof.Rows.boot_int (pa_cons (pe_cmpR op_gt (pv 3) pe_int (nomark _)) pa_nil))) pa_nil)))))))))), ?_⟩
    have hsl := line4
    refine ⟨_, rfl, c, rfl, hz, fun p0 H1 s1 np0 hp0 => ?_⟩
    replace hp0 : H1 p0 = some (.lst (txV (prtW c))) := hp0
    have hpz := prtW_size c
    dsimp only [gName]
    refine seq17 (a := tAsg _ _) (fun σ' H' => σ' = [some (.str c.text), some (.int ((9 - k : Nat) : Int)), some (.ref p0), some (.int 99), none, none] ∧ H1 = H') (fun D' hD _ => hD _ _ ⟨rfl, rfl⟩) ?_
    rintro _ _ ⟨rfl, rfl⟩
    refine seq17 (a := tIfS _ _ _) (fun σ' H' => σ' = [some (.str c.text), some (.int ((9 - k : Nat) : Int)), some (.ref p0), some (.int ((kdOf (prtW c) : Nat) : Int)), none, none] ∧ Same H1 H') (fun D' hD hrt => ?_) ?_
    · refine ⟨_, rfl, Nat.zero_le _, fun E1 nE1 => ?_⟩
      have s2 := Same.new nE1 (o := .lst [])
      have e2 : (upd H1 E1 (.lst [])) E1 = some (.lst []) := upd_same
      revert s2 e2
      generalize upd H1 E1 (.lst []) = H2
      intro s2 e2
      cases hp : prtW c with
      | nil =>
        rw [hp] at hp0
        refine ⟨true, ⟨p0, E1, [], [], [], rfl, rfl, s2 _ _ hp0, e2, ⟨rfl, fun i x y b g1 => by cases g1⟩, rfl⟩, fun H3 s3 => ⟨_, rfl, iteF ?_⟩⟩
        exact hD _ _ ⟨by rw [hp]; rfl, s2.trans s3⟩
      | cons h rest =>
        rw [hp] at hp0
        refine ⟨false, ⟨p0, E1, _, [], [], rfl, rfl, s2 _ _ hp0, e2, ⟨by simp, fun i x y b g1 g2 => by cases g2⟩, rfl⟩, fun H3 s3 => ⟨_, rfl, iteT ?_⟩⟩
        refine ⟨_, rfl, p0, _, 0, _, rfl, rfl, SqL.of ((s2.trans s3) _ _ hp0), at0 _ _, h, rfl, ?_, fun H4 s4 => ?_⟩
        · have := hpz h (by rw [hp]; exact List.mem_cons_self)
          omega
        · exact hD _ _ ⟨by rw [hp]; rfl, (s2.trans s3).trans s4⟩
    rintro σ1 H2 ⟨rfl, s2⟩
    have s02 := s1.trans s2
    have fin : ∀ (D' : Ends) (σ' : L2.St) (H' : Hp), D'.rt = Q → Same H H' → formB (deedW k c) = false → (tRet (tLst (tCons (tC (V.bl true)) (tCons (tLst tNil) tNil)))) D' σ' H' := fun D' σ' H' er sH hf => by
      refine ⟨Nat.zero_le _, fun E2 nE2 => ?_⟩
      have sA := Same.new nE2 (o := .lst [])
      have eA : (upd H' E2 (.lst [])) E2 = some (.lst []) := upd_same
      revert sA eA
      generalize upd H' E2 (.lst []) = HA
      intro sA eA
      refine ⟨by show 2 ≤ sizeLine; decide, fun E3 nE3 => ?_⟩
      have sB := Same.new nE3 (o := .lst [V.bl true, .ref E2])
      have eB : (upd HA E3 (.lst [V.bl true, .ref E2])) E3 = some (.lst [V.bl true, .ref E2]) := upd_same
      revert sB eB
      generalize upd HA E3 (.lst [V.bl true, .ref E2]) = HB
      intro sB eB
      rw [er]
      exact kk E3 E2 [] HB (sH.trans (sA.trans sB)) (by rw [hf]; exact eB) (sB _ _ eA) (fun z => by rw [hf] at z; cases z)
    cases hp : prtW c with
    | nil =>
      refine ⟨_, rfl, _, _, rfl, rfl, _, rfl, ?_⟩
      refine iteT' (decide_eq_true (show (6 : Int) < ((99 : Nat) : Int) by decide)) (iteT (fin _ _ _ rfl s02 (form_nil hp)))
    | cons h rest =>
    rw [hp] at hp0
    rw [show kdOf (h :: rest) = numK h from rfl]
    have hp2 := s2 _ _ hp0
    refine seq17 (a := tIfS _ _ _) (fun σ' H' => σ' = [some (.str c.text), some (.int ((9 - k : Nat) : Int)), some (.ref p0), some (.int ((numK h : Nat) : Int)), none, none] ∧ Same H2 H' ∧ ¬ 6 < numK h ∧ rest.length + 1 = lensN.getD (numK h) 0 ∧ ¬ (4 < numK h ∧ k = 0)) (fun D' hD hrt => ?_) ?_
    · refine ⟨_, rfl, _, _, rfl, rfl, _, rfl, ?_⟩
      by_cases h6 : 6 < numK h
      · exact iteT' (decide_eq_true (show (6 : Int) < ((numK h : Nat) : Int) by omega)) (iteT (fin _ _ _ hrt s02 (broken_of hp (.inl h6))))
      refine iteF' (decide_eq_false (show ¬ (6 : Int) < ((numK h : Nat) : Int) by omega)) ?_
      refine ⟨_, rfl, p0, _, rfl, .inl (SqL.of hp2), by show 7 ≤ sizeLine; decide, fun E1 nE1 => ?_⟩
      have s3 := Same.new nE1 (o := .lst [V.int 3, .int 3, .int 3, .int 4, .int 4, .int 3, .int 4])
      have e3 : (upd H2 E1 (.lst [V.int 3, .int 3, .int 3, .int 4, .int 4, .int 3, .int 4])) E1 = some (.lst [V.int 3, .int 3, .int 3, .int 4, .int 4, .int 3, .int 4]) := upd_same
      revert s3 e3
      generalize upd H2 E1 (.lst [V.int 3, .int 3, .int 3, .int 4, .int 4, .int 3, .int 4]) = H3
      intro s3 e3
      refine ⟨_, rfl, E1, _, _, _, rfl, rfl, SqL.of e3, lens_at (by omega), rfl, _, rfl, ?_⟩
      have s03 := s02.trans s3
      by_cases hl : rest.length + 1 = lensN.getD (numK h) 0
      · have el : (!decide (V.int (((txV (h :: rest)).length : Nat) : Int) = V.int ((lensN.getD (numK h) 0 : Nat) : Int))) = false := by
          rw [txV, List.length_map, List.length_cons, hl, decide_eq_true rfl]
          rfl
        refine iteF' el ?_
        refine ⟨_, rfl, _, _, rfl, rfl, _, rfl, ?_⟩
        by_cases h4 : 4 < numK h
        · refine iteT' (decide_eq_true (show (4 : Int) < ((numK h : Nat) : Int) by omega)) ?_
          refine ⟨_, rfl, _, _, rfl, rfl, _, rfl, ?_⟩
          by_cases hk0 : k = 0
          · exact iteT' (decide_eq_true (show (8 : Int) < ((9 - k : Nat) : Int) by omega)) (fin _ _ _ hrt s03 (broken_of hp (.inr (.inr (.inl ⟨h4, hk0⟩)))))
          · exact iteF' (decide_eq_false (show ¬ (8 : Int) < ((9 - k : Nat) : Int) by omega)) (hD _ _ ⟨rfl, s3, h6, hl, fun z => hk0 z.2⟩)
        · exact iteF' (decide_eq_false (show ¬ (4 : Int) < ((numK h : Nat) : Int) by omega)) (iteF (hD _ _ ⟨rfl, s3, h6, hl, fun z => h4 z.1⟩))
      · have el : (!decide (V.int (((txV (h :: rest)).length : Nat) : Int) = V.int ((lensN.getD (numK h) 0 : Nat) : Int))) = true := by
          rw [txV, List.length_map, List.length_cons, decide_eq_false (fun z => hl (by have := V.int.inj z; omega))]
          rfl
        exact iteT' el (iteT (fin _ _ _ hrt s03 (broken_of hp (.inr (.inl hl)))))
    rintro σ2 H3 ⟨rfl, s3, h6, hl, h4⟩
    have hp3 := s3 _ _ hp2
    have h2n : 1 ≤ nmsN.getD (numK h) 0 := by
      have hi : numK h = 0 ∨ numK h = 1 ∨ numK h = 2 ∨ numK h = 3 ∨ numK h = 4 ∨ numK h = 5 ∨ numK h = 6 := by omega
      rcases hi with e | e | e | e | e | e | e <;> rw [e] <;> decide
    obtain ⟨ns, hns⟩ : ∃ ns, rest.take (nmsN.getD (numK h) 0 - 1) = ns := ⟨_, rfl⟩
    refine seq17 (a := tAsg _ _) (fun σ' H' => ∃ pn : Addr, σ' = [some (.str c.text), some (.int ((9 - k : Nat) : Int)), some (.ref p0), some (.int ((numK h : Nat) : Int)), some (.ref pn), none] ∧ Same H3 H' ∧ H' pn = some (.lst (txV ns))) (fun D' hD hrt => ?_) ?_
    · refine ⟨_, rfl, _, rfl, by show 7 ≤ sizeLine; decide, fun E1 nE1 => ?_⟩
      have s4 := Same.new nE1 (o := .lst [V.int 2, .int 3, .int 3, .int 4, .int 4, .int 2, .int 2])
      have e4 : (upd H3 E1 (.lst [V.int 2, .int 3, .int 3, .int 4, .int 4, .int 2, .int 2])) E1 = some (.lst [V.int 2, .int 3, .int 3, .int 4, .int 4, .int 2, .int 2]) := upd_same
      revert s4 e4
      generalize upd H3 E1 (.lst [V.int 2, .int 3, .int 3, .int 4, .int 4, .int 2, .int 2]) = H4
      intro s4 e4
      refine ⟨_, rfl, E1, _, _, _, rfl, rfl, SqL.of e4, nms_at (by omega), _, rfl, p0, _, rfl, SqL.of (s4 _ _ hp3), fun pn npn => ?_⟩
      rw [show txV (h :: rest) = V.str h.text :: txV rest from rfl, cut_1n _ _ _ h2n, txV_take, hns]
      have s5 := Same.new npn (o := .lst (txV ns))
      have e5 : (upd H4 pn (.lst (txV ns))) pn = some (.lst (txV ns)) := upd_same
      revert s5 e5
      generalize upd H4 pn (.lst (txV ns)) = H5
      intro s5 e5
      exact hD _ _ ⟨pn, rfl, s4.trans s5, e5⟩
    rintro σ3 H4 ⟨pn, rfl, s4, hpn⟩
    have s24 := s3.trans s4
    have s04 := s02.trans s24
    refine seq17 (a := tIfS _ _ _) (fun σ' H' => σ' = [some (.str c.text), some (.int ((9 - k : Nat) : Int)), some (.ref p0), some (.int ((numK h : Nat) : Int)), some (.ref pn), none] ∧ Same H4 H' ∧ (ns.any fun a => decide (9 < ((numK a : Nat) : Int))) = false) (fun D' hD hrt => ?_) ?_
    · refine ⟨_, rfl, pn, rfl, ⟨_, SqL.of hpn⟩, fun D nD => lc_list (K := K) (a := pn) (xs := txV ns) (fun i H' => Same H4 H' ∧ H' D = some (.lst (((ns.take i).map fun a => decide (9 < ((numK a : Nat) : Int))).map V.bl))) ⟨Same.new nD, by rw [List.take_zero]; exact upd_same⟩ (fun i H' _ z => SqL.of (z.1 _ _ hpn)) (fun i v HB hv z => ?_) (fun HB z => ?_)⟩
      · obtain ⟨sB, hDB⟩ := z
        unfold txV at hv
        rw [List.getElem?_map] at hv
        obtain ⟨a, ha, rfl⟩ := Option.map_eq_some_iff.mp hv
        have hil := (List.getElem?_eq_some_iff.mp ha).1
        have ham : a ∈ prtW c := by
          rw [hp]
          refine List.mem_cons_of_mem _ ?_
          have := List.mem_of_getElem? ha
          rw [← hns] at this
          exact List.mem_of_mem_take this
        refine ⟨rfl, lc_yes ?_⟩
        refine ⟨_, rfl, a, rfl, by have := hpz a ham; omega, fun HC sC => ?_⟩
        refine ⟨_, _, rfl, rfl, ?_⟩
        refine ⟨_, sC _ _ hDB, ?_, (sB.trans sC).set nD, ?_⟩
        · rw [List.length_map, List.length_map, List.length_take]
          have h1 : ns.length ≤ rest.length := by rw [← hns, List.length_take]; omega
          have h2 : rest.length ≤ 6 := by
            have hi : numK h = 0 ∨ numK h = 1 ∨ numK h = 2 ∨ numK h = 3 ∨ numK h = 4 ∨ numK h = 5 ∨ numK h = 6 := by omega
            rcases hi with e | e | e | e | e | e | e <;> rw [e] at hl <;> simp [lensN] at hl <;> omega
          omega
        · rw [upd_same, List.take_add_one, ha, List.map_append, List.map_append]
          rfl
      · obtain ⟨sB, hDB⟩ := z
        rw [txV, List.length_map, List.take_length] at hDB
        refine ⟨D, _, rfl, SqL.of hDB, ?_⟩
        rw [List.any_map]
        cases hany : ns.any (id ∘ fun a => decide (9 < ((numK a : Nat) : Int))) with
        | true => exact ⟨_, rfl, iteT (fin _ _ _ hrt (s04.trans sB) (broken_of hp (.inr (.inr (.inr (by rw [hns]; exact hany))))))⟩
        | false => exact ⟨_, rfl, iteF (hD _ _ ⟨rfl, sB, hany⟩)⟩
    rintro σ4 H5 ⟨rfl, s5, hany⟩
    have hgood : formB (deedW k c) = true := good_of hp h6 hl h4 (by rw [hns]; exact hany)
    have hp5 := s5 _ _ (s4 _ _ hp3)
    have s05 := s04.trans s5
    obtain ⟨a0, rs, rfl⟩ : ∃ a0 rs, rest = a0 :: rs := by
      cases rest with
      | nil =>
        have hi : numK h = 0 ∨ numK h = 1 ∨ numK h = 2 ∨ numK h = 3 ∨ numK h = 4 ∨ numK h = 5 ∨ numK h = 6 := by omega
        rcases hi with e | e | e | e | e | e | e <;> rw [e] at hl <;> simp [lensN] at hl
      | cons a0 rs => exact ⟨a0, rs, rfl⟩
    have hrs : rs.length ≤ 100 := by
      have hi : numK h = 0 ∨ numK h = 1 ∨ numK h = 2 ∨ numK h = 3 ∨ numK h = 4 ∨ numK h = 5 ∨ numK h = 6 := by omega
      rcases hi with e | e | e | e | e | e | e <;> rw [e] at hl <;> simp [lensN] at hl <;> omega
    have hinn : innT c = if 4 < numK h then rs else [] := by
      unfold innT
      rw [hp]
      rfl
    refine ⟨_, rfl, _, rfl, p0, _, rfl, SqL.of hp5, fun p6 np6 => ?_⟩
    rw [show txV (h :: a0 :: rs) = V.str h.text :: V.str a0.text :: txV rs from rfl, cut2]
    have s6 := Same.new np6 (o := .lst (txV rs))
    have e6 : (upd H5 p6 (.lst (txV rs))) p6 = some (.lst (txV rs)) := upd_same
    revert s6 e6
    generalize upd H5 p6 (.lst (txV rs)) = H6
    intro s6 e6
    refine ⟨_, rfl, _, _, rfl, rfl, .inr ⟨_, rfl, ?_⟩⟩
    by_cases h4 : 4 < numK h
    · rw [decide_eq_true (show (4 : Int) < ((numK h : Nat) : Int) by omega), if_pos rfl]
      refine ⟨p6, 1, _, rfl, rfl, e6, by decide, by decide, by rw [txV, List.length_map]; show rs.length * 1 ≤ sizeLine; omega, fun p7 np7 => ?_⟩
      rw [show (List.replicate (1 : Int).toNat (txV rs)).flatten = txV rs by simp]
      have s7 := Same.new np7 (o := .lst (txV rs))
      have e7 : (upd H6 p7 (.lst (txV rs))) p7 = some (.lst (txV rs)) := upd_same
      revert s7 e7
      generalize upd H6 p7 (.lst (txV rs)) = H7
      intro s7 e7
      refine ⟨by show 2 ≤ sizeLine; decide, fun p8 np8 => ?_⟩
      have s8 := Same.new np8 (o := .lst [V.bl false, .ref p7])
      have e8 : (upd H7 p8 (.lst [V.bl false, .ref p7])) p8 = some (.lst [V.bl false, .ref p7]) := upd_same
      revert s8 e8
      generalize upd H7 p8 (.lst [V.bl false, .ref p7]) = H8
      intro s8 e8
      exact kk p8 p7 rs H8 (s05.trans ((s6.trans s7).trans s8)) (by rw [hgood]; exact e8) (s8 _ _ e7) (fun _ => by rw [hinn, if_pos h4])
    · rw [decide_eq_false (show ¬ (4 : Int) < ((numK h : Nat) : Int) by omega), if_neg (by decide)]
      refine ⟨p6, 0, _, rfl, rfl, e6, by decide, by decide, Nat.zero_le _, fun p7 np7 => ?_⟩
      rw [show (List.replicate (0 : Int).toNat (txV rs)).flatten = txV [] by rfl]
      have s7 := Same.new np7 (o := .lst (txV []))
      have e7 : (upd H6 p7 (.lst (txV []))) p7 = some (.lst (txV [])) := upd_same
      revert s7 e7
      generalize upd H6 p7 (.lst (txV [])) = H7
      intro s7 e7
      refine ⟨by show 2 ≤ sizeLine; decide, fun p8 np8 => ?_⟩
      have s8 := Same.new np8 (o := .lst [V.bl false, .ref p7])
      have e8 : (upd H7 p8 (.lst [V.bl false, .ref p7])) p8 = some (.lst [V.bl false, .ref p7]) := upd_same
      revert s8 e8
      generalize upd H7 p8 (.lst [V.bl false, .ref p7]) = H8
      intro s8 e8
      exact kk p8 p7 [] H8 (s05.trans ((s6.trans s7).trans s8)) (by rw [hgood]; exact e8) (s8 _ _ e7) (fun _ => by rw [hinn, if_neg h4])
end
end Js
set_option Elab.async false
set_option linter.all false
set_option maxRecDepth 100000
set_option maxHeartbeats 2000000
namespace Js
open PySem L2
open PySem PySem.Spec PyProof.Rows L2
abbrev sWr17 : Stmt := top 66
def szS17 : List Tr → Nat
  | [] => 0
  | t :: ts => 1 + t.size + szS17 ts
theorem row_sz17 : ∀ ts : List Tr, (rowT ts).size = szS17 ts
  | [] => rfl
  | t :: ts => by
    rw [rowT, Tr.size, szS17, row_sz17 ts]
theorem prt_sz17 (t : Tr) : szS17 (prtW t) = t.size := by rw [← row_sz17, prtW_row]
theorem inn_sz17 (c : Tr) : szS17 (innT c) ≤ c.size := by
  unfold innT
  have h := prt_sz17 c
  split
  · next hd rest e =>
    rw [e, szS17] at h
    split
    · cases rest with
      | nil => exact Nat.zero_le _
      | cons a rs =>
        rw [szS17] at h
        show szS17 rs ≤ _
        omega
    · exact Nat.zero_le _
  · exact Nat.zero_le _
theorem inn_mem17 {c u : Tr} (h : u ∈ innT c) : u.size < c.size := by
  have h1 := inn_sz17 c
  have : ∀ ts : List Tr, u ∈ ts → u.size < szS17 ts := by
    intro ts
    induction ts with
    | nil => exact fun h => absurd h List.not_mem_nil
    | cons a ts ih =>
      intro hu
      rw [szS17]
      rcases List.mem_cons.mp hu with rfl | hu
      · omega
      · have := ih hu
        omega
  have := this _ h
  omega
theorem errA_map {α β : Type} {g : β → Nat → Bool × Nat} (f : α → β) : ∀ (xs : List α) (l : Nat), errA g (xs.map f) l = errA (fun x => g (f x)) xs l
  | [], _ => rfl
  | x :: xs, l => by
    rw [List.map_cons, errA, errA]
    cases e : g (f x) l with
    | mk b m =>
      cases b with
      | true => rfl
      | false => exact errA_map f xs m
theorem errA_le17 {g : Tr → Nat → Bool × Nat} (hg : ∀ x l, (g x l).1 = false → (g x l).2 ≤ l + 1 + x.size) : ∀ (xs : List Tr) (l : Nat), (errA g xs l).1 = false → (errA g xs l).2 ≤ l + szS17 xs
  | [], l, _ => by rw [errA, szS17]; exact Nat.le_refl _
  | x :: xs, l, h => by
    rw [errA] at h ⊢
    have h0 := hg x l
    cases e : g x l with
    | mk b m =>
      rw [e] at h h0
      cases b with
      | true => cases h
      | false =>
        have := errA_le17 hg xs m h
        have := h0 rfl
        rw [szS17]
        show (errA g xs m).2 ≤ _
        omega
def wrM (k : Nat) (t : Tr) (l : Nat) : Bool × Nat := errA (errX k) (rowW k t) l
theorem wrM_parts (k : Nat) (t : Tr) (l : Nat) : wrM k t l = errA (fun c => errX k (deedW k c)) (prtW t) l := by
  unfold wrM rowW
  rw [errA_map]
theorem errX_good0 {c : Tr} {l : Nat} (hl : l ≠ 4000) (hf : formB (deedW 0 c) = true) : errX 0 (deedW 0 c) l = (false, l + 1) ∧ innT c = [] := by
  obtain ⟨h1, h2⟩ := inn_zero hf
  refine ⟨?_, h2⟩
  rw [errX, if_neg (fun z => z.elim hl (fun z => by rw [hf] at z; cases z)), h1]
  rfl
theorem errX_good {k : Nat} {c : Tr} {l : Nat} (hl : l ≠ 4000) (hf : formB (deedW (k + 1) c) = true) : errX (k + 1) (deedW (k + 1) c) l = errA (wrM k) (innT c) (l + 1) := by
  rw [errX, if_neg (fun z => z.elim hl (fun z => by rw [hf] at z; cases z)), inn_rows hf, errA_map]
  rfl
theorem errX_le17 : ∀ (k : Nat) (c : Tr) (l : Nat), (errX k (deedW k c) l).1 = false → (errX k (deedW k c) l).2 ≤ l + 1 + c.size
  | 0, c, l, h => by
    by_cases hb : l = 4000 ∨ formB (deedW 0 c) = false
    · rw [errX_bad hb] at h
      cases h
    · have hl : l ≠ 4000 := fun z => hb (.inl z)
      have hf : formB (deedW 0 c) = true := by
        cases e : formB (deedW 0 c) with
        | true => rfl
        | false => exact absurd (.inr e) hb
      rw [(errX_good0 hl hf).1]
      show l + 1 ≤ _
      omega
  | k + 1, c, l, h => by
    by_cases hb : l = 4000 ∨ formB (deedW (k + 1) c) = false
    · rw [errX_bad hb] at h
      cases h
    · have hl : l ≠ 4000 := fun z => hb (.inl z)
      have hf : formB (deedW (k + 1) c) = true := by
        cases e : formB (deedW (k + 1) c) with
        | true => rfl
        | false => exact absurd (.inr e) hb
      rw [errX_good hl hf] at h ⊢
      have := errA_le17 (g := wrM k) (fun x l hx => by
        rw [wrM_parts] at hx ⊢
        have := errA_le17 (g := fun c => errX k (deedW k c)) (fun x l hx => errX_le17 k x l hx) (prtW x) l hx
        rw [prt_sz17] at this
        omega) (innT c) (l + 1) h
      have := inn_sz17 c
      omega
theorem wrM_le (k : Nat) (t : Tr) (l : Nat) (h : (wrM k t l).1 = false) : (wrM k t l).2 ≤ l + t.size := by
  rw [wrM_parts] at h ⊢
  have := errA_le17 (g := fun c => errX k (deedW k c)) (fun x l hx => errX_le17 k x l hx) (prtW t) l h
  rw [prt_sz17] at this
  exact this
theorem szS_drop {ts : List Tr} {i : Nat} {c : Tr} (h : ts[i]? = some c) : szS17 (ts.drop i) = 1 + c.size + szS17 (ts.drop (i + 1)) := by
  obtain ⟨hl, rfl⟩ := List.getElem?_eq_some_iff.mp h
  rw [List.drop_eq_getElem_cons hl, szS17]
def spWr17 (n : Nat) : Sp := fun vs H Q _ => ∃ (t : Tr) (k l : Nat), vs = [.str t.text, .int ((9 - k : Nat) : Int), .int (l : Nat)] ∧ k ≤ 8 ∧ k < n ∧ l + t.size ≤ 4000 ∧ ∀ p H', Same H H' → H' p = some (.lst [.int ((wrM k t l).2 : Nat), .bl (wrM k t l).1]) → Q (.ref p) H'
section
variable {P : Program} {w : World} {K : PySem.W.Frag} {mg : Str → Option Value} {base : Heap} {C : Addr}
theorem scWr17 : FnScope ["_law_text", "_law_deep", "_law_at", "_law_code_here", "_law_broken", "_law_inner", "_law_deeds_here"] ["_law_text", "_law_deep", "_law_at"] (defScope sWr17) := ⟨rfl, rfl, rfl, by decide +kernel, rfl, by decide +kernel, by decide +kernel⟩
theorem ok_wr17 {f : Addr} {fd : FuncData} (F : Fun K "_law_wrong" "_law_wrong" sWr17 f fd) (mgf : mg "_law_wrong" = some (.ref f)) (b : Binds K fd ["_law_text", "_law_deep", "_law_at"] []) (B : Blt mg) (DLp : Def P w K mg base "_law_parts" 3 ["_law_text"] spLParts) (DDw : Def P w K mg base "_law_deed_wrong" 4 ["_law_text", "_law_deep"] spDw17) : ∀ n, FnOk P w K mg base CX0 (n + 5) f fd ["_law_text", "_law_deep", "_law_at"] (spWr17 n) := by
  intro n
  induction n with
  | zero =>
    refine F.ok scWr17 (fun vs H Q E h => ?_) (fun cdv A outer s H vs Q E hr h => ?_)
    · obtain ⟨t, k, l, rfl, _⟩ := h
      rfl
    · obtain ⟨t, k, l, _, _, h, _⟩ := h
      exact absurd h (Nat.not_lt_zero _)
  | succ n G' =>
  refine F.ok scWr17 (fun vs H Q E h => ?_) (fun cdv A outer s H vs Q E hr h => ?_)
  · obtain ⟨t, k, l, rfl, _⟩ := h
    rfl
  · obtain ⟨t, k, l, rfl, hk8, hkn, hz, kk⟩ := h
    have hr3 : Room 3 _ := hr.mono (by omega)
    have hr4 : Room 4 _ := hr.mono (by omega)
    refine ⟨_, pss_cons (ps_for PassesOwn.never rfl (pi_list (pe_def DLp hr3 rfl (pa_cons (pv 0) pa_nil))) (pg_name (i := 3) scWr17.nd rfl (Or.inl rfl)) (pss_cons (ps_asg (pe_def DDw hr4 rfl (pa_cons (pv 3) (pa_cons (pv 1) pa_nil))) (pg_lst rfl (pgs_cons (pg_name (i := 4) scWr17.nd rfl (Or.inl rfl)) (pgs_cons (pg_name (i := 5) scWr17.nd rfl (Or.inl rfl)) pgs_nil)))) (pss_cons (ps_if (pt_val (pv 4)) (pss_one (ps_ret (pe_lst (pa_cons (pv 2) (pa_cons pe_bl pa_nil))))) pss_nil) (pss_cons (ps_set (i := 2) scWr17.nd rfl (Or.inl rfl) (pe_op op_add (pv 2) pe_int)) (pss_one (ps_for PassesOwn.never rfl (pi_list (pv 5)) (pg_name (i := 6) scWr17.nd rfl (Or.inl rfl)) (pss_cons (ps_asg (pe_call G' hr rfl mgf F.kp b .nil pass0 (pa_cons (pv 6) (pa_cons (pe_op op_add (pv 1) pe_int) (pa_cons (pv 2) pa_nil)))) (pg_lst rfl (pgs_cons (pg_name (i := 2) scWr17.nd rfl (Or.inl rfl)) (pgs_cons (pg_name (i := 4) scWr17.nd rfl (Or.inl rfl)) pgs_nil)))) (pss_one (ps_if (pt_val (pv 4)) (pss_one (ps_ret (pe_lst (pa_cons (pv 2) (pa_cons pe_bl pa_nil))))) pss_nil))))))))) (pss_one (ps_ret (pe_lst (pa_cons (pv 2) (pa_cons pe_bl pa_nil))))), ?_⟩
    have hsl := line4
    refine ⟨_, rfl, t, rfl, by omega, fun p0 H1 s1 np0 hp0 => ?_⟩
    replace hp0 : H1 p0 = some (.lst (txV (prtW t))) := hp0
    have hpz := prtW_size t
    have out : ∀ (D' : Ends) (σ' : L2.St) (H' : Hp) (m : Nat) (bb : Bool), D'.rt = Q → Same H H' → σ'[2]? = some (some (.int (m : Nat))) → wrM k t l = (bb, m) → (tRet (tLst (tCons (tVar 2) (tCons (tC (V.bl bb)) tNil)))) D' σ' H' := fun D' σ' H' m bb er sH e2 em => by
      refine ⟨_, e2, by show 2 ≤ sizeLine; decide, fun E2 nE2 => ?_⟩
      have sA := Same.new nE2 (o := .lst [V.int ((m : Nat) : Int), .bl bb])
      have eA : (upd H' E2 (.lst [V.int ((m : Nat) : Int), .bl bb])) E2 = some (.lst [V.int ((m : Nat) : Int), .bl bb]) := upd_same
      revert sA eA
      generalize upd H' E2 (.lst [V.int ((m : Nat) : Int), .bl bb]) = HA
      intro sA eA
      rw [er]
      exact kk E2 HA (sH.trans sA) (by rw [em]; exact eA)
    refine ⟨p0, rfl, ⟨_, SqL.of hp0⟩, for_list (K := K) (a := p0) (xs := txV (prtW t)) (fun i σ H' => ∃ (m : Nat) (x3 x4 x5 x6 : Option V), σ = [some (.str t.text), some (.int ((9 - k : Nat) : Int)), some (.int ((m : Nat) : Int)), x3, x4, x5, x6] ∧ Same H1 H' ∧ errA (fun c => errX k (deedW k c)) ((prtW t).take i) l = (false, m) ∧ m + szS17 ((prtW t).drop i) ≤ 4000) ⟨l, _, _, _, _, rfl, Same.refl _, by rw [List.take_zero, errA], by rw [List.drop_zero, prt_sz17]; exact hz⟩ (fun i σ H' _ z => by obtain ⟨_, _, _, _, _, _, z, _⟩ := z; exact SqL.of (z _ _ hp0)) ?_ ?_⟩
    · rintro i v σ H2 hv ⟨m, x3, x4, x5, x6, rfl, s2, hem, hmz⟩
      unfold txV at hv
      rw [List.getElem?_map] at hv
      obtain ⟨c, hc, rfl⟩ := Option.map_eq_some_iff.mp hv
      have hcz := hpz c (List.mem_of_getElem? hc)
      rw [szS_drop hc] at hmz
      have hm4 : m ≠ 4000 := by omega
      have s02 := s1.trans s2
      dsimp only [gName]
      refine ⟨_, rfl, _, rfl, c, k, rfl, by omega, hk8, fun p p2 ts H3 s3 hp hp2 hts => ?_⟩
      have s03 := s02.trans s3
      refine ⟨p, _, rfl, SqL.of hp, rfl, _, _, rfl, _, _, rfl, rfl, ?_⟩
      cases hf : formB (deedW k c) with
      | false =>
        refine ⟨_, rfl, _, rfl, iteT (out _ _ _ m true rfl s03 rfl ?_)⟩
        rw [wrM_parts]
        exact errA_at hem hc (errX_bad (.inr hf))
      | true =>
        have hts := hts hf
        subst hts
        refine ⟨_, rfl, _, rfl, iteF ?_⟩
        cases k with
        | zero =>
          obtain ⟨hg, hi0⟩ := errX_good0 hm4 hf
          rw [hi0] at hp2
          refine ⟨_, rfl, _, _, rfl, rfl, _, rfl, p2, rfl, ⟨_, SqL.of hp2⟩, for_list (K := K) (a := p2) (xs := []) (fun j σ H' => σ = [some (.str t.text), some (.int ((9 - 0 : Nat) : Int)), some (.int ((m + 1 : Nat) : Int)), some (.str c.text), some (.bl false), some (.ref p2), x6] ∧ Same H3 H') ⟨rfl, Same.refl _⟩ (fun j σ H' _ z => SqL.of (z.2 _ _ hp2)) (fun j u σ H' hu => by cases hu) ?_⟩
          rintro σ H4 ⟨rfl, s4⟩
          refine ⟨m + 1, _, _, _, _, rfl, (s2.trans s3).trans s4, ?_, by omega⟩
          rw [List.take_add_one, hc]
          exact (errA_snoc hem).trans hg
        | succ k' =>
          have hg := errX_good hm4 hf
          have hiz := inn_sz17 c
          refine ⟨_, rfl, _, _, rfl, rfl, _, rfl, p2, rfl, ⟨_, SqL.of hp2⟩, for_list (K := K) (a := p2) (xs := txV (innT c)) (fun j σ H' => ∃ (m' : Nat) (x6 : Option V), σ = [some (.str t.text), some (.int ((9 - (k' + 1) : Nat) : Int)), some (.int ((m' : Nat) : Int)), some (.str c.text), some (.bl false), some (.ref p2), x6] ∧ Same H3 H' ∧ errA (wrM k') ((innT c).take j) (m + 1) = (false, m') ∧ m' + szS17 ((innT c).drop j) ≤ m + 1 + c.size) ⟨m + 1, _, rfl, Same.refl _, by rw [List.take_zero, errA], by rw [List.drop_zero]; omega⟩ (fun j σ H' _ z => by obtain ⟨_, _, _, z, _⟩ := z; exact SqL.of (z _ _ hp2)) ?_ ?_⟩
          · rintro j v σ H4 hv ⟨m', x6, rfl, s4, hem2, hmz2⟩
            unfold txV at hv
            rw [List.getElem?_map] at hv
            obtain ⟨u, hu, rfl⟩ := Option.map_eq_some_iff.mp hv
            have huz := inn_mem17 (List.mem_of_getElem? hu)
            rw [szS_drop hu] at hmz2
            dsimp only [gName]
            have s04 := s03.trans s4
            refine ⟨_, rfl, _, rfl, _, _, rfl, rfl, _, rfl, u, k', m', ?_, by omega, by omega, by omega, fun p5 H5 s5 hp5 => ?_⟩
            · rw [show 9 - k' = (9 - (k' + 1)) + 1 by omega]
              rfl
            have s05 := s04.trans s5
            refine ⟨p5, _, rfl, SqL.of hp5, rfl, _, _, rfl, _, _, rfl, rfl, ?_⟩
            cases hw : wrM k' u m' with
            | mk bb m2 =>
              cases bb with
              | true =>
                refine ⟨_, rfl, _, rfl, iteT (out _ _ _ m2 true rfl s05 rfl ?_)⟩
                rw [wrM_parts]
                refine errA_at hem hc ?_
                show errX (k' + 1) (deedW (k' + 1) c) m = (true, m2)
                rw [hg]
                exact errA_at hem2 hu hw
              | false =>
                have hle := wrM_le k' u m' (by rw [hw])
                rw [hw] at hle
                refine ⟨_, rfl, _, rfl, iteF ⟨m2, _, rfl, s4.trans s5, ?_, ?_⟩⟩
                · rw [List.take_add_one, hu]
                  exact (errA_snoc hem2).trans hw
                · have hle : m2 ≤ m' + u.size := hle
                  omega
          · rintro σ H4 ⟨m', x6, rfl, s4, hem2, hmz2⟩
            rw [txV, List.length_map] at hem2 hmz2
            rw [List.take_length] at hem2
            rw [List.drop_length] at hmz2
            have hmz3 : m' ≤ m + 1 + c.size := hmz2
            refine ⟨m', _, _, _, _, rfl, (s2.trans s3).trans s4, ?_, by omega⟩
            rw [List.take_add_one, hc]
            refine (errA_snoc hem).trans ?_
            show errX (k' + 1) (deedW (k' + 1) c) m = (false, m')
            rw [hg]
            exact hem2
    · rintro σ H2 ⟨m, x3, x4, x5, x6, rfl, s2, hem, hmz⟩
      rw [txV, List.length_map, List.take_length] at hem
      refine out _ _ _ m false rfl (s1.trans s2) rfl ?_
      rw [wrM_parts]
      exact hem
end
end Js
set_option Elab.async false
set_option linter.all false
set_option maxRecDepth 100000
set_option maxHeartbeats 2000000
namespace Js
open PySem L2
open PySem.Spec PyProof.Rows
theorem deep_norows : ∀ (d : Dd), d.rows = [] → d.deep = 0
  | .told _ _, _ => rfl
  | .take _ _ _, _ => rfl
  | .two _ _ _ _, _ => rfl
  | .wh _ _, h => nomatch h
  | .iff _ _ _, h => nomatch h
def GoodX (k : Nat) : Prop := ∀ (x : Rw) (l m : Nat), l ≤ 4000 → errX k x l = (false, m) → ∃ d, x.dd = some d ∧ d.deep ≤ k ∧ m = l + d.many ∧ m ≤ 4000
theorem good_rows {k : Nat} (hX : GoodX k) : ∀ (rws : List Rw) (l m : Nat), l ≤ 4000 → errA (errX k) rws l = (false, m) → ∃ r, rowD rws = some r ∧ deepR r ≤ k ∧ m = l + manyR r ∧ m ≤ 4000
  | [], l, m, hl, h => by
    rw [errA] at h
    cases h
    exact ⟨[], rfl, by rw [deepR]; exact Nat.zero_le _, by rw [many_nil]; rfl, hl⟩
  | x :: rws, l, m, hl, h => by
    rw [errA] at h
    cases e : errX k x l with
    | mk b p =>
      rw [e] at h
      cases b with
      | true => cases h
      | false =>
        obtain ⟨d, h1, h2, h3, h4⟩ := hX x l p hl e
        obtain ⟨r, g1, g2, g3, g4⟩ := good_rows hX rws p m h4 h
        exact ⟨d :: r, by rw [rowD, h1, g1], by rw [deepR]; exact Nat.max_le.mpr ⟨h2, g2⟩, by rw [many_cons]; omega, g4⟩
theorem good_lists {k : Nat} (hX : GoodX k) : ∀ (ls : List (List Rw)) (l m : Nat), l ≤ 4000 → errA (errA (errX k)) ls l = (false, m) → ∃ rs, Paired (fun l r => rowD l = some r) ls rs ∧ deepL rs ≤ k ∧ m = l + manyL rs ∧ m ≤ 4000
  | [], l, m, hl, h => by
    rw [errA] at h
    cases h
    exact ⟨[], .nil, by rw [deepL]; exact Nat.zero_le _, by rw [manyL]; rfl, hl⟩
  | x :: ls, l, m, hl, h => by
    rw [errA] at h
    cases e : errA (errX k) x l with
    | mk b p =>
      rw [e] at h
      cases b with
      | true => cases h
      | false =>
        obtain ⟨r, h1, h2, h3, h4⟩ := good_rows hX x l p hl e
        obtain ⟨rs, g1, g2, g3, g4⟩ := good_lists hX ls p m h4 h
        exact ⟨r :: rs, .cons h1 g1, by rw [deepL]; exact Nat.max_le.mpr ⟨h2, g2⟩, by rw [manyL]; omega, g4⟩
theorem goodX : ∀ k, GoodX k
  | 0 => fun x l m hl h => by
    by_cases hb : l = 4000 ∨ formB x = false
    · rw [errX_bad hb] at h
      cases h
    · rw [errX, if_neg hb] at h
      have hf : formB x = true := by
        cases e : formB x with
        | true => rfl
        | false => exact absurd (.inr e) hb
      have h4 : l ≠ 4000 := fun z => hb (.inl z)
      cases hr : x.rows with
      | nil =>
        rw [hr] at h
        cases h
        obtain ⟨d, h1, h2⟩ := dd_of hf (rs := []) (by rw [hr]; exact .nil)
        have := many_rows d
        rw [h2, manyL] at this
        exact ⟨d, h1, by rw [deep_norows d h2]; exact Nat.le_refl _, by omega, by omega⟩
      | cons _ _ =>
        rw [hr] at h
        cases h
  | k + 1 => fun x l m hl h => by
    by_cases hb : l = 4000 ∨ formB x = false
    · rw [errX_bad hb] at h
      cases h
    · rw [errX, if_neg hb] at h
      have hf : formB x = true := by
        cases e : formB x with
        | true => rfl
        | false => exact absurd (.inr e) hb
      have h4 : l ≠ 4000 := fun z => hb (.inl z)
      obtain ⟨rs, g1, g2, g3, g4⟩ := good_lists (goodX k) x.rows (l + 1) m (by omega) h
      obtain ⟨d, h1, h2⟩ := dd_of hf g1
      have := many_rows d
      rw [h2] at this
      refine ⟨d, h1, ?_, by omega, g4⟩
      by_cases hr : d.rows = []
      · rw [deep_norows d hr]
        exact Nat.zero_le _
      · rw [deep_rows d hr, h2]
        omega
def OkX (k : Nat) : Prop := ∀ (x : Rw) (d : Dd) (l : Nat), x.dd = some d → d.deep ≤ k → l + d.many ≤ 4000 → errX k x l = (false, l + d.many)
theorem ok_rows {k : Nat} (hX : OkX k) : ∀ (rws : List Rw) (r : List Dd) (l : Nat), rowD rws = some r → deepR r ≤ k → l + manyR r ≤ 4000 → errA (errX k) rws l = (false, l + manyR r)
  | [], r, l, h, _, _ => by
    cases Option.some.inj h
    rw [errA, many_nil]
    rfl
  | x :: rws, r, l, h, hd, hm => by
    obtain ⟨d, q, h1, h2, rfl⟩ := rowD_cons h
    rw [deepR] at hd
    rw [many_cons] at hm ⊢
    have hd1 : d.deep ≤ k := Nat.le_trans (Nat.le_max_left _ _) hd
    have hd2 : deepR q ≤ k := Nat.le_trans (Nat.le_max_right _ _) hd
    rw [errA, hX x d l h1 hd1 (by omega)]
    show errA (errX k) rws (l + d.many) = _
    rw [ok_rows hX rws q (l + d.many) h2 hd2 (by omega), Nat.add_assoc]
theorem ok_lists {k : Nat} (hX : OkX k) : ∀ (ls : List (List Rw)) (rs : List (List Dd)) (l : Nat), Paired (fun l r => rowD l = some r) ls rs → deepL rs ≤ k → l + manyL rs ≤ 4000 → errA (errA (errX k)) ls l = (false, l + manyL rs)
  | _, _, l, .nil, _, _ => by
    rw [errA, manyL]
    rfl
  | x :: ls, r :: rs, l, .cons h t, hd, hm => by
    rw [deepL] at hd
    rw [manyL] at hm ⊢
    have hd1 : deepR r ≤ k := Nat.le_trans (Nat.le_max_left _ _) hd
    have hd2 : deepL rs ≤ k := Nat.le_trans (Nat.le_max_right _ _) hd
    rw [errA, ok_rows hX x r l h hd1 (by omega)]
    show errA (errA (errX k)) ls (l + manyR r) = _
    rw [ok_lists hX ls rs (l + manyR r) t hd2 (by omega), Nat.add_assoc]
theorem okX : ∀ k, OkX k
  | 0 => fun x d l h hd hm => by
    have hp := many_pos d
    rw [errX, if_neg (fun z => z.elim (fun z => by omega) (fun z => by rw [formB_of h] at z; cases z))]
    have hr : d.rows = [] := by
      cases hr : d.rows with
      | nil => rfl
      | cons a b =>
        have := deep_rows d (by rw [hr]; exact fun z => nomatch z)
        omega
    have hl := Paired.length (dd_rows h)
    rw [hr] at hl
    have hx : x.rows = [] := List.length_eq_zero_iff.mp hl
    have := many_rows d
    rw [hr, manyL] at this
    rw [hx, this]
    rfl
  | k + 1 => fun x d l h hd hm => by
    have hp := many_pos d
    rw [errX, if_neg (fun z => z.elim (fun z => by omega) (fun z => by rw [formB_of h] at z; cases z))]
    have := many_rows d
    rw [ok_lists (okX k) x.rows d.rows (l + 1) (dd_rows h) ?_ (by omega)]
    · congr 1
      omega
    · by_cases hr : d.rows = []
      · rw [hr, deepL]
        exact Nat.zero_le _
      · have := deep_rows d hr
        omega
theorem wr_false {t : Tr} {m : Nat} (h : wrM 8 t 0 = (false, m)) : ∃ r, okRow (rowW 8 t) 0 0 r := by
  obtain ⟨r, h1, h2, h3, h4⟩ := good_rows (goodX 8) (rowW 8 t) 0 m (by decide) h
  exact ⟨r, h1, by omega, by omega⟩
theorem wr_true {t : Tr} {m : Nat} (h : wrM 8 t 0 = (true, m)) : ¬ ∃ r, okRow (rowW 8 t) 0 0 r := by
  rintro ⟨r, h1, h2, h3⟩
  have := ok_rows (okX 8) (rowW 8 t) r 0 h1 (by omega) h3
  unfold wrM at h
  rw [h] at this
  cases this
theorem nm_num17 {a : Nat} (h : a < 10) : nmW (cntW (num a)) = some a := by
  rw [cntW_numK, nmW, if_pos h]
theorem prtW_rowT : ∀ ts : List Tr, prtW (rowT ts) = ts
  | [] => rfl
  | t :: ts => by rw [rowT, prtW, prtW_rowT ts]
mutual
theorem deedW_code : ∀ (d : Dd) (n : Nat), d.ok → d.deep ≤ n → (deedW n d.code).dd = some d
  | .told a t, n, h, _ => by
    have hp : prtW (Dd.told a t).code = [num 0, num a, t] := by rw [Dd.code, prtW_rowT]
    have e : deedW n (Dd.told a t).code = .told (cntW (num a)) t := by cases n <;> (unfold deedW; rw [hp]; rfl)
    rw [e, Rw.dd, nm_num17 h.1]
  | .take s a b, n, h, _ => by
    have hp : prtW (Dd.take s a b).code = [num (if s then 2 else 1), num a, num b] := by rw [Dd.code, prtW_rowT]
    have e : deedW n (Dd.take s a b).code = .take s (cntW (num a)) (cntW (num b)) := by cases n <;> cases s <;> (unfold deedW; rw [hp]; rfl)
    rw [e, Rw.dd, nm_num17 h.1, nm_num17 h.2]
  | .two s a b c, n, h, _ => by
    have hp : prtW (Dd.two s a b c).code = [num (if s then 4 else 3), num a, num b, num c] := by rw [Dd.code, prtW_rowT]
    have e : deedW n (Dd.two s a b c).code = .two s (cntW (num a)) (cntW (num b)) (cntW (num c)) := by cases n <;> cases s <;> (unfold deedW; rw [hp]; rfl)
    rw [e, Rw.dd, nm_num17 h.1, nm_num17 h.2.1, nm_num17 h.2.2]
  | .wh a r, n, h, hd => by
    rw [Dd.deep] at hd
    have hp : prtW (Dd.wh a r).code = [num 5, num a, codeR r] := by rw [Dd.code, prtW_rowT]
    cases n with
    | zero => exact absurd hd (by omega)
    | succ n =>
      have e : deedW (n + 1) (Dd.wh a r).code = .wh (cntW (num a)) ((prtW (codeR r)).map (deedW n)) := by unfold deedW; rw [hp]; rfl
      rw [e, Rw.dd, nm_num17 h.1, rowW_code r n h.2 (by omega)]
  | .iff a r o, n, h, hd => by
    rw [Dd.deep] at hd
    have hp : prtW (Dd.iff a r o).code = [num 6, num a, codeR r, codeR o] := by rw [Dd.code, prtW_rowT]
    cases n with
    | zero => exact absurd hd (by omega)
    | succ n =>
      have e : deedW (n + 1) (Dd.iff a r o).code = .iff (cntW (num a)) ((prtW (codeR r)).map (deedW n)) ((prtW (codeR o)).map (deedW n)) := by unfold deedW; rw [hp]; rfl
      rw [e, Rw.dd, nm_num17 h.1, rowW_code r n h.2.1 (by omega), rowW_code o n h.2.2 (by omega)]
theorem rowW_code : ∀ (r : List Dd) (n : Nat), okR r → deepR r ≤ n → rowD ((prtW (codeR r)).map (deedW n)) = some r
  | [], n, _, _ => by rw [codeR, prtW, List.map_nil, rowD]
  | d :: r, n, h, hd => by
    rw [deepR] at hd
    rw [codeR, prtW, List.map_cons, rowD, deedW_code d n h.1 (by omega), rowW_code r n h.2 (by omega)]
end
theorem code_okRow {r : List Dd} (h1 : okR r) (h2 : deepR r ≤ 8) (h3 : manyR r ≤ 4000) : ∃ q, okRow (rowW 8 (codeR r)) 0 0 q := ⟨r, rowW_code r 8 h1 h2, by omega, by omega⟩
end Js
set_option Elab.async false
set_option linter.all false
set_option maxRecDepth 100000
set_option maxHeartbeats 4000000
namespace Js
open PySem L2
open PySem.Spec PyProof.Rows
def spPInitP (K : PySem.W.Frag) (C CP NP : Addr) : Sp := fun vs H Q E => ∃ (p dx q : Addr) (ws : List V) (rws : List Rw), vs = [.ref p, .ref q] ∧ H p = some (.ins CP dx []) ∧ SqT K H q ws ∧ RwsAt K C H ws rws ∧ dpW rws < 9 ∧
  (∀ r, okRow rws 0 0 r → errA (errX 8) rws 0 = (false, manyR r) → ∀ pl ys H', KB p H H' → H' p = some (.ins CP dx (pf q pl)) → H' pl = some (.tup ys) → RAt K C H' q r → Paired (PlE K C H') ys (layR r (manyR r) 0) → Q .non H') ∧
  (∀ m : Nat, errA (errX 8) rws 0 = (true, m) → ∀ (d : Addr) H', Same H H' → H' d = some (.xd [("place", .int (m : Nat))]) → E (.ref NP) (some d) H')
section
variable {P : Program} {w : World} {K : PySem.W.Frag} {mg : Str → Option Value} {base : Heap} {C CP NP fNP fL : Addr} {fdNP fdL : FuncData}
theorem ok_pinitP {f : Addr} {fd : FuncData} (F : Fun K "__init__" "Program.__init__" sPInit f fd) (B : Blt mg) (T : Txt K mg C) (G : FrmC K w mg) (TP : TxtP K mg CP) (M : NpM P w K mg base NP fNP fdNP) (GL : FnOk P w K mg base (L2N.CX P w) 13 fL fdL ["row", "floors", "ends"] (spLookP K C NP 9)) (mgL : mg "look_through" = some (.ref fL)) (kL : PySem.W.keepIn K (.ref fL) = true) (bL : Binds K fdL ["row", "floors", "ends"] []) (DY : Def P w K mg base "lay_out" 11 ["row", "behind", "ends", "plan"] (spLay K C 9)) : FnOk P w K mg base (L2N.CX P w) 14 f fd ["self", "deeds"] (spPInitP K C CP NP) := by
  refine okC F scPI (fun vs H Q E h => ?_) (fun cdv A outer s H vs Q E hr h => ?_)
  · obtain ⟨p, dx, q, ws, rws, rfl, _⟩ := h
    rfl
  · obtain ⟨p, dx, q, vs, rws, rfl, hp, hqv, hvs, hdp, ky, ke⟩ := h
    have hr11 : Room 11 _ := hr.mono (by decide)
    have hr2 : Room 2 _ := hr.mono (by decide)
    refine ⟨_, pss_cons (ps_if (pt_not (pt_val (pe_callB (r := rIsi K) call_isi (by rfl) T.isi PyProof.Rows.boot_isinstance (pa_cons (pv 1) (pa_cons (pe_bltn (v := .ty "tuple") rfl G.mt PyProof.Rows.boot_tuple rfl) pa_nil))))) (pss_one (L2N.ps_raise rfl (L2N.takes_of rfl rfl rfl rfl) (pmk_gexN M.T.O M.iN M.tN M.ok hr2 M.bN .nil pass0 rfl M.T.mgN (pa_cons pe_int pa_nil)))) pss_nil) (pss_cons (ps_set (i := 2) scPI.nd rfl (Or.inl rfl) (pe_lst pa_nil)) (pss_cons (ps_expr (pe_callS GL hr rfl mgL kL bL (fun σ => L2N.passAt (L2N.takes_of rfl rfl rfl rfl) σ) (pa_cons (pv 1) (pa_cons pe_int (pa_cons (pv 2) pa_nil))))) (pss_cons (ps_set (i := 3) scPI.nd rfl (Or.inl rfl) (pe_lst pa_nil)) (pss_cons (ps_expr (pe_def DY hr11 rfl (pa_cons (pv 1) (pa_cons (pe_callB call_len_seq (by rfl) B.len PySem.boot_len (pa_cons (pv 2) pa_nil)) (pa_cons (pv 2) (pa_cons (pv 3) pa_nil)))))) (pss_cons (ps_fld (pv 0) (pv 1) rfl) (pss_one (ps_fld (pv 0) (pe_callTy call_tuple_of (by rfl) G.mt PyProof.Rows.boot_tuple (pa_cons (pv 3) pa_nil)) rfl))))))), ?_⟩
    have hsl := line4
    refine ⟨_, rfl, _, _, _, _, true, rfl, .ty "tuple", sqt_ty hqv, G.tt, _, rfl, iteF ?_⟩
    refine ⟨Nat.zero_le _, fun e ne => ?_⟩
    have s1 : Same H (upd H e (.lst [])) := Same.new ne
    have he1 : (upd H e (.lst [])) e = some (.lst (numsV [])) := upd_same
    revert s1 he1
    generalize upd H e (.lst []) = H1
    intro s1 he1
    refine ⟨_, rfl, _, rfl, q, e, 0, vs, rws, [], rfl, sqt_kt (KT.of s1) hqv, RwsAt_kt (KT.of s1) _ _ hvs, hdp, by decide, he1, by decide, fun r hok hee H2 kb2 he2 => ?_, fun m hem d H2 kb2 hd2 => ke m hem d H2 (fun b o h => kb2 _ _ (ne_of_none h ne) (s1 _ _ h)) hd2⟩
    have hq : RAt K C H q r := ⟨vs, hqv, RwsAt_dd rws vs r hvs hok.1⟩
    have hd : deepR r ≤ 8 := by have := hok.2.1; omega
    have hm : manyR r ≤ 4000 := by have := hok.2.2; omega
    have k := ky r hok (by rw [List.length_nil, Nat.zero_add] at hee; exact hee)
    rw [List.nil_append] at he2
    have kt2 : KT H1 H2 := kb2.kt he1
    have hep : e ≠ p := fun z => by rw [z, hp] at ne; cases ne
    refine ⟨Nat.zero_le _, fun pn npn => ?_⟩
    have s3 : Same H2 (upd H2 pn (.lst [])) := Same.new npn
    have hpn3 : (upd H2 pn (.lst [])) pn = some (.lst []) := upd_same
    have hpe : e ≠ pn := fun z => by rw [← z, he2] at npn; cases npn
    have hpp : pn ≠ p := fun z => by
      have : H2 p = some (.ins CP dx []) := kb2 _ _ (Ne.symm hep) (s1 _ _ hp)
      rw [z, this] at npn
      cases npn
    revert s3 hpn3
    generalize upd H2 pn (.lst []) = H3
    intro s3 hpn3
    have he3 := s3 _ _ he2
    have hq3 : RAt K C H3 q r := ((hq.same s1).kt kt2).same s3
    refine ⟨_, rfl, _, rfl, e, _, rfl, .inl (SqL.of he3), ?_⟩
    rw [numsV_len, endsR_len]
    refine ⟨_, rfl, _, rfl, q, e, pn, manyR r, r, endsR r 0, [], rfl, hq3, by omega, he3, Pre.whole _, hpn3, hpe, by simpa using hm, fun H4 ys kb4 hp4 hys => ?_⟩
    rw [List.nil_append] at hp4
    have kt4 : KT H3 H4 := kb4.kt hpn3
    have hpz : H4 p = some (.ins CP dx []) := kb4 _ _ (Ne.symm hpp) (s3 _ _ (kb2 _ _ (Ne.symm hep) (s1 _ _ hp)))
    refine ⟨_, rfl, _, rfl, p, CP, dx, [], rfl, hpz, TP.cl, TP.nD, (by show 0 < 1000; decide), ?_⟩
    have hp5 : (upd H4 p (.ins CP dx (putF "deeds" (.ref q) []))) pn = some (.lst ys) := by rw [upd_ne hpp]; exact hp4
    refine ⟨_, rfl, pn, _, rfl, .inl ⟨SqL.of hp5, fun pl npl => ?_⟩⟩
    have hplp : pl ≠ p := fun z => by rw [z, upd_same] at npl; cases npl
    refine ⟨_, rfl, p, CP, dx, _, rfl, by rw [upd_ne (Ne.symm hplp)]; exact upd_same, TP.cl, TP.nP, Nat.lt_of_le_of_lt (length_putF _ _ _) (by show 0 + 1 < 1000; decide), ?_⟩
    have kbz : KB p H4 (upd (upd (upd H4 p (.ins CP dx (putF "deeds" (.ref q) []))) pl (.tup ys)) p (.ins CP dx (pf q pl))) := fun a o na ha => by
      have npl4 : H4 pl = none := by
        rw [upd_ne hplp] at npl
        exact npl
      rw [upd_ne na, upd_ne (ne_of_none ha npl4), upd_ne na]
      exact ha
    have kbH : KB p H H4 := fun a o na ha => by
      have nae : a ≠ e := ne_of_none ha ne
      have h2 := kb2 _ _ nae (s1 _ _ ha)
      have nan : a ≠ pn := ne_of_none h2 npn
      exact kb4 _ _ nan (s3 _ _ h2)
    have fr := Fr.kb hpz kbz
    refine k pl ys _ (kbH.trans kbz) ?_ ?_ ((hq3.kt kt4).fr fr) (pls_fr fr hys)
    · exact upd_same
    · rw [upd_ne hplp, upd_same]
end
end Js
set_option Elab.async false
set_option linter.all false
set_option maxRecDepth 100000
set_option maxHeartbeats 2000000
namespace Js
open PySem L2
open PySem.Spec PyProof.Rows
theorem dpW_map {n : Nat} {f : Tr → Rw} (h : ∀ t, (f t).dp ≤ n) : ∀ ts : List Tr, dpW (ts.map f) ≤ n
  | [] => by rw [List.map_nil, dpW]; omega
  | t :: ts => by
    rw [List.map_cons, dpW]
    exact Nat.max_le.mpr ⟨h t, dpW_map h ts⟩
theorem deedW_dp : ∀ (n : Nat) (t : Tr), (deedW n t).dp ≤ n
  | 0, t => by
    rw [deedW]
    split
    · simp [Rw.dp]
    · split <;> simp [Rw.dp]
  | n + 1, t => by
    have ih := deedW_dp n
    rw [deedW]
    split
    · simp [Rw.dp]
    · split
      · simp [Rw.dp]
      · simp [Rw.dp]
      · simp [Rw.dp]
      · simp [Rw.dp]
      · simp [Rw.dp]
      · rw [Rw.dp]
        exact Nat.succ_le_succ (dpW_map ih _)
      · rw [Rw.dp]
        exact Nat.succ_le_succ (Nat.max_le.mpr ⟨dpW_map ih _, dpW_map ih _⟩)
      · simp [Rw.dp]
theorem rowW_dp (n : Nat) (t : Tr) : dpW (rowW n t) ≤ n := dpW_map (deedW_dp n) _
end Js
set_option Elab.async false
set_option linter.all false
set_option maxRecDepth 100000
set_option maxHeartbeats 2000000
namespace Js
open PySem L2
open PySem.Spec PyProof.Rows
structure MakerPP (P : Program) (w : World) (K : PySem.W.Frag) (mg : Str → Option Value) (base : Heap) (C CP NP fI : Addr) (fdI : FuncData) : Prop where
  M : Mk K CP fI
  G : FnOk P w K mg base (L2N.CX P w) 14 fI fdI ["self", "deeds"] (spPInitP K C CP NP)
  mgP : mg "Program" = some (.ref CP)
  b : Binds K fdI ["self", "deeds"] []
def tPP (K : PySem.W.Frag) (C CP NP : Addr) (E : L2.St → XK) (t : TA) : TE := fun σ H Q => t σ H fun vs H1 => ∃ (q : Addr) (ws : List V) (rws : List Rw), vs = [.ref q] ∧ SqT K H1 q ws ∧ RwsAt K C H1 ws rws ∧ dpW rws < 9 ∧
  (∀ r, okRow rws 0 0 r → errA (errX 8) rws 0 = (false, manyR r) → ∀ z H', Same H1 H' → H1 z = none → PgAt K C CP H' z r → Q (.ref z) H') ∧
  (∀ m : Nat, errA (errX 8) rws 0 = (true, m) → ∀ (d : Addr) H', Same H1 H' → H' d = some (.xd [("place", .int (m : Nat))]) → E σ (.ref NP) (some d) H')
theorem mk_pgP {K : PySem.W.Frag} {C CP NP q : Addr} {H : Hp} {ws : List V} {rws : List Rw} {Q : VK} {E : XK} (hq : SqT K H q ws) (hw : RwsAt K C H ws rws) (hd : dpW rws < 9)
    (k : ∀ r, okRow rws 0 0 r → errA (errX 8) rws 0 = (false, manyR r) → ∀ z H', Same H H' → H z = none → PgAt K C CP H' z r → Q (.ref z) H')
    (ke : ∀ m : Nat, errA (errX 8) rws 0 = (true, m) → ∀ (d : Addr) H', Same H H' → H' d = some (.xd [("place", .int (m : Nat))]) → E (.ref NP) (some d) H') :
    ∀ x dx, H x = none → H dx = none → dx ≠ x → spPInitP K C CP NP (.ref x :: ([.ref q] ++ [])) (upd (upd H dx (.own x)) x (.ins CP dx [])) (fun v H3 => v = .non ∧ Q (.ref x) H3) E := by
  intro x dx nx ndx ne
  have s0 : Same H (upd (upd H dx (.own x)) x (.ins CP dx [])) := (Same.new ndx).trans (Same.new (by rw [upd_ne (Ne.symm ne)]; exact nx))
  refine ⟨x, dx, q, ws, rws, rfl, upd_same, sqt_kt (KT.of s0) hq, RwsAt_kt (KT.of s0) _ _ hw, hd, fun r hok hee pl ys H' kb hx hpl hr hys => ⟨rfl, ?_⟩, fun m hem d H' s h => ke m hem d H' (s0.trans s) h⟩
  refine k r hok hee x H' (fun b o h => kb _ _ (ne_of_none h nx) (s0 _ _ h)) nx ?_
  exact ⟨⟨dx, q, pl, ys, hx, hr, hpl, hys⟩, by have := hok.2.1; omega, by have := hok.2.2; omega⟩
section
variable {X : Cx} {C CP NP fI : Addr} {fdI : FuncData} {p pos : Pos} {e : Expr} {es : List Expr} {t : TA} {E : L2.St → XK}
theorem pe_PP (mk : MakerPP X.prog X.w X.K X.mg X.base C CP NP fI fdI) (hr : Room 15 X.A) (hg : Gl X "Program") (out : ∀ σ, PassesAt (L2N.CX X.prog X.w) X σ (E σ)) (ha : PA X (e :: es) t)
    (he : starEach (e :: es) X.env = (false, eval e X.env) :: starEach es X.env := by rfl) (hpl : (backTo pos (starEach es X.env)).any (·.1) = false := by rfl) : PE X (.Call (.Name "Program" p) (e :: es) [] pos) (tPP X.K C CP NP E t) := by
  refine ⟨fun pins s σ H Q I h => ?_⟩
  refine wpAny_Call_Name_kw (ld_glob I hg mk.mgP ?_ (by decide))
  refine PySem.W.callWith_K (h₀ := X.base) I.ok.mod.kin mk.M.kp (thn (ha.run pos pins s σ H _ I h) fun us s1 ⟨vs, H1, I1, r, q⟩ => ⟨I1.kIn, ?_⟩) he hpl
  obtain ⟨q, ws, rws, rfl, h1, h2, h3, k, ke⟩ := q
  exact make_at mk.M mk.G hr mk.b .nil (out σ) I1 r (mk_pgP h1 h2 h3 k ke)
end
end Js
set_option Elab.async false
set_option linter.all false
set_option maxRecDepth 100000
set_option maxHeartbeats 2000000
namespace Js
open PySem L2
open PySem.Spec PyProof.Rows
def spProgP (K : PySem.W.Frag) (C CP NP : Addr) : Sp := fun vs H Q E => ∃ (y : Addr) (t : Tr), vs = [.ref y] ∧ Th C H y t ∧ t.size ≤ 4000 ∧
  (∀ r, okRow (rowW 8 t) 0 0 r → errA (errX 8) (rowW 8 t) 0 = (false, manyR r) → ∀ z H', Same H H' → H z = none → PgAt K C CP H' z r → Q (.ref z) H') ∧
  (∀ m : Nat, errA (errX 8) (rowW 8 t) 0 = (true, m) → ∀ (d : Addr) H', Same H H' → H' d = some (.xd [("place", .int (m : Nat))]) → E (.ref NP) (some d) H')
section
variable {P : Program} {w : World} {K : PySem.W.Frag} {mg : Str → Option Value} {base : Heap} {C CP NP fNP fP : Addr} {fdNP fdP : FuncData}
theorem ok_progP {f : Addr} {fd : FuncData} (F : Fun K "program_of" "program_of" sProgOf f fd) (T : Txt K mg C) (M : NpM P w K mg base NP fNP fdNP) (MP : MakerPP P w K mg base C CP NP fP fdP) (DRt : Def P w K mg base "row_told" 30 ["thing", "floors"] (spRwT K C 9)) : FnOk P w K mg base (L2N.CX P w) 34 f fd ["thing"] (spProgP K C CP NP) := by
  refine okC F scPo (fun vs H Q E h => ?_) (fun cdv A outer s H vs Q E hr' h => ?_)
  · obtain ⟨y, t, rfl, _⟩ := h
    rfl
  · obtain ⟨y, t, rfl, hy, hz, k, ke⟩ := h
    have hr : Room 30 _ := hr'.mono (by decide)
    have hr2 : Room 2 _ := hr'.mono (by decide)
    have hr15 : Room 15 _ := hr'.mono (by decide)
    refine ⟨_, pss_cons (ps_if (pt_not (pt_val (pe_callB (r := rIsi K) call_isi (by rfl) T.isi PyProof.Rows.boot_isinstance (pa_cons (pv 0) (pa_cons (pe_glob (v := .ref C) rfl T.mgC rfl) pa_nil))))) (pss_one (L2N.ps_raise rfl (L2N.takes_of rfl rfl rfl rfl) (pmk_gexN M.T.O M.iN M.tN M.ok hr2 M.bN .nil pass0 rfl M.T.mgN (pa_cons pe_int pa_nil)))) pss_nil) (pss_one (ps_ret (pe_PP MP hr15 rfl (fun σ => L2N.passAt (L2N.takes_of rfl rfl rfl rfl) σ) (pa_cons (pe_def DRt hr rfl (pa_cons (pv 0) (pa_cons pe_int pa_nil))) pa_nil)))), ?_⟩
    obtain ⟨dx, f1, g1, h1⟩ := hy.obj
    refine ⟨_, rfl, _, _, _, _, true, rfl, ClsV.own C, .base (.ins h1 T.cl T.ca T.cn T.ct T.cm), kit_self _ _, _, rfl, iteF ?_⟩
    refine ⟨_, rfl, 8, y, 0, t, rfl, rfl, hy, hz, rfl, fun q ws H1 s1 hq hws => ?_⟩
    have hdp := rowW_dp 8 t
    exact ⟨q, ws, rowW 8 t, rfl, hq, hws, by omega, fun r hok hee z H2 s2 nz hz2 => k r hok hee z H2 (s1.trans s2) (s1.free nz) hz2, fun m hem d H2 s2 hd => ke m hem d H2 (s1.trans s2) hd⟩
end
end Js
set_option Elab.async false
set_option linter.all false
set_option maxRecDepth 100000
set_option maxHeartbeats 4000000
namespace Js
open PySem L2
open PySem.Spec PyProof.Rows
def spPInitW (K : PySem.W.Frag) (C CP NP : Addr) : Sp := fun vs H Q E => ∃ (p dx q : Addr) (ws : List V) (rws : List Rw), vs = [.ref p, .ref q] ∧ H p = some (.ins CP dx []) ∧ SqT K H q ws ∧ RwsAt K C H ws rws ∧ dpW rws < 9 ∧
  (∀ r, okRow rws 0 0 r → ∀ pl ys H', KB p H H' → H' p = some (.ins CP dx (pf q pl)) → H' pl = some (.tup ys) → RAt K C H' q r → Paired (PlE K C H') ys (layR r (manyR r) 0) → Q .non H') ∧
  ((¬ ∃ r, okRow rws 0 0 r) → ∀ (m : Nat) (d : Addr) H', Same H H' → H' d = some (.xd [("place", .int (m : Nat))]) → E (.ref NP) (some d) H')
section
variable {P : Program} {w : World} {K : PySem.W.Frag} {mg : Str → Option Value} {base : Heap} {C CP NP fNP fL : Addr} {fdNP fdL : FuncData}
theorem ok_pinitW {f : Addr} {fd : FuncData} (F : Fun K "__init__" "Program.__init__" sPInit f fd) (B : Blt mg) (T : Txt K mg C) (G : FrmC K w mg) (TP : TxtP K mg CP) (M : NpM P w K mg base NP fNP fdNP) (GL : FnOk P w K mg base (L2N.CX P w) 13 fL fdL ["row", "floors", "ends"] (spLookW K C NP 9)) (mgL : mg "look_through" = some (.ref fL)) (kL : PySem.W.keepIn K (.ref fL) = true) (bL : Binds K fdL ["row", "floors", "ends"] []) (DY : Def P w K mg base "lay_out" 11 ["row", "behind", "ends", "plan"] (spLay K C 9)) : FnOk P w K mg base (L2N.CX P w) 14 f fd ["self", "deeds"] (spPInitW K C CP NP) := by
  refine okC F scPI (fun vs H Q E h => ?_) (fun cdv A outer s H vs Q E hr h => ?_)
  · obtain ⟨p, dx, q, ws, rws, rfl, _⟩ := h
    rfl
  · obtain ⟨p, dx, q, vs, rws, rfl, hp, hqv, hvs, hdp, ky, ke⟩ := h
    have hr11 : Room 11 _ := hr.mono (by decide)
    have hr2 : Room 2 _ := hr.mono (by decide)
    refine ⟨_, pss_cons (ps_if (pt_not (pt_val (pe_callB (r := rIsi K) call_isi (by rfl) T.isi PyProof.Rows.boot_isinstance (pa_cons (pv 1) (pa_cons (pe_bltn (v := .ty "tuple") rfl G.mt PyProof.Rows.boot_tuple rfl) pa_nil))))) (pss_one (L2N.ps_raise rfl (L2N.takes_of rfl rfl rfl rfl) (pmk_gexN M.T.O M.iN M.tN M.ok hr2 M.bN .nil pass0 rfl M.T.mgN (pa_cons pe_int pa_nil)))) pss_nil) (pss_cons (ps_set (i := 2) scPI.nd rfl (Or.inl rfl) (pe_lst pa_nil)) (pss_cons (ps_expr (pe_callS GL hr rfl mgL kL bL (fun σ => L2N.passAt (L2N.takes_of rfl rfl rfl rfl) σ) (pa_cons (pv 1) (pa_cons pe_int (pa_cons (pv 2) pa_nil))))) (pss_cons (ps_set (i := 3) scPI.nd rfl (Or.inl rfl) (pe_lst pa_nil)) (pss_cons (ps_expr (pe_def DY hr11 rfl (pa_cons (pv 1) (pa_cons (pe_callB call_len_seq (by rfl) B.len PySem.boot_len (pa_cons (pv 2) pa_nil)) (pa_cons (pv 2) (pa_cons (pv 3) pa_nil)))))) (pss_cons (ps_fld (pv 0) (pv 1) rfl) (pss_one (ps_fld (pv 0) (pe_callTy call_tuple_of (by rfl) G.mt PyProof.Rows.boot_tuple (pa_cons (pv 3) pa_nil)) rfl))))))), ?_⟩
    have hsl := line4
    refine ⟨_, rfl, _, _, _, _, true, rfl, .ty "tuple", sqt_ty hqv, G.tt, _, rfl, iteF ?_⟩
    refine ⟨Nat.zero_le _, fun e ne => ?_⟩
    have s1 : Same H (upd H e (.lst [])) := Same.new ne
    have he1 : (upd H e (.lst [])) e = some (.lst (numsV [])) := upd_same
    revert s1 he1
    generalize upd H e (.lst []) = H1
    intro s1 he1
    refine ⟨_, rfl, _, rfl, q, e, 0, vs, rws, [], rfl, sqt_kt (KT.of s1) hqv, RwsAt_kt (KT.of s1) _ _ hvs, hdp, by decide, he1, by decide, fun r hok H2 kb2 he2 => ?_, fun hno m d H2 kb2 hd2 => ke hno m d H2 (fun b o h => kb2 _ _ (ne_of_none h ne) (s1 _ _ h)) hd2⟩
    have hq : RAt K C H q r := ⟨vs, hqv, RwsAt_dd rws vs r hvs hok.1⟩
    have hd : deepR r ≤ 8 := by have := hok.2.1; omega
    have hm : manyR r ≤ 4000 := by have := hok.2.2; omega
    have k := ky r hok
    rw [List.nil_append] at he2
    have kt2 : KT H1 H2 := kb2.kt he1
    have hep : e ≠ p := fun z => by rw [z, hp] at ne; cases ne
    refine ⟨Nat.zero_le _, fun pn npn => ?_⟩
    have s3 : Same H2 (upd H2 pn (.lst [])) := Same.new npn
    have hpn3 : (upd H2 pn (.lst [])) pn = some (.lst []) := upd_same
    have hpe : e ≠ pn := fun z => by rw [← z, he2] at npn; cases npn
    have hpp : pn ≠ p := fun z => by
      have : H2 p = some (.ins CP dx []) := kb2 _ _ (Ne.symm hep) (s1 _ _ hp)
      rw [z, this] at npn
      cases npn
    revert s3 hpn3
    generalize upd H2 pn (.lst []) = H3
    intro s3 hpn3
    have he3 := s3 _ _ he2
    have hq3 : RAt K C H3 q r := ((hq.same s1).kt kt2).same s3
    refine ⟨_, rfl, _, rfl, e, _, rfl, .inl (SqL.of he3), ?_⟩
    rw [numsV_len, endsR_len]
    refine ⟨_, rfl, _, rfl, q, e, pn, manyR r, r, endsR r 0, [], rfl, hq3, by omega, he3, Pre.whole _, hpn3, hpe, by simpa using hm, fun H4 ys kb4 hp4 hys => ?_⟩
    rw [List.nil_append] at hp4
    have kt4 : KT H3 H4 := kb4.kt hpn3
    have hpz : H4 p = some (.ins CP dx []) := kb4 _ _ (Ne.symm hpp) (s3 _ _ (kb2 _ _ (Ne.symm hep) (s1 _ _ hp)))
    refine ⟨_, rfl, _, rfl, p, CP, dx, [], rfl, hpz, TP.cl, TP.nD, (by show 0 < 1000; decide), ?_⟩
    have hp5 : (upd H4 p (.ins CP dx (putF "deeds" (.ref q) []))) pn = some (.lst ys) := by rw [upd_ne hpp]; exact hp4
    refine ⟨_, rfl, pn, _, rfl, .inl ⟨SqL.of hp5, fun pl npl => ?_⟩⟩
    have hplp : pl ≠ p := fun z => by rw [z, upd_same] at npl; cases npl
    refine ⟨_, rfl, p, CP, dx, _, rfl, by rw [upd_ne (Ne.symm hplp)]; exact upd_same, TP.cl, TP.nP, Nat.lt_of_le_of_lt (length_putF _ _ _) (by show 0 + 1 < 1000; decide), ?_⟩
    have kbz : KB p H4 (upd (upd (upd H4 p (.ins CP dx (putF "deeds" (.ref q) []))) pl (.tup ys)) p (.ins CP dx (pf q pl))) := fun a o na ha => by
      have npl4 : H4 pl = none := by
        rw [upd_ne hplp] at npl
        exact npl
      rw [upd_ne na, upd_ne (ne_of_none ha npl4), upd_ne na]
      exact ha
    have kbH : KB p H H4 := fun a o na ha => by
      have nae : a ≠ e := ne_of_none ha ne
      have h2 := kb2 _ _ nae (s1 _ _ ha)
      have nan : a ≠ pn := ne_of_none h2 npn
      exact kb4 _ _ nan (s3 _ _ h2)
    have fr := Fr.kb hpz kbz
    refine k pl ys _ (kbH.trans kbz) ?_ ?_ ((hq3.kt kt4).fr fr) (pls_fr fr hys)
    · exact upd_same
    · rw [upd_ne hplp, upd_same]
end
end Js
set_option Elab.async false
set_option linter.all false
set_option maxRecDepth 100000
set_option maxHeartbeats 2000000
namespace Js
open PySem L2
open PySem.Spec PyProof.Rows
structure MakerPW (P : Program) (w : World) (K : PySem.W.Frag) (mg : Str → Option Value) (base : Heap) (C CP NP fI : Addr) (fdI : FuncData) : Prop where
  M : Mk K CP fI
  G : FnOk P w K mg base (L2N.CX P w) 14 fI fdI ["self", "deeds"] (spPInitW K C CP NP)
  mgP : mg "Program" = some (.ref CP)
  b : Binds K fdI ["self", "deeds"] []
def tPW (K : PySem.W.Frag) (C CP NP : Addr) (E : L2.St → XK) (t : TA) : TE := fun σ H Q => t σ H fun vs H1 => ∃ (q : Addr) (ws : List V) (rws : List Rw), vs = [.ref q] ∧ SqT K H1 q ws ∧ RwsAt K C H1 ws rws ∧ dpW rws < 9 ∧
  (∀ r, okRow rws 0 0 r → ∀ z H', Same H1 H' → H1 z = none → PgAt K C CP H' z r → Q (.ref z) H') ∧
  ((¬ ∃ r, okRow rws 0 0 r) → ∀ (m : Nat) (d : Addr) H', Same H1 H' → H' d = some (.xd [("place", .int (m : Nat))]) → E σ (.ref NP) (some d) H')
theorem mk_pgW {K : PySem.W.Frag} {C CP NP q : Addr} {H : Hp} {ws : List V} {rws : List Rw} {Q : VK} {E : XK} (hq : SqT K H q ws) (hw : RwsAt K C H ws rws) (hd : dpW rws < 9)
    (k : ∀ r, okRow rws 0 0 r → ∀ z H', Same H H' → H z = none → PgAt K C CP H' z r → Q (.ref z) H')
    (ke : (¬ ∃ r, okRow rws 0 0 r) → ∀ (m : Nat) (d : Addr) H', Same H H' → H' d = some (.xd [("place", .int (m : Nat))]) → E (.ref NP) (some d) H') :
    ∀ x dx, H x = none → H dx = none → dx ≠ x → spPInitW K C CP NP (.ref x :: ([.ref q] ++ [])) (upd (upd H dx (.own x)) x (.ins CP dx [])) (fun v H3 => v = .non ∧ Q (.ref x) H3) E := by
  intro x dx nx ndx ne
  have s0 : Same H (upd (upd H dx (.own x)) x (.ins CP dx [])) := (Same.new ndx).trans (Same.new (by rw [upd_ne (Ne.symm ne)]; exact nx))
  refine ⟨x, dx, q, ws, rws, rfl, upd_same, sqt_kt (KT.of s0) hq, RwsAt_kt (KT.of s0) _ _ hw, hd, fun r hok pl ys H' kb hx hpl hr hys => ⟨rfl, ?_⟩, fun hno m d H' s h => ke hno m d H' (s0.trans s) h⟩
  refine k r hok x H' (fun b o h => kb _ _ (ne_of_none h nx) (s0 _ _ h)) nx ?_
  exact ⟨⟨dx, q, pl, ys, hx, hr, hpl, hys⟩, by have := hok.2.1; omega, by have := hok.2.2; omega⟩
section
variable {X : Cx} {C CP NP fI : Addr} {fdI : FuncData} {p pos : Pos} {e : Expr} {es : List Expr} {t : TA} {E : L2.St → XK}
theorem pe_PW (mk : MakerPW X.prog X.w X.K X.mg X.base C CP NP fI fdI) (hr : Room 15 X.A) (hg : Gl X "Program") (out : ∀ σ, PassesAt (L2N.CX X.prog X.w) X σ (E σ)) (ha : PA X (e :: es) t)
    (he : starEach (e :: es) X.env = (false, eval e X.env) :: starEach es X.env := by rfl) (hpl : (backTo pos (starEach es X.env)).any (·.1) = false := by rfl) : PE X (.Call (.Name "Program" p) (e :: es) [] pos) (tPW X.K C CP NP E t) := by
  refine ⟨fun pins s σ H Q I h => ?_⟩
  refine wpAny_Call_Name_kw (ld_glob I hg mk.mgP ?_ (by decide))
  refine PySem.W.callWith_K (h₀ := X.base) I.ok.mod.kin mk.M.kp (thn (ha.run pos pins s σ H _ I h) fun us s1 ⟨vs, H1, I1, r, q⟩ => ⟨I1.kIn, ?_⟩) he hpl
  obtain ⟨q, ws, rws, rfl, h1, h2, h3, k, ke⟩ := q
  exact make_at mk.M mk.G hr mk.b .nil (out σ) I1 r (mk_pgW h1 h2 h3 k ke)
end
end Js
set_option Elab.async false
set_option linter.all false
set_option maxRecDepth 100000
set_option maxHeartbeats 2000000
namespace Js
open PySem L2
open PySem.Spec PyProof.Rows
def spProgW (K : PySem.W.Frag) (C CP NP : Addr) : Sp := fun vs H Q E => ∃ (y : Addr) (t : Tr), vs = [.ref y] ∧ Th C H y t ∧ t.size ≤ 4000 ∧
  (∀ r, okRow (rowW 8 t) 0 0 r → ∀ z H', Same H H' → H z = none → PgAt K C CP H' z r → Q (.ref z) H') ∧
  ((¬ ∃ r, okRow (rowW 8 t) 0 0 r) → ∀ (m : Nat) (d : Addr) H', Same H H' → H' d = some (.xd [("place", .int (m : Nat))]) → E (.ref NP) (some d) H')
section
variable {P : Program} {w : World} {K : PySem.W.Frag} {mg : Str → Option Value} {base : Heap} {C CP NP fNP fP : Addr} {fdNP fdP : FuncData}
theorem ok_progW {f : Addr} {fd : FuncData} (F : Fun K "program_of" "program_of" sProgOf f fd) (T : Txt K mg C) (M : NpM P w K mg base NP fNP fdNP) (MP : MakerPW P w K mg base C CP NP fP fdP) (DRt : Def P w K mg base "row_told" 30 ["thing", "floors"] (spRwT K C 9)) : FnOk P w K mg base (L2N.CX P w) 34 f fd ["thing"] (spProgW K C CP NP) := by
  refine okC F scPo (fun vs H Q E h => ?_) (fun cdv A outer s H vs Q E hr' h => ?_)
  · obtain ⟨y, t, rfl, _⟩ := h
    rfl
  · obtain ⟨y, t, rfl, hy, hz, k, ke⟩ := h
    have hr : Room 30 _ := hr'.mono (by decide)
    have hr2 : Room 2 _ := hr'.mono (by decide)
    have hr15 : Room 15 _ := hr'.mono (by decide)
    refine ⟨_, pss_cons (ps_if (pt_not (pt_val (pe_callB (r := rIsi K) call_isi (by rfl) T.isi PyProof.Rows.boot_isinstance (pa_cons (pv 0) (pa_cons (pe_glob (v := .ref C) rfl T.mgC rfl) pa_nil))))) (pss_one (L2N.ps_raise rfl (L2N.takes_of rfl rfl rfl rfl) (pmk_gexN M.T.O M.iN M.tN M.ok hr2 M.bN .nil pass0 rfl M.T.mgN (pa_cons pe_int pa_nil)))) pss_nil) (pss_one (ps_ret (pe_PW MP hr15 rfl (fun σ => L2N.passAt (L2N.takes_of rfl rfl rfl rfl) σ) (pa_cons (pe_def DRt hr rfl (pa_cons (pv 0) (pa_cons pe_int pa_nil))) pa_nil)))), ?_⟩
    obtain ⟨dx, f1, g1, h1⟩ := hy.obj
    refine ⟨_, rfl, _, _, _, _, true, rfl, ClsV.own C, .base (.ins h1 T.cl T.ca T.cn T.ct T.cm), kit_self _ _, _, rfl, iteF ?_⟩
    refine ⟨_, rfl, 8, y, 0, t, rfl, rfl, hy, hz, rfl, fun q ws H1 s1 hq hws => ?_⟩
    have hdp := rowW_dp 8 t
    exact ⟨q, ws, rowW 8 t, rfl, hq, hws, by omega, fun r hok z H2 s2 nz hz2 => k r hok z H2 (s1.trans s2) (s1.free nz) hz2, fun hno m d H2 s2 hd => ke hno m d H2 (s1.trans s2) hd⟩
end
end Js
set_option Elab.async false
set_option linter.all false
set_option maxRecDepth 100000
set_option maxHeartbeats 2000000
set_option Elab.async false
set_option linter.all false
set_option maxRecDepth 100000
set_option maxHeartbeats 2000000
namespace Js
open PySem L2
def nmA (ns : List Tr) (a : Nat) : Tr := ns.getD a .nil
def yesT : Tr := .pr .nil .nil
def Dd.look : Dd → Bool
  | .wh _ _ => true
  | .iff _ _ _ => true
  | _ => false
def Dd.made (ns : List Tr) : Dd → Tr
  | .told _ t => t
  | .take false _ b => (nmA ns b).head
  | .take true _ b => (nmA ns b).tail
  | .two false _ b c => .pr (nmA ns b) (nmA ns c)
  | .two true _ b c => if nmA ns b = nmA ns c then yesT else .nil
  | _ => .nil
end Js
set_option Elab.async false
set_option linter.all false
set_option maxRecDepth 100000
set_option maxHeartbeats 2000000
set_option Elab.async false
set_option linter.all false
set_option maxRecDepth 100000
set_option maxHeartbeats 2000000
set_option Elab.async false
set_option linter.all false
set_option maxRecDepth 100000
set_option maxHeartbeats 2000000
set_option Elab.async false
set_option linter.all false
set_option maxRecDepth 100000
set_option maxHeartbeats 2000000
set_option Elab.async false
set_option linter.all false
set_option maxRecDepth 100000
set_option maxHeartbeats 2000000
set_option Elab.async false
set_option linter.all false
set_option maxRecDepth 100000
set_option maxHeartbeats 2000000
set_option Elab.async false
set_option linter.all false
set_option maxRecDepth 100000
set_option maxHeartbeats 2000000
namespace Js
open PySem L2
theorem takesN {X : Cx} : L2N.Takes X (fun _ _ _ _ => False) := fun u s' x => by
  obtain ⟨_, _, _, _, _, _, _, _, _, _, _, _, _, _, _, _, h⟩ := x
  exact h.elim
end Js
set_option Elab.async false
set_option linter.all false
set_option maxRecDepth 100000
set_option maxHeartbeats 2000000
namespace Js
open PySem L2
open PySem.Spec PyProof.Rows
abbrev sIsCode : Stmt := top 41
def spIsCodeW (C : Addr) : Sp := fun vs H Q _ => ∃ y t, vs = [.ref y] ∧ Th C H y t ∧ t.size ≤ 4000 ∧ ∀ H', Same H H' → ((∃ r, t = codeR r ∧ okR r ∧ deepR r ≤ 8 ∧ manyR r ≤ 4000) → Q (.bl true) H') ∧ ((¬ ∃ r, okRow (rowW 8 t) 0 0 r) → Q (.bl false) H')
theorem okRow_code {t : Tr} (hz : t.size ≤ 4000) {r : List Dd} (h : okRow (rowW 8 t) 0 0 r) : t = codeR r ∧ okR r ∧ deepR r ≤ 8 ∧ manyR r ≤ 4000 := by
  obtain ⟨h1, h2, h3⟩ := rowW_inv hz h.1
  exact ⟨h1, h2, h3, by have := h.2.2; omega⟩
section
variable {P : Program} {w : World} {K : PySem.W.Frag} {mg : Str → Option Value} {base : Heap} {C CP NP fPo : Addr} {fdPo : FuncData}
theorem scIc : FnScope ["thing"] ["thing"] (defScope sIsCode) := ⟨rfl, rfl, rfl, by decide +kernel, rfl, by decide +kernel, by decide +kernel⟩
theorem ok_isCodeW {f : Addr} {fd : FuncData} (F : Fun K "is_code" "is_code" sIsCode f fd) (mNP : mg "NoProgram" = some (.ref NP)) (exNP : PySem.W.exmOne K (.ref NP) (.ref NP) = some true) (GPo : FnOk P w K mg base (L2N.CX P w) 34 fPo fdPo ["thing"] (spProgW K C CP NP)) (mgPo : mg "program_of" = some (.ref fPo)) (kPo : PySem.W.keepIn K (.ref fPo) = true) (bPo : Binds K fdPo ["thing"] []) : FnOk P w K mg base CX0 35 f fd ["thing"] (spIsCodeW C) := by
  refine F.ok scIc (fun vs H Q E h => ?_) (fun cdv A outer s H vs Q E hr h => ?_)
  · obtain ⟨y, t, rfl, _⟩ := h
    rfl
  · obtain ⟨y, t, rfl, hy, hz, k⟩ := h
    have hr34 : Room 34 _ := hr
    refine ⟨_, PSs.nox (pss_cons (L2N.ps_try_many (tb := fun W_ => tDrop (tCallS (spProgW K C CP NP) (WE W_) (tCons (tVar 0) tNil))) (l := [(.ref NP, fun _ _ _ => tRet (tC (.bl false)))]) (Wout := fun _ _ _ _ => False) rfl rfl takesN (fun W_ pn xe tk _ => (pss_one (ps_expr (by exact (pe_callS GPo hr34 rfl mgPo kPo bPo (fun σ => L2N.passAt tk σ) (by exact (pa_cons (pv 0) pa_nil))))))) (.cons ⟨rfl, by decide, Or.inl mNP⟩ (fun a oe cls d pn hz hf => (pss_one (ps_ret pe_bl))) .nil)) (pss_one (ps_ret pe_bl))), ?_⟩
    refine ⟨_, rfl, y, t, rfl, hy, hz, fun r hok z H1 s1 nz hz1 => ?_, fun hno m d H1 s1 hd => ?_⟩
    · exact (k H1 s1).1 ⟨r, okRow_code hz hok⟩
    · refine ⟨true, exNP, fun _ a0 _ => ?_, fun q => Bool.noConfusion q⟩
      exact (k H1 s1).2 hno
end
end Js
set_option Elab.async false
set_option linter.all false
set_option maxRecDepth 100000
set_option maxHeartbeats 2000000
namespace Js
open PySem L2
abbrev sRead : Stmt := top 47
abbrev sWhole : Stmt := top 48
abbrev sDue : Stmt := top 49
def whole : List (List Tr) → Bool
  | [[_]] => true
  | _ => false
def topLen : List (List Tr) → Nat
  | [] => 0
  | xs :: _ => xs.length
def app (x : Tr) : List (List Tr) → List (List Tr)
  | [] => []
  | xs :: lv => (xs ++ [x]) :: lv
inductive Rel (t : Tr) : List (List Tr) → List (Option Tr) → Prop where
  | start : Rel t [[]] [some t]
  | fin : Rel t [[t]] []
  | l0 {lv ws l r} : Rel t lv (some (.pr l r) :: ws) → Rel t ([] :: lv) (some l :: some r :: none :: ws)
  | l1 {lv ws l r} : Rel t lv (some (.pr l r) :: ws) → Rel t ([l] :: lv) (some r :: none :: ws)
  | l2 {lv ws l r} : Rel t lv (some (.pr l r) :: ws) → Rel t ([l, r] :: lv) (none :: ws)
theorem Rel.app {t x : Tr} {lv : List (List Tr)} {ws : List (Option Tr)} (h : Rel t lv (some x :: ws)) : Rel t (app x lv) ws := by
  cases h with
  | start => exact .fin
  | l0 h => exact .l1 h
  | l1 h => exact .l2 h
theorem Rel.ne {t : Tr} {lv : List (List Tr)} {ws : List (Option Tr)} (h : Rel t lv ws) : lv ≠ [] := by
  cases h <;> simp
theorem Rel.notWhole {t : Tr} {p : Option Tr} {lv : List (List Tr)} {ws : List (Option Tr)} (h : Rel t lv (p :: ws)) : whole lv = false := by
  cases h with
  | start => rfl
  | l0 h => rfl
  | l1 h =>
    have := h.ne
    cases h <;> rfl
  | l2 h => rfl
theorem Rel.top {t x : Tr} {lv : List (List Tr)} {ws : List (Option Tr)} (h : Rel t lv (some x :: ws)) : topLen lv ≠ 2 := by
  cases h <;> simp [topLen]
theorem Rel.shut {t : Tr} {lv : List (List Tr)} {ws : List (Option Tr)} (h : Rel t lv (none :: ws)) : ∃ l r lv', lv = [l, r] :: lv' ∧ Rel t lv' (some (.pr l r) :: ws) := by
  cases h with
  | l2 h => exact ⟨_, _, _, rfl, h⟩
theorem Rel.done {t : Tr} {lv : List (List Tr)} (h : Rel t lv []) : lv = [[t]] := by
  cases h with
  | fin => rfl
theorem Rel.le {t : Tr} {lv : List (List Tr)} {ws : List (Option Tr)} (h : Rel t lv ws) : ∀ x, some x ∈ ws → x.size ≤ t.size := by
  induction h with
  | start => intro x hx; simp at hx; subst hx; exact Nat.le_refl _
  | fin => intro x hx; simp at hx
  | @l0 lv ws l r _ ih =>
    intro x hx
    have h0 := ih (.pr l r) (by simp)
    simp only [Tr.size] at h0
    simp only [List.mem_cons, Option.some.injEq, reduceCtorEq, false_or] at hx
    rcases hx with rfl | rfl | hx
    · omega
    · omega
    · exact ih x (by simp [hx])
  | @l1 lv ws l r _ ih =>
    intro x hx
    have h0 := ih (.pr l r) (by simp)
    simp only [Tr.size] at h0
    simp only [List.mem_cons, Option.some.injEq, reduceCtorEq, false_or] at hx
    rcases hx with rfl | hx
    · omega
    · exact ih x (by simp [hx])
  | @l2 lv ws l r _ ih =>
    intro x hx
    simp only [List.mem_cons, reduceCtorEq, false_or] at hx
    exact ih x (by simp [hx])
def nn : List (Option Tr) → Nat
  | [] => 0
  | none :: r => nn r + 1
  | some _ :: r => nn r
theorem nn_le : ∀ ws, nn ws ≤ (wouts ws).length
  | [] => Nat.zero_le _
  | none :: r => by
    have := nn_le r
    rw [wouts_cons, List.length_append]
    simp only [nn, wout, List.length_singleton]
    omega
  | some t :: r => by
    have := nn_le r
    rw [wouts_cons, List.length_append]
    simp only [nn]
    omega
theorem Rel.len {t : Tr} {lv : List (List Tr)} {ws : List (Option Tr)} (h : Rel t lv ws) : lv.length = 1 + nn ws := by
  induction h with
  | start => rfl
  | fin => rfl
  | l0 _ ih => simp only [nn, List.length_cons] at ih ⊢; omega
  | l1 _ ih => simp only [nn, List.length_cons] at ih ⊢; omega
  | l2 _ ih => simp only [nn, List.length_cons] at ih ⊢; omega
theorem Rel.room {t x : Tr} {xs : List Tr} {lv : List (List Tr)} {ws : List (Option Tr)} (h : Rel t (xs :: lv) (some x :: ws)) : xs.length ≤ 1 := by
  cases h <;> simp
def osz : Option Tr → Nat
  | none => 0
  | some t => t.size
def oszs (ws : List (Option Tr)) : Nat := (ws.map osz).sum
theorem oszs_cons (p : Option Tr) (ws : List (Option Tr)) : oszs (p :: ws) = osz p + oszs ws := by simp [oszs]
def LvAt (C : Addr) (H : Hp) (p : Addr) (xs : List Tr) : Prop := ∃ vs, H p = some (.lst vs) ∧ Paired (ThV C H) vs xs
structure Levels (C : Addr) (H : Hp) (LA : Addr) (ps : List Addr) (lv : List (List Tr)) : Prop where
  la : H LA = some (.lst (ps.map V.ref).reverse)
  at_ : Paired (LvAt C H) ps lv
  nd : (LA :: ps).Nodup
theorem lv_keep {C : Addr} {H H' : Hp} (k : KT H H') : ∀ {ps : List Addr} {lv : List (List Tr)}, (∀ p ∈ ps, ∀ vs, H p = some (.lst vs) → H' p = some (.lst vs)) → Paired (LvAt C H) ps lv → Paired (LvAt C H') ps lv
  | _, _, _, .nil => .nil
  | p :: ps, _, hl, .cons ⟨vs, h1, h2⟩ t => .cons ⟨vs, hl p (List.mem_cons_self ..) vs h1, ths_kt k h2⟩ (lv_keep k (fun q hq => hl q (List.mem_cons_of_mem _ hq)) t)
theorem Levels.same {C : Addr} {H H' : Hp} (s : Same H H') {LA : Addr} {ps : List Addr} {lv : List (List Tr)} (h : Levels C H LA ps lv) : Levels C H' LA ps lv :=
  ⟨s _ _ h.la, lv_keep (KT.of s) (fun _ _ _ e => s _ _ e) h.at_, h.nd⟩
theorem at_some {C : Addr} {H : Hp} : ∀ {ps : List Addr} {lv : List (List Tr)}, Paired (LvAt C H) ps lv → ∀ p ∈ ps, ∃ vs, H p = some (.lst vs)
  | _, _, .nil, p, hp => by cases hp
  | _, _, .cons ⟨vs, h1, _⟩ t, p, hp => by
    rcases List.mem_cons.mp hp with rfl | hp
    · exact ⟨vs, h1⟩
    · exact at_some t p hp
theorem Levels.put {C : Addr} {H : Hp} {LA p : Addr} {ps : List Addr} {xs : List Tr} {lv : List (List Tr)} {vs : List V} {v : V} {x : Tr} (h : Levels C H LA (p :: ps) (xs :: lv)) (hp : H p = some (.lst vs)) (hv : ThV C H v x) :
    Levels C (upd H p (.lst (vs ++ [v]))) LA (p :: ps) ((xs ++ [x]) :: lv) := by
  have nd := h.nd
  rw [List.nodup_cons, List.nodup_cons] at nd
  have k : KT H (upd H p (.lst (vs ++ [v]))) := KT.lst hp
  have hat := h.at_
  cases hat with
  | cons h0 t =>
    obtain ⟨vs', e1, e2⟩ := h0
    have e := Option.some.inj (hp.symm.trans e1)
    injection e with e
    subst e
    refine ⟨(upd_ne (fun z => nd.1 (by rw [z]; simp))).trans h.la, .cons ⟨_, upd_same, paired_snoc (ths_kt k e2) (hv.kt k)⟩ (lv_keep k (fun q hq ws e => ?_) t), h.nd⟩
    rw [upd_ne (fun z => nd.2.1 (by rw [← z]; exact hq))]
    exact e
theorem Levels.open_ {C : Addr} {H : Hp} {LA q : Addr} {ps : List Addr} {lv : List (List Tr)} (h : Levels C H LA ps lv) (nq : H q = none) :
    Levels C (upd (upd H q (.lst [])) LA (.lst ((ps.map V.ref).reverse ++ [.ref q]))) LA (q :: ps) ([] :: lv) := by
  have nqL : LA ≠ q := ne_of_none h.la nq
  have hL : (upd H q (.lst [])) LA = some (.lst (ps.map V.ref).reverse) := (upd_ne nqL).trans h.la
  have k : KT H (upd (upd H q (.lst [])) LA (.lst ((ps.map V.ref).reverse ++ [.ref q]))) := (KT.new nq).trans (KT.lst hL)
  have nd := h.nd
  rw [List.nodup_cons] at nd
  refine ⟨by rw [upd_same, List.map_cons, List.reverse_cons], .cons ⟨[], (upd_ne (Ne.symm nqL)).trans upd_same, .nil⟩ (lv_keep k (fun p hp ws e => ?_) h.at_), ?_⟩
  · rw [upd_ne (fun z => nd.1 (by rw [← z]; exact hp)), upd_ne (ne_of_none e nq)]
    exact e
  · rw [List.nodup_cons, List.nodup_cons]
    refine ⟨fun z => ?_, fun z => ?_, nd.2⟩
    · rcases List.mem_cons.mp z with z | z
      · exact nqL z
      · exact nd.1 z
    · obtain ⟨ws, e⟩ := at_some h.at_ q z
      rw [nq] at e
      cases e
theorem Levels.shut {C : Addr} {H : Hp} {LA p : Addr} {ps : List Addr} {xs : List Tr} {lv : List (List Tr)} (h : Levels C H LA (p :: ps) (xs :: lv)) : Levels C (upd H LA (.lst (ps.map V.ref).reverse)) LA ps lv := by
  have nd := h.nd
  rw [List.nodup_cons, List.nodup_cons] at nd
  have hat := h.at_
  cases hat with
  | cons h0 t =>
    refine ⟨upd_same, lv_keep (KT.lst h.la) (fun q hq ws e => ?_) t, ?_⟩
    · rw [upd_ne (fun z => nd.1 (by rw [← z]; simp [hq]))]
      exact e
    · rw [List.nodup_cons]
      exact ⟨fun z => nd.1 (by simp [z]), nd.2.2⟩
def due (lv : List (List Tr)) (b : Nat) : Str := if whole lv = true then "" else if topLen lv = 2 then ")" else if b = 4000 then "." else ".("
def spWhole (C : Addr) : Sp := fun vs H Q _ => ∃ LA ps lv, vs = [.ref LA] ∧ Levels C H LA ps lv ∧ lv ≠ [] ∧ Q (.bl (whole lv)) H
def spDue (C : Addr) : Sp := fun vs H Q _ => ∃ LA ps lv b, vs = [.ref LA, .int (b : Nat)] ∧ Levels C H LA ps lv ∧ lv ≠ [] ∧ Q (.str (due lv b)) H
def spRead (C : Addr) : Sp := fun vs H Q _ => ∃ t : Tr, vs = [.str t.text] ∧ t.size ≤ 4000 ∧ ∀ a H', Same H H' → Th C H' a t → Q (.ref a) H'
section
variable {P : Program} {w : World} {K : PySem.W.Frag} {mg : Str → Option Value} {base : Heap} {C fI : Addr} {fdI : FuncData}
theorem scW : FnScope ["levels"] ["levels"] (defScope sWhole) := ⟨rfl, rfl, rfl, by decide +kernel, rfl, by decide +kernel, by decide +kernel⟩
theorem ok_whole {f : Addr} {fd : FuncData} (F : Fun K "is_whole" "is_whole" sWhole f fd) (T : Txt K mg C) : FnOk P w K mg base CX0 1 f fd ["levels"] (spWhole C) := by
  refine F.ok scW (fun vs H Q E h => ?_) (fun cdv A outer s H vs Q E hr h => ?_)
  · obtain ⟨LA, ps, lv, rfl, _⟩ := h
    rfl
  · obtain ⟨LA, ps, lv, rfl, hL, hne, k⟩ := h
    refine ⟨_, pss_one (ps_ret (pe_and (pe_cmpR op_eq (pe_callB call_len_seq (by rfl) T.len PySem.boot_len (pa_cons (pv 0) pa_nil)) pe_int (nomark _))
      (pe_one (pe_cmpR op_eq (pe_callB call_len_seq (by rfl) T.len PySem.boot_len (pa_cons (pe_ix ix_list (pv 0) pe_int (fun _ _ => rfl)) pa_nil)) pe_int (nomark _))))), ?_⟩
    refine ⟨_, rfl, LA, _, rfl, .inl (SqL.of hL.la), rfl, _, rfl, ?_⟩
    have hat := hL.at_
    have la := hL.la
    cases hat with
    | nil => exact absurd rfl hne
    | @cons p xs ps lv h0 t =>
      obtain ⟨vs, e1, e2⟩ := h0
      cases t with
      | nil =>
        refine iteT ?_
        refine ⟨_, rfl, LA, _, _, .ref p, rfl, rfl, SqL.of la, rfl, p, vs, rfl, .inl (SqL.of e1), rfl, ?_⟩
        have hl := Paired.length e2
        have e : decide (V.int ((vs.length : Nat) : Int) = V.int 1) = whole [xs] := by
          rw [hl]
          match xs with
          | [] => rfl
          | [x] => rfl
          | x :: y :: r =>
            show decide (V.int (((x :: y :: r).length : Nat) : Int) = V.int 1) = false
            simp only [List.length_cons, decide_eq_false_iff_not, V.int.injEq]
            omega
        show Q (.bl (decide (V.int ((vs.length : Nat) : Int) = V.int 1))) H
        rw [e]
        exact k
      | @cons p2 ys ps lv h1 t =>
        have ed : decide (V.int (((((p :: p2 :: ps).map V.ref).reverse).length : Nat) : Int) = V.int 1) = false := by
          simp only [List.length_reverse, List.length_map, List.length_cons, decide_eq_false_iff_not, V.int.injEq]
          omega
        rw [ed]
        have e : whole (xs :: ys :: lv) = false := by rcases xs with _ | ⟨x, _ | ⟨y, r⟩⟩ <;> rfl
        rw [e] at k
        exact iteF k
theorem scD : FnScope ["levels", "begun"] ["levels", "begun"] (defScope sDue) := ⟨rfl, rfl, rfl, by decide +kernel, rfl, by decide +kernel, by decide +kernel⟩
theorem ok_due {f fW : Addr} {fd fdW : FuncData} (F : Fun K "signs_due" "signs_due" sDue f fd) (T : Txt K mg C) (AW : At K mg "is_whole" sWhole ["levels"] fW fdW) : FnOk P w K mg base CX0 2 f fd ["levels", "begun"] (spDue C) := by
  have GW : FnOk P w K mg base CX0 1 fW fdW ["levels"] (spWhole C) := ok_whole AW.F T
  obtain ⟨tm, mgM⟩ := T.mgM
  refine F.ok scD (fun vs H Q E h => ?_) (fun cdv A outer s H vs Q E hr h => ?_)
  · obtain ⟨LA, ps, lv, b, rfl, _⟩ := h
    rfl
  · obtain ⟨LA, ps, lv, b, rfl, hL, hne, k⟩ := h
    refine ⟨_, pss_cons (ps_if (pt_val (pe_call GW hr rfl AW.mgf AW.F.kp AW.b .nil pass0 (pa_cons (pv 0) pa_nil))) (pss_one (ps_ret pe_str)) pss_nil)
      (pss_cons (ps_if (pt_cmpR op_eq (pe_callB call_len_seq (by rfl) T.len PySem.boot_len (pa_cons (pe_ix ix_list (pv 0) (pe_un un_neg pe_int) (fun _ _ => rfl)) pa_nil)) pe_int (nomark _)) (pss_one (ps_ret pe_str)) pss_nil)
      (pss_cons (ps_if (pt_cmpR op_eq (pv 1) (pe_glob (v := .int 4000) rfl mgM ⟨_, rfl⟩) (nomark _)) (pss_one (ps_ret pe_str)) pss_nil)
      (pss_one (ps_ret pe_str)))), ?_⟩
    refine ⟨_, rfl, LA, ps, lv, rfl, hL, hne, _, rfl, ?_⟩
    unfold due at k
    by_cases hw : whole lv = true
    · rw [if_pos hw] at k
      rw [hw]
      exact iteT k
    · rw [if_neg hw] at k
      have hw' : whole lv = false := by simpa using hw
      rw [hw']
      refine iteF ?_
      have la := hL.la
      have hat := hL.at_
      cases hat with
      | nil => exact absurd rfl hne
      | @cons p xs ps lv h0 t =>
        obtain ⟨vs, e1, e2⟩ := h0
        have hl := Paired.length e2
        refine ⟨_, rfl, _, rfl, LA, _, _, .ref p, rfl, rfl, SqL.of la, ?_, p, vs, rfl, .inl (SqL.of e1), rfl, _, rfl, ?_⟩
        · rw [List.map_cons, List.reverse_cons]
          exact atI_last _ _
        · have e : decide (V.int ((vs.length : Nat) : Int) = V.int 2) = decide (topLen (xs :: lv) = 2) := by
            simp only [topLen, V.int.injEq, ← hl]
            exact decide_eq_decide.mpr (by omega)
          rw [e]
          by_cases h2 : topLen (xs :: lv) = 2
          · rw [if_pos h2] at k
            rw [decide_eq_true h2]
            exact iteT k
          · rw [if_neg h2] at k
            rw [decide_eq_false h2]
            refine iteF ?_
            refine ⟨_, rfl, rfl, _, rfl, ?_⟩
            by_cases hb : b = 4000
            · rw [if_pos hb] at k
              subst hb
              exact iteT k
            · rw [if_neg hb] at k
              have ed : decide (V.int ((b : Nat) : Int) = V.int 4000) = false := by
                simp only [decide_eq_false_iff_not, V.int.injEq]
                omega
              rw [ed]
              exact iteF k
theorem due_in {c : Nat} {z : Str} (h : c ∈ z.cps.toList) : (!decide (c ∈ z.cps.toList)) = false := by simp [h]
theorem m41 : (41 : Nat) ∈ ((")" : Str)).cps.toList := by decide +kernel
theorem m46 : (46 : Nat) ∈ (("." : Str)).cps.toList := by decide +kernel
theorem m46b : (46 : Nat) ∈ ((".(" : Str)).cps.toList := by decide +kernel
theorem m40b : (40 : Nat) ∈ ((".(" : Str)).cps.toList := by decide +kernel
theorem scRd : FnScope ["text", "levels", "begun", "place", "sign", "first", "second"] ["text"] (defScope sRead) := ⟨rfl, rfl, rfl, by decide +kernel, rfl, by decide +kernel, by decide +kernel⟩
theorem ok_read {f fW fD : Addr} {fd fdW fdD : FuncData} (F : Fun K "read_thing" "read_thing" sRead f fd) (T : Txt K mg C) (men : mg "enumerate" = none) (mk : Maker P w K mg base C fI fdI) (AW : At K mg "is_whole" sWhole ["levels"] fW fdW) (AD : At K mg "signs_due" sDue ["levels", "begun"] fD fdD) :
    FnOk P w K mg base CX0 4 f fd ["text"] (spRead C) := by
  have GW : FnOk P w K mg base CX0 1 fW fdW ["levels"] (spWhole C) := ok_whole AW.F T
  have GD : FnOk P w K mg base CX0 2 fD fdD ["levels", "begun"] (spDue C) := ok_due AD.F T AW
  refine F.ok scRd (fun vs H Q E h => ?_) (fun cdv A outer s H vs Q E hr h => ?_)
  · obtain ⟨t, rfl, _⟩ := h
    rfl
  · obtain ⟨t, rfl, hz, k⟩ := h
    have hr1 : Room 1 _ := hr.mono (by decide)
    have hr2 : Room 2 _ := hr.mono (by decide)
    refine ⟨_, pss_cons (ps_set (i := 1) scRd.nd rfl (Or.inl rfl) (pe_lst (pa_cons (pe_lst pa_nil) pa_nil))) (pss_cons (ps_set (i := 2) scRd.nd rfl (Or.inl rfl) pe_int)
      (pss_cons (ps_for PassesOwn.never rfl (pi_enumS rfl men (pa_cons (pv 0) pa_nil)) (pg_tup rfl (pgs_cons (pg_name (i := 3) scRd.nd rfl (Or.inl rfl)) (pgs_cons (pg_name (i := 4) scRd.nd rfl (Or.inl rfl)) pgs_nil)))
        (pss_cons (ps_if (pt_cmpR op_notIn_sign (pv 4) (pe_call GD hr2 rfl AD.mgf AD.F.kp AD.b .nil pass0 (pa_cons (pv 1) (pa_cons (pv 2) pa_nil))) rfl) (pss_one ps_never) pss_nil)
        (pss_one (ps_if (pt_cmpR op_eq (pv 4) pe_str (nomark _))
          (pss_cons (ps_aug (i := 2) scRd.nd rfl (Or.inl rfl) pe_int ip_add) (pss_one (ps_expr (pe_bm PySem.F.plainAttrs_list PySem.F.slot_list_append PySem.F.type_list_append mt_append (pv 1) (pa_cons (pe_lst pa_nil) pa_nil)))))
          (pss_one (ps_if (pt_cmpR op_eq (pv 4) pe_str (nomark _))
            (pss_cons (ps_asg (pe_bm0 PySem.F.plainAttrs_list PySem.F.slot_list_pop PySem.F.type_list_pop mt_pop (pv 1)) (pg_unl rfl (pgs_cons (pg_name (i := 5) scRd.nd rfl (Or.inl rfl)) (pgs_cons (pg_name (i := 6) scRd.nd rfl (Or.inl rfl)) pgs_nil))))
              (pss_one (ps_expr (pe_bm PySem.F.plainAttrs_list PySem.F.slot_list_append PySem.F.type_list_append mt_append (pe_ix ix_list (pv 1) (pe_un un_neg pe_int) (fun _ _ => rfl)) (pa_cons (pe_T2 mk hr rfl (pa_cons (pv 5) (pa_cons (pv 6) pa_nil))) pa_nil)))))
            (pss_one (ps_expr (pe_bm PySem.F.plainAttrs_list PySem.F.slot_list_append PySem.F.type_list_append mt_append (pe_ix ix_list (pv 1) (pe_un un_neg pe_int) (fun _ _ => rfl)) (pa_cons (pe_T0 mk hr rfl) pa_nil))))))))))
      (pss_cons (ps_if (pt_not (pt_val (pe_call GW hr1 rfl AW.mgf AW.F.kp AW.b .nil pass0 (pa_cons (pv 1) pa_nil)))) (pss_one ps_never) pss_nil)
      (pss_one (ps_ret (pe_ix ix_list (pe_ix ix_list (pv 1) pe_int (fun _ _ => rfl)) pe_int (fun _ _ => rfl))))))), ?_⟩
    refine ⟨Nat.zero_le _, fun p0 np0 => ?_⟩
    refine ⟨(by show 1 ≤ sizeLine; decide), fun LA nLA => ?_⟩
    have npL : p0 ≠ LA := ne_of_none (o := .lst []) upd_same nLA
    have hLA : H LA = none := by
      have := nLA
      rw [upd_ne (Ne.symm npL)] at this
      exact this
    have hsl := line4
    have s0 : Same H (upd (upd H p0 (.lst [])) LA (.lst [.ref p0])) := (Same.new np0).set hLA
    have L0 : Levels C (upd (upd H p0 (.lst [])) LA (.lst [.ref p0])) LA [p0] [[]] := ⟨upd_same, .cons ⟨[], (upd_ne npL).trans upd_same, .nil⟩ .nil, by simp [Ne.symm npL]⟩
    have hn : t.text.cps.size = t.codes.length := by
      show t.codes.toArray.size = _
      rw [List.size_toArray]
    refine ⟨_, rfl, t.text, rfl, for_it (walk_enumS (z := t.text)) (fun i σ H' => ∃ (x3 x4 x5 x6 : Option V) (ps : List Addr) (lv : List (List Tr)) (ws : List (Option Tr)) (b : Nat),
        σ = [some (.str t.text), some (.ref LA), some (.int (b : Nat)), x3, x4, x5, x6] ∧ Same H H' ∧ Levels C H' LA ps lv ∧ (∀ p ∈ ps, H p = none) ∧ Rel t lv ws ∧ t.codes.drop i = wouts ws ∧ b + oszs ws = t.size)
      ⟨none, none, none, none, [p0], [[]], [some t], 0, rfl, s0, L0, by simp [np0], .start, by simp [wouts, wout], by simp [oszs, osz]⟩ (fun _ _ _ _ _ => trivial) ?_ ?_⟩
    · rintro i x σ H1 H2 hi ⟨x3, x4, x5, x6, ps, lv, ws, b, rfl, s1, hL, hfr, hrel, hws, hb⟩ ⟨T0, c, rfl, nT0, rfl, hc⟩
      have hi' : i < t.codes.length := by rw [← hn]; exact hi
      have hdr : t.codes.drop i = c :: t.codes.drop (i + 1) := by
        rw [List.drop_eq_getElem_cons hi']
        have e : t.codes[i]? = some c := by
          rw [← hc, ← Array.getElem?_toList, Tr.text_list]
        rw [List.getElem?_eq_getElem hi'] at e
        rw [Option.some.inj e]
      have hnn : nn ws ≤ 3 * t.size + 1 := by
        have h1 := nn_le ws
        rw [← hws, List.length_drop, Tr.codes_len] at h1
        omega
      have hlen := hrel.len
      have hpl : ps.length = lv.length := Paired.length hL.at_
      have s2 : Same H (upd H1 T0 (.tup [.int (i : Nat), .str ⟨#[c]⟩])) := s1.trans (Same.new nT0)
      have hL2 : Levels C (upd H1 T0 (.tup [.int (i : Nat), .str ⟨#[c]⟩])) LA ps lv := hL.same (Same.new nT0)
      have hT2 : (upd H1 T0 (.tup [.int (i : Nat), .str ⟨#[c]⟩])) T0 = some (.tup [.int (i : Nat), .str ⟨#[c]⟩]) := upd_same
      revert s2 hL2 hT2
      generalize (upd H1 T0 (.tup [.int (i : Nat), .str ⟨#[c]⟩])) = H3
      intro s2 hL2 hT2
      refine ⟨T0, _, rfl, SqT.of hT2, rfl, _, _, rfl, _, _, rfl, rfl, ?_⟩
      -- if sign not in signs_due(levels, begun)
      refine ⟨_, rfl, _, rfl, _, rfl, LA, ps, lv, b, rfl, hL2, hrel.ne, c, _, rfl, rfl, _, rfl, ?_⟩
      rw [hws] at hdr
      cases ws with
      | nil => simp [wouts] at hdr
      | cons p ws =>
        rw [wouts_cons] at hdr
        rw [oszs_cons] at hb
        have hnw := hrel.notWhole
        cases p with
        | none =>
          simp only [wout, List.singleton_append, List.cons.injEq] at hdr
          obtain ⟨rfl, hdr⟩ := hdr
          obtain ⟨l, r, lv', rfl, hrel'⟩ := hrel.shut
          have hd : due ([l, r] :: lv') b = ")" := by
            unfold due
            rw [hnw, if_neg Bool.false_ne_true, if_pos (show topLen ([l, r] :: lv') = 2 from rfl)]
          rw [hd, due_in m41]
          refine iteF ?_
          refine ⟨_, rfl, rfl, _, rfl, ?_⟩
          have e1 : decide (V.str ⟨#[41]⟩ = V.str "(") = false := by decide +kernel
          rw [e1]
          refine iteF ?_
          refine ⟨_, rfl, rfl, _, rfl, ?_⟩
          have e2 : decide (V.str ⟨#[41]⟩ = V.str ")") = true := by decide +kernel
          rw [e2]
          refine iteT ?_
          have hat := hL2.at_
          cases hat with
          | @cons p _ ps _ h0 tt =>
          obtain ⟨vs, hp, hvs⟩ := h0
          cases hvs with
          | @cons v1 _ vs1 _ hv1 hvs =>
          cases hvs with
          | @cons v2 _ vs2 _ hv2 hvs =>
          cases hvs
          refine ⟨_, rfl, .inl ⟨rfl, _, SqL.of hL2.la⟩, LA, _, .ref p, rfl, rfl, hL2.la, ?_, ?_⟩
          · rw [List.map_cons]
            exact last_rev _ _
          · rw [List.map_cons, drop_rev]
            have nd := hL2.nd
            rw [List.nodup_cons] at nd
            have npLA : p ≠ LA := fun z => nd.1 (by rw [← z]; simp)
            have hL4 := hL2.shut
            have s4 : Same H (upd H3 LA (.lst (ps.map V.ref).reverse)) := s2.set hLA
            have hp4 : (upd H3 LA (.lst (ps.map V.ref).reverse)) p = some (.lst [v1, v2]) := (upd_ne npLA).trans hp
            have hv1' := hv1.kt (KT.lst hL2.la (o := .lst (ps.map V.ref).reverse))
            have hv2' := hv2.kt (KT.lst hL2.la (o := .lst (ps.map V.ref).reverse))
            revert hL4 s4 hp4 hv1' hv2'
            generalize (upd H3 LA (.lst (ps.map V.ref).reverse)) = H4
            intro hL4 s4 hp4 hv1' hv2'
            refine ⟨p, _, rfl, SqL.of hp4, rfl, _, _, rfl, _, _, rfl, rfl, ?_⟩
            obtain ⟨a1, rfl, ha1⟩ := hv1'
            obtain ⟨a2, rfl, ha2⟩ := hv2'
            have hat4 := hL4.at_
            cases lv' with
            | nil => exact absurd rfl hrel'.ne
            | cons ys lv' =>
            cases hat4 with
            | @cons q _ qs _ h0 tt =>
            obtain ⟨us, hq, hus⟩ := h0
            have hle := hrel'.le (.pr l r) (by simp)
            simp only [Tr.size] at hle
            have hroom := hrel'.room
            have hul := Paired.length hus
            refine ⟨_, rfl, _, rfl, LA, _, _, .ref q, rfl, rfl, SqL.of hL4.la, ?_, .inl ⟨rfl, _, SqL.of hq⟩, _, rfl, _, rfl, a1, a2, l, r, rfl, ha1, ha2, by omega, fun z H5 s5 _ h5 => ?_⟩
            · rw [List.map_cons, List.reverse_cons]
              exact atI_last _ _
            · have hq5 := s5 _ _ hq
              refine ⟨q, us, _, rfl, rfl, hq5, by omega, ?_⟩
              have hL6 := (hL4.same s5).put hq5 ⟨z, rfl, h5⟩
              have hfq : H q = none := hfr q (by simp)
              refine ⟨_, _, _, _, q :: qs, (ys ++ [Tr.pr l r]) :: lv', ws, b, rfl, (s4.trans s5).set hfq, hL6, fun p' hp' => hfr p' (List.mem_cons_of_mem _ hp'), hrel'.app, ?_, ?_⟩
              · rw [← hdr]
              · simp only [osz] at hb
                omega
        | some x =>
          have hroom2 := hrel.top
          have hd : due lv b = (if b = 4000 then ("." : Str) else (".(" : Str)) := by
            unfold due
            rw [hnw, if_neg Bool.false_ne_true, if_neg hroom2]
          rw [hd]
          cases x with
          | nil =>
            simp only [wout, Tr.codes, List.singleton_append, List.cons.injEq] at hdr
            obtain ⟨rfl, hdr⟩ := hdr
            have hmem : (46 : Nat) ∈ (if b = 4000 then ("." : Str) else (".(" : Str)).cps.toList := by
              split
              · exact m46
              · exact m46b
            rw [due_in hmem]
            refine iteF ?_
            refine ⟨_, rfl, rfl, _, rfl, ?_⟩
            have e1 : decide (V.str ⟨#[46]⟩ = V.str "(") = false := by decide +kernel
            rw [e1]
            refine iteF ?_
            refine ⟨_, rfl, rfl, _, rfl, ?_⟩
            have e2 : decide (V.str ⟨#[46]⟩ = V.str ")") = false := by decide +kernel
            rw [e2]
            refine iteF ?_
            have hat := hL2.at_
            cases lv with
            | nil => exact absurd rfl hrel.ne
            | cons ys lv =>
            cases hat with
            | @cons q _ qs _ h0 tt =>
            obtain ⟨us, hq, hus⟩ := h0
            have hroom := hrel.room
            have hul := Paired.length hus
            refine ⟨_, rfl, _, rfl, LA, _, _, .ref q, rfl, rfl, SqL.of hL2.la, ?_, .inl ⟨rfl, _, SqL.of hq⟩, fun z H5 s5 _ h5 => ?_⟩
            · rw [List.map_cons, List.reverse_cons]
              exact atI_last _ _
            · have hq5 := s5 _ _ hq
              refine ⟨q, us, _, rfl, rfl, hq5, by omega, ?_⟩
              have hL6 := (hL2.same s5).put hq5 ⟨z, rfl, h5⟩
              have hfq : H q = none := hfr q (by simp)
              refine ⟨_, _, _, _, q :: qs, (ys ++ [Tr.nil]) :: lv, ws, b, rfl, (s2.trans s5).set hfq, hL6, fun p' hp' => hfr p' (by simpa using hp'), hrel.app, ?_, ?_⟩
              · rw [← hdr]
              · simp only [osz, Tr.size] at hb
                omega
          | pr l r =>
            simp only [wout, Tr.codes, List.cons_append, List.cons.injEq] at hdr
            obtain ⟨rfl, hdr⟩ := hdr
            simp only [osz, Tr.size] at hb
            have hb4 : ¬ b = 4000 := by omega
            rw [if_neg hb4, due_in m40b]
            refine iteF ?_
            refine ⟨_, rfl, rfl, _, rfl, ?_⟩
            have e1 : decide (V.str ⟨#[40]⟩ = V.str "(") = true := by decide +kernel
            rw [e1]
            refine iteT ?_
            refine ⟨_, rfl, _, _, rfl, rfl, ?_⟩
            refine ⟨_, rfl, .inl ⟨rfl, _, SqL.of hL2.la⟩, Nat.zero_le _, fun q nq => ?_⟩
            have nqL : LA ≠ q := ne_of_none hL2.la nq
            refine ⟨LA, _, _, rfl, rfl, (upd_ne nqL).trans hL2.la, ?_, ?_⟩
            · rw [List.length_reverse, List.length_map]
              omega
            · refine ⟨some (.int (i : Nat)), some (.str ⟨#[40]⟩), x5, x6, q :: ps, [] :: lv, some l :: some r :: none :: ws, b + 1, ?_, (s2.trans (Same.new nq)).set hLA, hL2.open_ nq, fun p' hp' => ?_, .l0 hrel, ?_, ?_⟩
              · simp
              · rcases List.mem_cons.mp hp' with rfl | hp'
                · exact s2.free nq
                · exact hfr p' hp'
              · rw [← hdr, wouts_cons, wouts_cons, wouts_cons]
                simp [wout]
              · rw [oszs_cons, oszs_cons, oszs_cons]
                simp only [osz]
                omega
    · rintro σ H1 ⟨x3, x4, x5, x6, ps, lv, ws, b, rfl, s1, hL, hfr, hrel, hws, hb⟩
      have hw0 : ws = [] := by
        rw [hn, List.drop_length] at hws
        cases ws with
        | nil => rfl
        | cons p ws =>
          rw [wouts_cons] at hws
          cases p with
          | none => simp [wout] at hws
          | some x => cases x <;> simp [wout, Tr.codes] at hws
      subst hw0
      have hlv := hrel.done
      subst hlv
      refine ⟨_, rfl, LA, ps, _, rfl, hL, by simp, _, rfl, ?_⟩
      refine iteF ?_
      have la := hL.la
      have hat := hL.at_
      cases hat with
      | @cons q _ qs _ h0 tt =>
      cases tt
      obtain ⟨us, hq, hus⟩ := h0
      cases hus with
      | @cons v _ vs _ hv hvs =>
      cases hvs
      obtain ⟨a, rfl, ha⟩ := hv
      exact ⟨_, rfl, LA, _, _, .ref q, rfl, rfl, SqL.of la, rfl, q, _, _, .ref a, rfl, rfl, SqL.of hq, rfl, k a H1 s1 ha⟩
end
end Js
set_option Elab.async false
set_option linter.all false
set_option maxRecDepth 100000
set_option maxHeartbeats 2000000
namespace Js
open PySem L2
open PySem PySem.Spec PyProof.Rows L2
abbrev sGood17 : Stmt := top 72
structure RfP (K : PySem.W.Frag) (mg : Str → Option Value) (NP : Addr) : Prop where
  tg : NpC K mg NP
  xf : XfC K NP
  xc : XcC K NP
  ex : PySem.W.exmOne K (.ref NP) (.ref NP) = some true
  oth : ∃ n1 n2 n3 n4 n5 n6 : Addr, mg "NoName" = some (.ref n1) ∧ mg "NoRoom" = some (.ref n2) ∧ mg "NoSaying" = some (.ref n3) ∧ mg "NoStep" = some (.ref n4) ∧ mg "NoText" = some (.ref n5) ∧ mg "TooGreat" = some (.ref n6) ∧
    PySem.W.kitAny K (.ref NP) [.ref n1, .ref n2, .ref n3, .ref n4, .ref n5, .ref n6] = some false
theorem takesN17 {X : Cx} : L2N.Takes X (fun _ _ _ _ => False) := fun u s' x => by
  obtain ⟨_, _, _, _, _, _, _, _, _, _, _, _, _, _, _, _, h⟩ := x
  exact h.elim
theorem zc_of17 {cls : Value} {d : Option Addr} {oe : Obj} (h : L2N.Zn cls d oe) : Zc cls d oe := ⟨h.1, h.2.1⟩
def spGood17 : Sp := fun vs H Q _ => ∃ t : Tr, vs = [.str t.text] ∧ t.size ≤ 4000 ∧ ∀ H', Same H H' → Q (.bl true) H'
section
variable {P : Program} {w : World} {K : PySem.W.Frag} {mg : Str → Option Value} {base : Heap} {C CP NP fP : Addr} {fdP : FuncData}
theorem scGd17 : FnScope ["_law_text", "_law_thing_here", "_law_place", "_law_broken", "_law_found", "e", "_law_other"] ["_law_text"] (defScope sGood17) := ⟨rfl, rfl, rfl, by decide +kernel, rfl, by decide +kernel, by decide +kernel⟩
theorem ok_good17 {f : Addr} {fd : FuncData} (F : Fun K "_law_good" "_law_good" sGood17 f fd) (B : Blt mg) (mbo : mg "bool" = none) (kbb : PySem.W.kitOne K (.type "bool") (.type "bool") = some true) (kib : PySem.W.kitOne K (.type "int") (.type "bool") = some false) (T : Txt K mg C) (TP : TxtP K mg CP) (G : RfP K mg NP) (SS : Spc P w K mg base C "__str__" 2 ["self"] (spStr C)) (DRe : Def P w K mg base "read_thing" 4 ["text"] (spRead C)) (DWr : Def P w K mg base "_law_wrong" 14 ["_law_text", "_law_deep", "_law_at"] (spWr17 9)) (DIc : Def P w K mg base "is_code" 35 ["thing"] (spIsCodeW C)) (DCo : Def P w K mg base "code_of" 33 ["program"] (spCodeOf K C CP)) (GP : FnOk P w K mg base (L2N.CX P w) 34 fP fdP ["thing"] (spProgP K C CP NP)) (mgP : mg "program_of" = some (.ref fP)) (kP : PySem.W.keepIn K (.ref fP) = true) (bP : Binds K fdP ["thing"] []) : FnOk P w K mg base CX0 36 f fd ["_law_text"] spGood17 := by
  obtain ⟨n1, n2, n3, n4, n5, n6, m1, m2, m3, m4, m5, m6, kA⟩ := G.oth
  refine F.ok scGd17 (fun vs H Q E h => ?_) (fun cdv A outer s H vs Q E hr h => ?_)
  · obtain ⟨t, rfl, _⟩ := h
    rfl
  · obtain ⟨t, rfl, hz, k⟩ := h
    have hr2 : Room 2 _ := hr.mono (by decide)
    have hr4 : Room 4 _ := hr.mono (by decide)
    have hr14 : Room 14 _ := hr.mono (by decide)
    have hr33 : Room 33 _ := hr.mono (by decide)
    have hr34 : Room 34 _ := hr.mono (by decide)
    have hr35 : Room 35 _ := hr
    refine ⟨_, PSs.nox (pss_cons (ps_set (i := 1) scGd17.nd rfl (Or.inl rfl) (pe_def DRe hr4 rfl (pa_cons (pv 0) pa_nil))) (pss_cons (ps_asg (pe_def DWr hr14 rfl (pa_cons (pv 0) (pa_cons pe_int (pa_cons pe_int pa_nil)))) (pg_lst rfl (pgs_cons (pg_name (i := 2) scGd17.nd rfl (Or.inl rfl)) (pgs_cons (pg_name (i := 3) scGd17.nd rfl (Or.inl rfl)) pgs_nil)))) (pss_cons (ps_if (PW.pt (pw_or (pt_cmpR op_ne (pe_def DIc hr35 rfl (pa_cons (pv 1) pa_nil)) (pe_not (pv 3)) (nomark _)) (pw_or1 (pt_not (pt_val (pe_callB (r := rIsi K) call_isi (by rfl) T.isi PyProof.Rows.boot_isinstance (pa_cons (pe_def DIc hr35 rfl (pa_cons (pv 1) pa_nil)) (pa_cons (pe_bltn (v := .ty "bool") rfl mbo PyProof.Rows.boot_bool rfl) pa_nil)))))))) (pss_one (ps_ret pe_bl)) pss_nil) (pss_cons (L2N.ps_try_as (i := 5) (tb := fun W => tAsg (tCallS (spProgP K C CP NP) (WE W) (tCons (tVar 1) tNil)) (gName 4)) (Wout := fun _ _ _ _ => False) rfl rfl scGd17.nd rfl rfl ⟨rfl, by decide, Or.inl G.tg.mgN⟩ takesN17 (fun W pn xe tk _ => (pss_one (ps_set (i := 4) scGd17.nd rfl (Or.inl rfl) (by exact (pe_callS GP hr34 rfl mgP kP bP (fun σ => L2N.passAt tk σ) (by exact (pa_cons (pv 1) pa_nil))))))) (fun a oe cls d pn hz hf => (pss_cons (ps_set (i := 6) scGd17.nd rfl (Or.inl rfl) (pe_callB (call_isXt G.xc (zc_of17 hz) hf) (by rfl) T.isi PyProof.Rows.boot_isinstance (pa_cons (pv 5) (pa_cons (pe_tup (pa_cons (pe_glob (v := .ref n1) rfl m1 rfl) (pa_cons (pe_glob (v := .ref n2) rfl m2 rfl) (pa_cons (pe_glob (v := .ref n3) rfl m3 rfl) (pa_cons (pe_glob (v := .ref n4) rfl m4 rfl) (pa_cons (pe_glob (v := .ref n5) rfl m5 rfl) (pa_cons (pe_glob (v := .ref n6) rfl m6 rfl) pa_nil))))))) pa_nil)))) (pss_one (ps_ret (pe_and (pv 3) (pe_and (pe_cmpR op_eq (pe_xf G.xf G.tg.bd (zc_of17 hz) hf (pv 5)) (pv 2) (nomark _)) (pe_and (pe_not (pe_callB (r := rIsi K) call_isi (by rfl) T.isi PyProof.Rows.boot_isinstance (pa_cons (pe_xf G.xf G.tg.bd (zc_of17 hz) hf (pv 5)) (pa_cons (pe_bltn (v := .ty "bool") rfl mbo PyProof.Rows.boot_bool rfl) pa_nil)))) (pe_one (pe_not (pv 6))))))))))) (pss_one (ps_ret (pe_and (pe_not (pv 3)) (pe_and (pe_callB (r := rIsi K) call_isi (by rfl) T.isi PyProof.Rows.boot_isinstance (pa_cons (pv 4) (pa_cons (pe_glob (v := .ref CP) rfl TP.mgP rfl) pa_nil))) (pe_and (pe_cmpR op_eq (pe_callTy (call_strT SS hr4) (by rfl) B.str PyProof.Rows.boot_str (pa_cons (pe_def DCo hr33 rfl (pa_cons (pv 4) pa_nil)) pa_nil)) (pv 0) (nomark _)) (pe_one (pe_cmpR op_eq (pe_callTy (call_strT SS hr4) (by rfl) B.str PyProof.Rows.boot_str (pa_cons (pv 1) pa_nil)) (pv 0) (nomark _)))))))))))), ?_⟩
    have hsl := line4
    refine ⟨_, rfl, t, rfl, hz, fun y H1 s1 hy => ?_⟩
    refine ⟨_, rfl, t, 8, 0, rfl, by decide, by decide, by omega, fun p H2 s2 hp => ?_⟩
    have hy2 := hy.same s2
    have s02 := s1.trans s2
    have isc : ∀ (σ : L2.St) (G0 : Hp) (QQ : VK), σ[1]? = some (some (.ref y)) → Same H2 G0 → (∀ G1, Same G0 G1 → QQ (.bl (!(wrM 8 t 0).1)) G1) → tCall (spIsCodeW C) [] E0 (tCons (tVar 1) tNil) σ G0 QQ := fun σ G0 QQ e1 s0 q => by
      refine ⟨_, e1, y, t, rfl, hy2.same s0, hz, fun G1 sG => ?_⟩
      cases hw : wrM 8 t 0 with
      | mk bb m =>
        rw [hw] at q
        cases bb with
        | true =>
          refine ⟨fun z => ?_, fun _ => q G1 sG⟩
          obtain ⟨r, rfl, h1, h2, h3⟩ := z
          exact absurd (code_okRow h1 h2 h3) (wr_true hw)
        | false => exact ⟨fun _ => q G1 sG, fun z => absurd (wr_false hw) z⟩
    refine ⟨p, _, rfl, SqL.of hp, rfl, _, _, rfl, _, _, rfl, rfl, ?_⟩
    refine isc _ _ _ rfl (Same.refl _) fun H3 s3 => ?_
    refine ⟨_, rfl, _, rfl, rfl, _, rfl, iteF' (by rw [decide_eq_true rfl]; rfl) ?_⟩
    refine isc _ _ _ rfl s3 fun H4 s4 => ?_
    refine ⟨_, _, _, _, true, rfl, .ty "bool", .base (.bl _), kbb, _, rfl, iteF ?_⟩
    have s24 := s3.trans s4
    have s04 := s02.trans s24
    have hy4 := hy2.same s24
    unfold tNext
    dsimp only
    cases hw : wrM 8 t 0 with
    | mk bb m =>
      cases bb with
      | true =>
        refine ⟨_, rfl, y, t, rfl, hy4, hz, fun r hok _ => absurd ⟨r, hok⟩ (wr_true hw), fun m' hem d H5 s5 hd => ?_⟩
        have hm : m' = m := by
          have h1 : wrM 8 t 0 = (true, m') := hem
          rw [hw] at h1
          cases h1
          rfl
        subst hm
        refine ⟨true, G.ex, fun _ a0 _ => ?_, fun q => Bool.noConfusion q⟩
        refine ⟨_, rfl, by show 6 ≤ sizeLine; decide, fun tp ntp => ?_⟩
        have st : Same H5 (upd H5 tp (.tup [.ref n1, .ref n2, .ref n3, .ref n4, .ref n5, .ref n6])) := Same.new ntp
        have hd' := st _ _ hd
        refine ⟨tp, _, _, false, d, _, rfl, upd_same, .cons (.own _) (.cons (.own _) (.cons (.own _) (.cons (.own _) (.cons (.own _) (.cons (.own _) .nil))))), rfl, rfl, hd', kA, ?_⟩
        revert st hd'
        generalize upd H5 tp (.tup [.ref n1, .ref n2, .ref n3, .ref n4, .ref n5, .ref n6]) = H6
        intro st hd'
        refine ⟨_, rfl, true, rfl, iteT ?_⟩
        refine ⟨_, rfl, rfl, rfl, d, _, .int ((m' : Nat) : Int), rfl, hd', rfl, _, rfl, rfl, true, congrArg V.bl (decide_eq_true rfl), iteT ?_⟩
        refine ⟨_, rfl, rfl, rfl, d, _, .int ((m' : Nat) : Int), rfl, hd', rfl, _, _, _, _, false, rfl, .ty "bool", .base (.int _), kib, false, rfl, _, rfl, iteT ?_⟩
        exact ⟨_, rfl, _, rfl, k H6 ((s04.trans s5).trans st)⟩
      | false =>
        refine ⟨_, rfl, y, t, rfl, hy4, hz, fun r hok hee z H5 s5 nz hz5 => ?_, fun m' hem => ?_⟩
        · obtain ⟨ec, hr1, hr2, hr3⟩ := okRow_code hz hok
          obtain ⟨dz, qz, plz, yz, hpa, hqz, _, _⟩ := id hz5.ex
          refine ⟨_, rfl, false, rfl, true, rfl, iteT ?_⟩
          refine ⟨_, rfl, _, _, _, _, true, rfl, ClsV.own CP, .base (.ins hpa TP.cl TP.ca TP.cn TP.ct TP.cm), kit_self _ _, true, rfl, iteT ?_⟩
          refine ⟨_, rfl, z, r, rfl, hz5, by rw [← ec]; exact hz, fun x H6 s6 hx => ?_⟩
          rw [← ec] at hx
          refine ⟨x, t, rfl, hx, hz, fun H7 s7 => ⟨_, rfl, rfl, true, congrArg V.bl (decide_eq_true rfl), iteT ?_⟩⟩
          have s57 := s6.trans s7
          refine ⟨_, rfl, y, t, rfl, hy4.same (s5.trans s57), hz, fun H8 s8 => ⟨_, rfl, rfl, ?_⟩⟩
          rw [decide_eq_true rfl]
          exact k H8 ((s04.trans (s5.trans s57)).trans s8)
        · have h1 : wrM 8 t 0 = (true, m') := hem
          rw [hw] at h1
          cases h1
end
end Js
set_option Elab.async false
set_option linter.all false
set_option maxRecDepth 100000
set_option maxHeartbeats 2000000
namespace Js
open PySem L2
open PySem.Spec PyProof.Rows
theorem pr_not_dot17 (X : List Nat) : decide (V.str (tx (40 :: X)) = V.str ".") = false := by
  refine decide_eq_false fun z => ?_
  have h : tx (40 :: X) = tx [46] := (V.str.inj z).trans c_46
  have := tx_inj h
  cases this
def spHeadS : Sp := fun vs H Q _ => ∃ (l : Tr) (ZR : List Nat), vs = [.str (tx (40 :: (l.codes ++ ZR)))] ∧ l.size ≤ 20000 ∧ ZR.length ≤ 30000 ∧ ∀ H', Same H H' → Q (.str l.text) H'
section
variable {P : Program} {w : World} {K : PySem.W.Frag} {mg : Str → Option Value} {base : Heap} {C fI : Addr} {fdI : FuncData}
theorem scHS17 : FnScope ["_law_text", "_law_at", "_law_opened"] ["_law_text"] (defScope sHeadX) := ⟨rfl, rfl, rfl, by decide +kernel, rfl, by decide +kernel, by decide +kernel⟩
theorem ok_headS {f : Addr} {fd : FuncData} (F : Fun K "_law_head" "_law_head" sHeadX f fd) : FnOk P w K mg base CX0 1 f fd ["_law_text"] spHeadS := by
  refine F.ok scHS17 (fun vs H Q E h => ?_) (fun cdv A outer s H vs Q E hr h => ?_)
  · obtain ⟨l, ZR, rfl, _⟩ := h
    rfl
  · obtain ⟨l, ZR, rfl, hz, hZR, k⟩ := h
    refine ⟨_, pss_cons (ps_if (pt_cmpR op_eq (pv 0) pe_str (nomark _)) (pss_one (ps_ret pe_str)) pss_nil)
      (pss_cons (ps_asg (pe_tup (pa_cons pe_int (pa_cons pe_int pa_nil))) (pg_tup rfl (pgs_cons (pg_name (i := 1) scHS17.nd rfl (Or.inl rfl)) (pgs_cons (pg_name (i := 2) scHS17.nd rfl (Or.inl rfl)) pgs_nil))))
      (pss_cons (ps_while PassesOwn.never (PW.pt (pw_or (pt_cmpR op_eq (pv 1) pe_int (nomark _)) (pw_or1 (pt_cmpR op_gt (pv 2) pe_int (nomark _)))))
        (pss_cons (ps_set (i := 2) scHS17.nd rfl (Or.inl rfl) (pe_op op_add (pv 2) (pe_ix ix_list (pe_lst (pa_cons pe_int (pa_cons pe_int (pa_cons (pe_un un_neg pe_int) pa_nil)))) (pe_m1 PySem.F.slot_str_index PySem.F.type_str_index mt_sindex pe_str (pe_ix ix_str (pv 0) (pv 1) (fun _ _ => rfl))) (fun _ _ => rfl))))
        (pss_one (ps_set (i := 1) scHS17.nd rfl (Or.inl rfl) (pe_op op_add (pv 1) pe_int)))))
      (pss_one (ps_ret (pe_slice sl_str (pv 0) (po_some pe_int) (po_some (pv 1))))))), ?_⟩
    have hsl := line4
    refine ⟨_, rfl, rfl, _, rfl, ?_⟩
    rw [pr_not_dot17]
    refine iteF ?_
    refine ⟨(by show 2 ≤ sizeLine; decide), fun q0 nq0 => ?_⟩
    refine ⟨q0, _, rfl, SqT.of upd_same, rfl, _, _, rfl, _, _, rfl, rfl, ?_⟩
    have hcl := Tr.codes_len l
    have hcl0 : 0 < l.codes.length := by omega
    refine ⟨fun m σ H' => ∃ j, j ≤ l.codes.length ∧ σ = [some (.str (tx (40 :: (l.codes ++ ZR)))), some (.int ((1 + j : Nat) : Int)), some (.int (dep (l.codes.take j)))] ∧ Same H H' ∧ m = l.codes.length - j, ⟨_, 0, Nat.zero_le _, rfl, Same.new nq0, rfl⟩, ?_⟩
    rintro m σ H' ⟨j, hj, rfl, s1, rfl⟩
    by_cases hlt : j < l.codes.length
    · have goon : (∀ (R : Bool → Hp → Prop), R true H' → (tOr (tTest (tOp rEq (tVar 1) (tC (.int 1)))) (tTest (tOp (rI0 fun i j => .bl (decide (j < i))) (tVar 2) (tC (.int 0))))) [some (.str (tx (40 :: (l.codes ++ ZR)))), some (.int ((1 + j : Nat) : Int)), some (.int (dep (l.codes.take j)))] H' R) := by
        intro R hR
        refine ⟨_, rfl, rfl, _, rfl, ?_⟩
        by_cases h0 : j = 0
        · subst h0
          exact iteT hR
        · have e1 : decide (V.int ((1 + j : Nat) : Int) = V.int 1) = false := by
            simp only [decide_eq_false_iff_not, V.int.injEq]
            omega
          rw [e1]
          refine iteF ?_
          have hd := dep_pos l j (by omega) hlt
          refine ⟨_, rfl, _, _, rfl, rfl, _, rfl, ?_⟩
          rw [decide_eq_true hd]
          exact hR
      refine goon _ ?_
      refine iteT ⟨fun σ' H2 => ∃ m', m' < l.codes.length - j ∧ _, fun σ' H2 z => z, ?_⟩
      refine ⟨_, rfl, _, rfl, (by show 3 ≤ sizeLine; decide), fun q nq => ?_⟩
      have hc : l.codes[j]? = some l.codes[j] := List.getElem?_eq_getElem hlt
      have hcc : (tx (40 :: (l.codes ++ ZR))).cps.toList[1 + j]? = some l.codes[j] := by
        show (40 :: (l.codes ++ ZR))[1 + j]? = _
        rw [Nat.add_comm, List.getElem?_cons_succ, List.getElem?_append_left hlt, hc]
      obtain ⟨i, rest, ho, hat⟩ := sgn_ix _ (codes_sign l _ (List.getElem_mem hlt))
      refine ⟨⟨_, rfl⟩, _, rfl, _, rfl, _, _, _, rfl, rfl, ?_, atI_nat hcc, _, _, i, rest, rfl, rfl, ho, q, _, _, _, rfl, rfl, SqL.of upd_same, hat, _, _, rfl, rfl, ?_⟩
      · rw [tx_len]
        simp only [List.length_cons, List.length_append]
        omega
      · refine ⟨_, rfl, _, _, rfl, rfl, ?_⟩
        refine ⟨l.codes.length - (j + 1), by omega, j + 1, hlt, ?_, s1.trans (Same.new nq), rfl⟩
        have e1 : ((1 + j : Nat) : Int) + 1 = ((1 + (j + 1) : Nat) : Int) := by omega
        have e2 : dep (l.codes.take j) + dp1 l.codes[j] = dep (l.codes.take (j + 1)) := by
          rw [List.take_succ_eq_append_getElem hlt, dep_append, dep_cons, dep_nil]
          omega
        show [some (V.str (tx (40 :: (l.codes ++ ZR)))), some (V.int (((1 + j : Nat) : Int) + 1)), some (V.int (dep (l.codes.take j) + dp1 l.codes[j]))] = _
        rw [e1, e2]
    · have hjl : j = l.codes.length := by omega
      subst hjl
      refine ⟨_, rfl, rfl, _, rfl, ?_⟩
      have e1 : decide (V.int ((1 + l.codes.length : Nat) : Int) = V.int 1) = false := by
        simp only [decide_eq_false_iff_not, V.int.injEq]
        omega
      rw [e1]
      refine iteF ?_
      refine ⟨_, rfl, _, _, rfl, rfl, _, rfl, ?_⟩
      have e2 : decide ((0 : Int) < dep (l.codes.take l.codes.length)) = false := by
        rw [List.take_length, dep_codes]
        decide
      rw [e2]
      refine iteF ?_
      refine ⟨_, rfl, _, rfl, _, rfl, _, rfl, _, rfl, ?_, ?_⟩
      · rw [tx_len]
        simp only [List.length_cons, List.length_append]
        omega
      · have e3 : cutS (tx (40 :: (l.codes ++ ZR))) (some (1 : Int)) (some ((1 + l.codes.length : Nat) : Int)) = l.text := by
          have := cut_tx (40 :: (l.codes ++ ZR)) 1 (1 + l.codes.length) (by omega) (by simp only [List.length_cons, List.length_append]; omega)
          refine this.trans ?_
          rw [tx_text]
          congr 1
          show (l.codes ++ ZR).take (1 + l.codes.length - 1) = _
          rw [Nat.add_sub_cancel_left, List.take_left]
        show Q (.str (cutS (tx (40 :: (l.codes ++ ZR))) (some (1 : Int)) (some ((1 + l.codes.length : Nat) : Int)))) H'
        rw [e3]
        exact k H' s1
end
end Js
set_option Elab.async false
set_option linter.all false
set_option maxRecDepth 100000
set_option maxHeartbeats 2000000
namespace Js
open PySem L2
open PySem PySem.Spec PyProof.Rows L2
abbrev sTo17 : Stmt := top 68
def inT (pre : List Nat) (l r : Tr) (ZR : List Nat) : List Nat := pre ++ (40 :: (l.codes ++ (r.codes ++ ZR)))
theorem seq17h {a b : TS} {D : Ends} {σ : L2.St} {H : Hp} (P : L2.St → Hp → Prop) (ha : ∀ D' : Ends, (∀ σ' H', P σ' H' → D'.nx σ' H') → D'.rt = D.rt → a D' σ H) (hb : ∀ σ' H', P σ' H' → b D σ' H') : tSeq a b D σ H := ha { D with nx := b D } hb rfl
theorem cut_from17 (cs : List Nat) (i : Nat) (h : i ≤ cs.length) : cutS (tx cs) (some ((i : Nat) : Int)) none = tx (cs.drop i) := by
  unfold cutS
  rw [HT.sIx_nat, HT.sIx_none, tx_len, tx_list, Nat.min_eq_left h, List.take_of_length_le (by rw [List.length_drop]; omega)]
  rfl
def spTailS : Sp := fun vs H Q _ => ∃ (pre : List Nat) (l r : Tr) (ZR : List Nat), vs = [.str (tx (inT pre l r ZR)), .int (pre.length : Nat)] ∧ l.size ≤ 20000 ∧ (inT pre l r ZR).length ≤ 30000 ∧ ∀ H', Same H H' → Q (.str r.text) H'
section
variable {P : Program} {w : World} {K : PySem.W.Frag} {mg : Str → Option Value} {base : Heap} {C : Addr}
theorem scTo17 : FnScope ["_law_text", "_law_at", "_law_start", "_law_opened", "_law_end"] ["_law_text", "_law_at"] (defScope sTo17) := ⟨rfl, rfl, rfl, by decide +kernel, rfl, by decide +kernel, by decide +kernel⟩
theorem ok_tailS {f : Addr} {fd : FuncData} (F : Fun K "_law_tail_of" "_law_tail_of" sTo17 f fd) (B : Blt mg) (DHS : Def P w K mg base "_law_head" 1 ["_law_text"] spHeadS) : FnOk P w K mg base CX0 2 f fd ["_law_text", "_law_at"] spTailS := by
  refine F.ok scTo17 (fun vs H Q E h => ?_) (fun cdv A outer s H vs Q E hr h => ?_)
  · obtain ⟨pre, l, r, ZR, rfl, _⟩ := h
    rfl
  · obtain ⟨pre, l, r, ZR, rfl, hz, hlen, k⟩ := h
    have hr1 : Room 1 _ := hr.mono (by decide)
    refine ⟨_, pss_cons (ps_set (i := 2) scTo17.nd rfl (Or.inl rfl) (pe_op op_add (pe_op op_add (pv 1) pe_int) (pe_callB call_len_str (by rfl) B.len PySem.boot_len (pa_cons (pe_def DHS hr1 rfl (pa_cons (pe_slice sl_str (pv 0) (po_some (pv 1)) po_none) pa_nil)) pa_nil)))) (pss_cons (ps_par (i := 3) (j := 4) (by rfl) scTo17.nd rfl rfl (by decide) rfl rfl (pa_cons pe_int (pa_cons (pv 2) pa_nil)) (by rfl)) (pss_cons (ps_while PassesOwn.never (PW.pt (pw_or (pt_cmpR op_eq (pv 4) (pv 2) (nomark _)) (pw_or1 (pt_cmpR op_gt (pv 3) pe_int (nomark _))))) (pss_cons (ps_set (i := 3) scTo17.nd rfl (Or.inl rfl) (pe_op op_add (pv 3) (pe_ix ix_list (pe_lst (pa_cons pe_int (pa_cons pe_int (pa_cons (pe_un un_neg pe_int) pa_nil)))) (pe_m1 PySem.F.slot_str_index PySem.F.type_str_index mt_sindex pe_str (pe_ix ix_str (pv 0) (pv 4) (fun _ _ => rfl))) (fun _ _ => rfl)))) (pss_one (ps_set (i := 4) scTo17.nd rfl (Or.inl rfl) (pe_op op_add (pv 4) pe_int))))) (pss_one (ps_ret (pe_slice sl_str (pv 0) (po_some (pv 2)) (po_some (pv 4))))))), ?_⟩
    have hsl := line4
    have hlen' : (inT pre l r ZR).length = pre.length + 1 + l.codes.length + r.codes.length + ZR.length := by
      unfold inT
      simp only [List.length_append, List.length_cons]
      omega
    have hcl := Tr.codes_len l
    have hcr := Tr.codes_len r
    have hcr0 : 0 < r.codes.length := by omega
    obtain ⟨st, hst⟩ : ∃ st, pre.length + 1 + l.codes.length = st := ⟨_, rfl⟩
    refine seq17h (a := tAsg _ _) (fun σ' H' => σ' = [some (.str (tx (inT pre l r ZR))), some (.int ((pre.length : Nat) : Int)), some (.int ((st : Nat) : Int)), none, none] ∧ Same H H') (fun D' hD hrt => ?_) ?_
    · refine ⟨_, rfl, _, _, rfl, rfl, _, rfl, _, rfl, _, rfl, _, rfl, by rw [tx_len]; omega, ?_⟩
      have e1 : cutS (tx (inT pre l r ZR)) (some ((pre.length : Nat) : Int)) none = tx (40 :: (l.codes ++ (r.codes ++ ZR))) := by
        have := cut_from17 (inT pre l r ZR) pre.length (by omega)
        rw [this]
        unfold inT
        rw [List.drop_left]
      rw [e1]
      refine ⟨l, r.codes ++ ZR, rfl, hz, by rw [List.length_append]; omega, fun H1 s1 => ?_⟩
      refine ⟨_, rfl, by rw [tx_text, tx_len]; omega, _, _, rfl, rfl, ?_⟩
      refine hD _ _ ⟨?_, s1⟩
      rw [tx_text, tx_len]
      show [_, _, some (V.int (((pre.length : Nat) : Int) + 1 + ((l.codes.length : Nat) : Int))), _, _] = _
      rw [show ((pre.length : Nat) : Int) + 1 + ((l.codes.length : Nat) : Int) = ((st : Nat) : Int) by omega]
    rintro σ1 H1 ⟨rfl, s1⟩
    refine ⟨_, rfl, _, _, rfl, ?_⟩
    have hget : ∀ j, j < r.codes.length → (inT pre l r ZR)[st + j]? = r.codes[j]? := fun j hj => by
      unfold inT
      rw [List.getElem?_append_right (by omega), show st + j - pre.length = (l.codes.length + j) + 1 by omega, List.getElem?_cons_succ, List.getElem?_append_right (by omega), show l.codes.length + j - l.codes.length = j by omega, List.getElem?_append_left hj]
    refine ⟨fun m σ' H' => ∃ j, j ≤ r.codes.length ∧ σ' = [some (.str (tx (inT pre l r ZR))), some (.int ((pre.length : Nat) : Int)), some (.int ((st : Nat) : Int)), some (.int (dep (r.codes.take j))), some (.int ((st + j : Nat) : Int))] ∧ Same H H' ∧ m = r.codes.length - j, ⟨_, 0, Nat.zero_le _, rfl, s1, rfl⟩, ?_⟩
    rintro m σ H' ⟨j, hj, rfl, s2, rfl⟩
    by_cases hlt : j < r.codes.length
    · have goon : (∀ (R : Bool → Hp → Prop), R true H' → (tOr (tTest (tOp rEq (tVar 4) (tVar 2))) (tTest (tOp (rI0 fun i j => .bl (decide (j < i))) (tVar 3) (tC (.int 0))))) [some (.str (tx (inT pre l r ZR))), some (.int ((pre.length : Nat) : Int)), some (.int ((st : Nat) : Int)), some (.int (dep (r.codes.take j))), some (.int ((st + j : Nat) : Int))] H' R) := by
        intro R hR
        refine ⟨_, rfl, _, rfl, rfl, _, rfl, ?_⟩
        by_cases h0 : j = 0
        · subst h0
          exact iteT' (decide_eq_true rfl) hR
        · refine iteF' (decide_eq_false (fun z => h0 (by have := V.int.inj z; omega))) ?_
          have hd := dep_pos r j (by omega) hlt
          refine ⟨_, rfl, _, _, rfl, rfl, _, rfl, ?_⟩
          rw [decide_eq_true hd]
          exact hR
      refine goon _ ?_
      refine iteT ⟨fun σ' H2 => ∃ m', m' < r.codes.length - j ∧ _, fun σ' H2 z => z, ?_⟩
      refine ⟨_, rfl, _, rfl, by show 3 ≤ sizeLine; decide, fun q nq => ?_⟩
      have hc : r.codes[j]? = some r.codes[j] := List.getElem?_eq_getElem hlt
      have hcc : (tx (inT pre l r ZR)).cps.toList[st + j]? = some r.codes[j] := by
        rw [tx_list, hget j hlt, hc]
      obtain ⟨i, rest, ho, hat⟩ := sgn_ix _ (codes_sign r _ (List.getElem_mem hlt))
      refine ⟨⟨_, rfl⟩, _, rfl, _, rfl, _, _, _, rfl, rfl, by rw [tx_len]; omega, atI_nat hcc, _, _, i, rest, rfl, rfl, ho, q, _, _, _, rfl, rfl, SqL.of upd_same, hat, _, _, rfl, rfl, ?_⟩
      refine ⟨_, rfl, _, _, rfl, rfl, ?_⟩
      refine ⟨r.codes.length - (j + 1), by omega, j + 1, hlt, ?_, s2.trans (Same.new nq), rfl⟩
      have e1 : ((st + j : Nat) : Int) + 1 = ((st + (j + 1) : Nat) : Int) := by omega
      have e2 : dep (r.codes.take j) + dp1 r.codes[j] = dep (r.codes.take (j + 1)) := by
        rw [List.take_succ_eq_append_getElem hlt, dep_append, dep_cons, dep_nil]
        omega
      show [some (V.str (tx (inT pre l r ZR))), some (V.int ((pre.length : Nat) : Int)), some (V.int ((st : Nat) : Int)), some (V.int (dep (r.codes.take j) + dp1 r.codes[j])), some (V.int (((st + j : Nat) : Int) + 1))] = _
      rw [e1, e2]
    · have hjl : j = r.codes.length := by omega
      subst hjl
      refine ⟨_, rfl, _, rfl, rfl, _, rfl, ?_⟩
      refine iteF' (decide_eq_false (fun z => by have := V.int.inj z; omega)) ?_
      refine ⟨_, rfl, _, _, rfl, rfl, _, rfl, ?_⟩
      refine iteF' (by rw [List.take_length, dep_codes]; decide) ?_
      refine ⟨_, rfl, _, rfl, _, rfl, _, rfl, _, rfl, _, rfl, by rw [tx_len]; omega, ?_⟩
      have e3 : cutS (tx (inT pre l r ZR)) (some ((st : Nat) : Int)) (some ((st + r.codes.length : Nat) : Int)) = r.text := by
        have := cut_tx (inT pre l r ZR) st (st + r.codes.length) (by omega) (by omega)
        refine this.trans ?_
        rw [tx_text]
        congr 1
        unfold inT
        rw [Nat.add_sub_cancel_left, List.drop_append, List.drop_of_length_le (by omega), List.nil_append, show st - pre.length = l.codes.length + 1 by omega, List.drop_succ_cons, List.drop_left, List.take_left]
      show Q (.str (cutS (tx (inT pre l r ZR)) (some ((st : Nat) : Int)) (some ((st + r.codes.length : Nat) : Int)))) H'
      rw [e3]
      exact k H' s2
end
end Js
set_option Elab.async false
set_option linter.all false
set_option maxRecDepth 100000
set_option maxHeartbeats 2000000
namespace Js
open PySem L2
open PySem PySem.Spec PyProof.Rows L2
abbrev sBe17 : Stmt := top 67
theorem at_sub : ∀ (t : Tr) (n c : Nat), t.codes[n]? = some c → c ≠ 41 → ∃ (u : Tr) (pre post : List Nat), t.codes = pre ++ (u.codes ++ post) ∧ pre.length = n ∧ u.codes[0]? = some c ∧ u.size ≤ t.size ∧ ∀ v : Tr, ∃ t' : Tr, t'.codes = pre ++ (v.codes ++ post) ∧ t'.size + u.size = t.size + v.size
  | .nil, 0, c, h, _ => ⟨.nil, [], [], rfl, rfl, h, Nat.le_refl _, fun v => ⟨v, by rw [List.nil_append, List.append_nil], Nat.add_comm _ _⟩⟩
  | .nil, n + 1, c, h, _ => by
    rw [Tr.codes] at h
    cases h
  | .pr l r, 0, c, h, _ => ⟨.pr l r, [], [], by rw [List.nil_append, List.append_nil], rfl, h, Nat.le_refl _, fun v => ⟨v, by rw [List.nil_append, List.append_nil], Nat.add_comm _ _⟩⟩
  | .pr l r, n + 1, c, h, hc => by
    have h' : (l.codes ++ (r.codes ++ [41]))[n]? = some c := h
    by_cases hl : n < l.codes.length
    · rw [List.getElem?_append_left hl] at h'
      obtain ⟨u, pre, post, e1, e2, e3, e5, e4⟩ := at_sub l n c h' hc
      refine ⟨u, 40 :: pre, post ++ (r.codes ++ [41]), ?_, by rw [List.length_cons, e2], e3, by rw [Tr.size]; omega, fun v => ?_⟩
      · show 40 :: (l.codes ++ (r.codes ++ [41])) = _
        rw [e1]
        simp
      · obtain ⟨t', g1, g2⟩ := e4 v
        refine ⟨.pr t' r, ?_, by rw [Tr.size, Tr.size]; omega⟩
        show 40 :: (t'.codes ++ (r.codes ++ [41])) = _
        rw [g1]
        simp
    · rw [List.getElem?_append_right (by omega)] at h'
      by_cases hr : n - l.codes.length < r.codes.length
      · rw [List.getElem?_append_left hr] at h'
        obtain ⟨u, pre, post, e1, e2, e3, e5, e4⟩ := at_sub r (n - l.codes.length) c h' hc
        refine ⟨u, 40 :: (l.codes ++ pre), post ++ [41], ?_, by rw [List.length_cons, List.length_append, e2]; omega, e3, by rw [Tr.size]; omega, fun v => ?_⟩
        · show 40 :: (l.codes ++ (r.codes ++ [41])) = _
          rw [e1]
          simp
        · obtain ⟨t', g1, g2⟩ := e4 v
          refine ⟨.pr l t', ?_, by rw [Tr.size, Tr.size]; omega⟩
          show 40 :: (l.codes ++ (t'.codes ++ [41])) = _
          rw [g1]
          simp
      · rw [List.getElem?_append_right (by omega)] at h'
        have : c = 41 := by
          have hm := List.mem_of_getElem? h'
          exact List.mem_singleton.mp hm
        exact absurd this hc
theorem chr_dec (c d : Nat) (x : Str) (hx : x = tx [d]) : decide (V.str (⟨#[c]⟩ : Str) = V.str x) = decide (c = d) := by
  by_cases h : c = d
  · subst h
    rw [decide_eq_true rfl, decide_eq_true]
    rw [hx]
    rfl
  · rw [decide_eq_false h, decide_eq_false]
    intro z
    have h1 : tx [c] = tx [d] := (V.str.inj z).trans hx
    have := tx_inj h1
    cases this
    exact h rfl
theorem codes0_ne (t : Tr) : ∃ c, t.codes[0]? = some c ∧ c ≠ 41 := by
  cases t with
  | nil => exact ⟨46, rfl, by decide⟩
  | pr l r => exact ⟨40, rfl, by decide⟩
theorem c_dd : (("(..)" : Str)) = tx [40, 46, 46, 41] := by decide +kernel
theorem cut_to17 (cs : List Nat) (i : Nat) (h : i ≤ cs.length) : cutS (tx cs) none (some ((i : Nat) : Int)) = tx (cs.take i) := by
  unfold cutS
  rw [HT.sIx_nat, HT.sIx_none, tx_len, tx_list, Nat.min_eq_left h, List.drop_zero, Nat.sub_zero]
  rfl
def spBe17 : Sp := fun vs H Q _ => ∃ (p : Addr) (t : Tr), vs = [.ref p, .str t.text] ∧ BagOk H p ∧ t.size ≤ 4000 ∧ ∀ (t' : Tr) H', KB p H H' → BagOk H' p → t'.size ≤ 2 * t.size + 12 → Q (.str t'.text) H'
section
variable {P : Program} {w : World} {K : PySem.W.Frag} {mg : Str → Option Value} {base : Heap} {C : Addr}
theorem scBe17 : FnScope ["_law_bag_here", "_law_text", "_law_at", "_law_one", "_law_some"] ["_law_bag_here", "_law_text"] (defScope sBe17) := ⟨rfl, rfl, rfl, by decide +kernel, rfl, by decide +kernel, by decide +kernel⟩
theorem ok_be17 {f : Addr} {fd : FuncData} (F : Fun K "_law_bent" "_law_bent" sBe17 f fd) (B : Blt mg) (DTk : Def P w K mg base "_law_take" 1 ["_law_bag_here", "_law_many"] spTake) (DNt : Def P w K mg base "_law_number_text" 1 ["_law_n"] spNt) (DH : Def P w K mg base "_law_head" 1 ["_law_text"] spHeadX) (DHS : Def P w K mg base "_law_head" 1 ["_law_text"] spHeadS) (DT : Def P w K mg base "_law_tail" 2 ["_law_text"] spTailX) (DTS : Def P w K mg base "_law_tail_of" 2 ["_law_text", "_law_at"] spTailS) : FnOk P w K mg base CX0 3 f fd ["_law_bag_here", "_law_text"] spBe17 := by
  refine F.ok scBe17 (fun vs H Q E h => ?_) (fun cdv A outer s H vs Q E hr h => ?_)
  · obtain ⟨p, t, rfl, _⟩ := h
    rfl
  · obtain ⟨p, t, rfl, hbag, hz, k⟩ := h
    have hr1 : Room 1 _ := hr.mono (by decide)
    have hr2 : Room 2 _ := hr
    refine ⟨_, pss_cons (ps_set (i := 2) scBe17.nd rfl (Or.inl rfl) (pe_def DTk hr1 rfl (pa_cons (pv 0) (pa_cons (pe_callB call_len_str (by rfl) B.len PySem.boot_len (pa_cons (pv 1) pa_nil)) pa_nil)))) (pss_cons (ps_while PassesOwn.never (pt_cmpR op_eq (pe_ix ix_str (pv 1) (pv 2) (fun _ _ => rfl)) pe_str (nomark _)) (pss_one (ps_set (i := 2) scBe17.nd rfl (Or.inl rfl) (pe_op op_sub (pv 2) pe_int)))) (pss_cons (ps_set (i := 3) scBe17.nd rfl (Or.inl rfl) pe_str) (pss_cons (ps_if (pt_cmpR op_eq (pe_ix ix_str (pv 1) (pv 2) (fun _ _ => rfl)) pe_str (nomark _)) (pss_one (ps_set (i := 3) scBe17.nd rfl (Or.inl rfl) (pe_op op_addX (pe_op op_addX (pe_op op_addX pe_str (pe_def DHS hr1 rfl (pa_cons (pe_slice sl_str (pv 1) (po_some (pv 2)) po_none) pa_nil))) (pe_def DTS hr2 rfl (pa_cons (pv 1) (pa_cons (pv 2) pa_nil)))) pe_str))) pss_nil) (pss_cons (ps_set (i := 4) scBe17.nd rfl (Or.inl rfl) (pe_lst (pa_cons pe_str (pa_cons pe_str (pa_cons (pe_def DNt hr1 rfl (pa_cons (pe_def DTk hr1 rfl (pa_cons (pv 0) (pa_cons pe_int pa_nil))) pa_nil)) (pa_cons (pe_def DH hr1 rfl (pa_cons (pv 3) pa_nil)) (pa_cons (pe_def DT hr2 rfl (pa_cons (pv 3) pa_nil)) (pa_cons (pe_op op_addX (pe_op op_addX pe_str (pv 3)) pe_str) (pa_cons (pe_op op_addX (pe_op op_addX pe_str (pv 3)) pe_str) (pa_cons (pe_op op_addX (pe_op op_addX (pe_op op_addX pe_str (pv 3)) (pv 3)) pe_str) pa_nil)))))))))) (pss_one (ps_ret (pe_op op_addX (pe_op op_addX (pe_slice sl_str (pv 1) po_none (po_some (pv 2))) (pe_ix (r := rIxL K) ix_list (pv 4) (pe_def DTk hr1 rfl (pa_cons (pv 0) (pa_cons pe_int pa_nil))) (fun _ _ => rfl))) (pe_slice sl_str (pv 1) (po_some (pe_op op_add (pv 2) (pe_callB call_len_str (by rfl) B.len PySem.boot_len (pa_cons (pv 3) pa_nil)))) po_none)))))))), ?_⟩
    have hsl := line4
    have hcl := Tr.codes_len t
    refine seq17 (a := tAsg _ _) (fun σ' H' => ∃ a : Nat, σ' = [some (.ref p), some (.str t.text), some (.int ((a : Nat) : Int)), none, none] ∧ KB p H H' ∧ BagOk H' p ∧ a < t.codes.length) (fun D' hD hrt => ?_) ?_
    · refine ⟨_, rfl, _, rfl, _, rfl, by rw [tx_text, tx_len]; omega, p, ((t.text.length : Nat) : Int), rfl, hbag, by rw [tx_text, tx_len]; omega, by rw [tx_text, tx_len]; omega, fun d H1 k1 b1 d0 d1 => ?_⟩
      obtain ⟨a, rfl⟩ := Int.eq_ofNat_of_zero_le d0
      rw [tx_text, tx_len] at d1
      exact hD _ _ ⟨a, rfl, k1, b1, by omega⟩
    rintro σ1 H1 ⟨a0, rfl, kb1, b1, ha0⟩
    refine seq17 (a := tWhile _ _) (fun σ' H' => ∃ (a c : Nat), σ' = [some (.ref p), some (.str t.text), some (.int ((a : Nat) : Int)), none, none] ∧ H1 = H' ∧ t.codes[a]? = some c ∧ c ≠ 41) (fun D' hD hrt => ?_) ?_
    · refine ⟨fun m σ' H' => ∃ a : Nat, σ' = [some (.ref p), some (.str t.text), some (.int ((a : Nat) : Int)), none, none] ∧ H1 = H' ∧ a < t.codes.length ∧ m = a, ⟨_, a0, rfl, rfl, ha0, rfl⟩, ?_⟩
      rintro m σ' H' ⟨a, rfl, rfl, ha, rfl⟩
      have hc : t.codes[m]? = some t.codes[m] := List.getElem?_eq_getElem ha
      refine ⟨_, rfl, _, rfl, _, _, _, rfl, rfl, by rw [tx_text, tx_len]; omega, atI_nat (show t.text.cps.toList[m]? = some t.codes[m] by rw [tx_text, tx_list, hc]), rfl, _, rfl, ?_⟩
      rw [chr_dec _ 41 _ c_41]
      by_cases h41 : t.codes[m] = 41
      · refine iteT' (decide_eq_true h41) ⟨fun σ' H2 => ∃ m', m' < m ∧ _, fun σ' H2 z => z, ?_⟩
        have hm0 : m ≠ 0 := fun z => by
          subst z
          obtain ⟨c, e1, e2⟩ := codes0_ne t
          rw [hc] at e1
          exact e2 ((Option.some.inj e1).symm.trans h41)
        refine ⟨_, rfl, _, _, rfl, rfl, m - 1, by omega, m - 1, ?_, rfl, by omega, rfl⟩
        show [_, _, some (V.int (((m : Nat) : Int) - 1)), _, _] = _
        rw [show ((m : Nat) : Int) - 1 = ((m - 1 : Nat) : Int) by omega]
      · exact iteF' (decide_eq_false h41) (hD _ _ ⟨m, _, rfl, rfl, hc, h41⟩)
    rintro σ2 H2 ⟨a, c, rfl, rfl, hc, hc41⟩
    obtain ⟨u, pre, post, hcod, hpre, hu0, hus, hsub⟩ := at_sub t a c hc hc41
    have hcu := Tr.codes_len u
    have hlt : t.codes.length = pre.length + (u.codes.length + post.length) := by rw [hcod, List.length_append, List.length_append]
    refine seq17 (a := tAsg _ _) (fun σ' H' => σ' = [some (.ref p), some (.str t.text), some (.int ((a : Nat) : Int)), some (.str "."), none] ∧ H1 = H') (fun D' hD _ => hD _ _ ⟨rfl, rfl⟩) ?_
    rintro _ _ ⟨rfl, rfl⟩
    refine seq17 (a := tIfS _ _ _) (fun σ' H' => σ' = [some (.ref p), some (.str t.text), some (.int ((a : Nat) : Int)), some (.str u.text), none] ∧ Same H1 H') (fun D' hD hrt => ?_) ?_
    · refine ⟨_, rfl, _, rfl, _, _, _, rfl, rfl, by rw [tx_text, tx_len]; omega, atI_nat (show t.text.cps.toList[a]? = some c by rw [tx_text, tx_list, hc]), rfl, _, rfl, ?_⟩
      rw [chr_dec _ 40 _ c_40]
      cases u with
      | nil =>
        have h46 : c = 46 := (Option.some.inj hu0).symm
        refine iteF' (decide_eq_false (by omega)) (hD _ _ ⟨?_, Same.refl _⟩)
        rw [show (".": Str) = Tr.nil.text from c_46]
      | pr l r =>
        have h40 : c = 40 := (Option.some.inj hu0).symm
        have hcl2 := Tr.codes_len l
        have hcr2 := Tr.codes_len r
        rw [Tr.size] at hcu hus
        have hin : t.codes = inT pre l r ([41] ++ post) := by
          rw [hcod]
          unfold inT
          show pre ++ ((40 :: (l.codes ++ (r.codes ++ [41]))) ++ post) = _
          simp
        refine iteT' (decide_eq_true h40) ?_
        refine ⟨_, rfl, _, rfl, _, rfl, _, rfl, by rw [tx_text, tx_len]; omega, ?_⟩
        have e1 : cutS t.text (some ((a : Nat) : Int)) none = tx (40 :: (l.codes ++ (r.codes ++ ([41] ++ post)))) := by
          have := cut_from17 t.codes a (by omega)
          rw [tx_text, this, hin, ← hpre]
          unfold inT
          rw [List.drop_left]
        rw [e1]
        refine ⟨l, r.codes ++ ([41] ++ post), rfl, by omega, by rw [List.length_append, List.length_append]; simp only [List.length_cons, List.length_nil]; omega, fun HA sA => ?_⟩
        refine ⟨[40], l.codes, congrArg V.str c_40, rfl, by simp only [List.length_cons, List.length_nil]; omega, ?_⟩
        refine ⟨_, rfl, _, rfl, pre, l, r, [41] ++ post, by rw [← hin, hpre, tx_text]; rfl, by omega, by rw [← hin]; omega, fun HB sB => ?_⟩
        refine ⟨[40] ++ l.codes, r.codes, rfl, rfl, by rw [List.length_append]; simp only [List.length_cons, List.length_nil]; omega, ?_⟩
        refine ⟨([40] ++ l.codes) ++ r.codes, [41], rfl, congrArg V.str c_41, by rw [List.length_append, List.length_append]; simp only [List.length_cons, List.length_nil]; omega, ?_⟩
        have e2 : (Tr.pr l r).text = tx (([40] ++ l.codes) ++ r.codes ++ [41]) := by
          rw [tx_text]
          congr 1
          show 40 :: (l.codes ++ (r.codes ++ [41])) = _
          simp
        rw [← e2]
        exact hD _ _ ⟨rfl, sA.trans sB⟩
    rintro σ3 H2 ⟨rfl, s2⟩
    have b2 := b1.same s2
    refine seq17 (a := tAsg _ _) (fun σ' H' => ∃ (L : Addr) (vs : List Tr), σ' = [some (.ref p), some (.str t.text), some (.int ((a : Nat) : Int)), some (.str u.text), some (.ref L)] ∧ H' L = some (.lst (txV vs)) ∧ vs.length = 8 ∧ (∀ v ∈ vs, v.size ≤ u.size + u.size + 12) ∧ KB p H2 H' ∧ BagOk H' p ∧ L ≠ p) (fun D' hD hrt => ?_) ?_
    · refine ⟨_, rfl, p, 12, rfl, b2, by decide, by decide, fun d H3 k3 b3 d0 d1 => ?_⟩
      obtain ⟨n, rfl⟩ := Int.eq_ofNat_of_zero_le d0
      refine ⟨n, rfl, by omega, fun H4 s4 => ?_⟩
      refine ⟨_, rfl, u, rfl, by omega, fun H5 s5 => ?_⟩
      refine ⟨_, rfl, u, rfl, by omega, fun H6 s6 => ?_⟩
      have s36 := (s4.trans s5).trans s6
      refine ⟨_, rfl, [40], u.codes, congrArg V.str c_40, rfl, by simp only [List.length_cons, List.length_nil]; omega, [40] ++ u.codes, [46, 41], rfl, congrArg V.str c_4641, by rw [List.length_append]; simp only [List.length_cons, List.length_nil]; omega, ?_⟩
      refine ⟨_, rfl, [40, 46], u.codes, congrArg V.str c_4046, rfl, by simp only [List.length_cons, List.length_nil]; omega, [40, 46] ++ u.codes, [41], rfl, congrArg V.str c_41, by rw [List.length_append]; simp only [List.length_cons, List.length_nil]; omega, ?_⟩
      refine ⟨_, rfl, [40], u.codes, congrArg V.str c_40, rfl, by simp only [List.length_cons, List.length_nil]; omega, _, rfl, [40] ++ u.codes, u.codes, rfl, rfl, by rw [List.length_append]; simp only [List.length_cons, List.length_nil]; omega, ([40] ++ u.codes) ++ u.codes, [41], rfl, congrArg V.str c_41, by rw [List.length_append, List.length_append]; simp only [List.length_cons, List.length_nil]; omega, ?_⟩
      refine ⟨by show 8 ≤ sizeLine; decide, fun L nL => ?_⟩
      have hxs : [V.str ".", V.str "(..)", V.str (num n).text, V.str u.head.text, V.str u.tail.text, V.str (tx ([40] ++ u.codes ++ [46, 41])), V.str (tx ([40, 46] ++ u.codes ++ [41])), V.str (tx ([40] ++ u.codes ++ u.codes ++ [41]))] = txV [.nil, .pr .nil .nil, num n, u.head, u.tail, .pr u .nil, .pr .nil u, .pr u u] := by
        have g1 : (".": Str) = Tr.nil.text := c_46
        have g2 : ("(..)": Str) = (Tr.pr .nil .nil).text := c_dd
        have g3 : tx ([40] ++ u.codes ++ [46, 41]) = (Tr.pr u .nil).text := rfl
        have g4 : tx ([40, 46] ++ u.codes ++ [41]) = (Tr.pr .nil u).text := rfl
        have g5 : tx ([40] ++ u.codes ++ u.codes ++ [41]) = (Tr.pr u u).text := by
          rw [tx_text]
          congr 1
          show _ = 40 :: (u.codes ++ (u.codes ++ [41]))
          simp
        rw [g1, g2, g3, g4, g5]
        rfl
      rw [hxs]
      have s7 := Same.new nL (o := .lst (txV [.nil, .pr .nil .nil, num n, u.head, u.tail, .pr u .nil, .pr .nil u, .pr u u]))
      have e7 : (upd H6 L (.lst (txV [.nil, .pr .nil .nil, num n, u.head, u.tail, .pr u .nil, .pr .nil u, .pr u u]))) L = some (.lst (txV [.nil, .pr .nil .nil, num n, u.head, u.tail, .pr u .nil, .pr .nil u, .pr u u])) := upd_same
      revert s7 e7
      generalize upd H6 L (.lst (txV [.nil, .pr .nil .nil, num n, u.head, u.tail, .pr u .nil, .pr .nil u, .pr u u])) = H7
      intro s7 e7
      have b6 := b3.same s36
      have hLp : L ≠ p := fun z => by
        obtain ⟨bx, hbx⟩ := b6.some
        rw [z, hbx] at nL
        cases nL
      refine hD _ _ ⟨L, _, rfl, e7, rfl, ?_, k3.trans (KB.of (s36.trans s7)), b6.same s7, hLp⟩
      have hh : u.head.size ≤ u.size := by cases u <;> simp [Tr.head, Tr.size] <;> omega
      have ht : u.tail.size ≤ u.size := by cases u <;> simp [Tr.tail, Tr.size] <;> omega
      intro v hv
      simp only [List.mem_cons, List.not_mem_nil, or_false] at hv
      rcases hv with rfl | rfl | rfl | rfl | rfl | rfl | rfl | rfl
      · exact Nat.zero_le _
      · show 1 + 0 + 0 ≤ _
        omega
      · rw [num_size]
        omega
      · omega
      · omega
      · show 1 + u.size + 0 ≤ _
        omega
      · show 1 + 0 + u.size ≤ _
        omega
      · show 1 + u.size + u.size ≤ _
        omega
    rintro σ4 H3 ⟨L, vs, rfl, hL, hvl, hvs, k3, b3, hLp⟩
    refine ⟨_, rfl, _, rfl, _, rfl, _, rfl, by rw [tx_text, tx_len]; omega, ?_⟩
    have e1 : cutS t.text none (some ((a : Nat) : Int)) = tx pre := by
      rw [tx_text, cut_to17 t.codes a (by omega), hcod, ← hpre, List.take_left]
    rw [e1]
    refine ⟨_, rfl, _, rfl, p, 8, rfl, b3, by decide, by decide, fun d H4 k4 b4 d0 d1 => ?_⟩
    obtain ⟨n, rfl⟩ := Int.eq_ofNat_of_zero_le d0
    have hL4 := k4 _ _ hLp hL
    obtain ⟨v, hv⟩ : ∃ v, vs[n]? = some v := ⟨_, List.getElem?_eq_getElem (by omega)⟩
    have hvm := hvs v (List.mem_of_getElem? hv)
    have hcv := Tr.codes_len v
    obtain ⟨t', ht', hts⟩ := hsub v
    refine ⟨L, _, _, .str v.text, rfl, rfl, SqL.of hL4, atI_nat (by rw [txV, List.getElem?_map, hv]; rfl), ?_⟩
    refine ⟨pre, v.codes, rfl, rfl, by omega, ?_⟩
    refine ⟨_, rfl, _, rfl, _, rfl, _, rfl, by rw [tx_text, tx_len]; omega, _, _, rfl, rfl, _, rfl, _, rfl, by rw [tx_text, tx_len]; omega, ?_⟩
    have e2 : cutS t.text (some (((a : Nat) : Int) + ((u.text.length : Nat) : Int))) none = tx post := by
      rw [show ((a : Nat) : Int) + ((u.text.length : Nat) : Int) = ((a + u.codes.length : Nat) : Int) by rw [tx_text, tx_len]; omega]
      rw [tx_text, cut_from17 t.codes (a + u.codes.length) (by omega), hcod, ← hpre, List.drop_append, List.drop_of_length_le (by omega), List.nil_append, Nat.add_sub_cancel_left, List.drop_left]
    rw [e2]
    refine ⟨pre ++ v.codes, post, rfl, rfl, by rw [List.length_append]; omega, ?_⟩
    rw [List.append_assoc, ← ht', ← tx_text]
    exact k t' H4 ((kb1.trans (KB.of s2)).trans (k3.trans k4)) b4 (by omega)
end
end Js
set_option Elab.async false
set_option linter.all false
set_option maxRecDepth 100000
set_option maxHeartbeats 2000000
namespace Js
open PySem L2
open PySem PySem.Spec PyProof.Rows L2
abbrev sRw17 : Stmt := top 69
abbrev sTl17 : Stmt := top 71
def rawT (kd : Nat) (ts : List Tr) : Tr := rowT (num kd :: ts)
def tallT : Nat → Tr
  | 0 => .nil
  | n + 1 => rowT [rawT 5 [.nil, tallT n]]
theorem tall_size : ∀ n, (tallT n).size = 9 * n
  | 0 => rfl
  | n + 1 => by
    show 1 + (1 + (num 5).size + (1 + 0 + (1 + (tallT n).size + 0))) + 0 = _
    rw [tall_size n, num_size]
    omega
def spRw17 : Sp := fun vs H Q _ => ∃ (kd : Nat) (l : Addr) (ts : List Tr), vs = [.int (kd : Nat), .ref l] ∧ kd ≤ 5000 ∧ H l = some (.lst (txV ts)) ∧ ts.length ≤ 1000 ∧ (rawT kd ts).size ≤ 100000 ∧ ∀ H', Same H H' → Q (.str (rawT kd ts).text) H'
def spTl17 : Sp := fun vs H Q _ => vs = [] ∧ ∀ H', Same H H' → Q (.str (tallT 400).text) H'
section
variable {P : Program} {w : World} {K : PySem.W.Frag} {mg : Str → Option Value} {base : Heap} {C : Addr}
theorem scRw17 : FnScope ["_law_kind", "_law_pieces"] ["_law_kind", "_law_pieces"] (defScope sRw17) := ⟨rfl, rfl, rfl, by decide +kernel, rfl, by decide +kernel, by decide +kernel⟩
theorem scTl17 : FnScope ["_law_found", "_law_floor"] [] (defScope sTl17) := ⟨rfl, rfl, rfl, by decide +kernel, rfl, by decide +kernel, by decide +kernel⟩
theorem ok_rw17 {f : Addr} {fd : FuncData} (F : Fun K "_law_raw" "_law_raw" sRw17 f fd) (DNt : Def P w K mg base "_law_number_text" 1 ["_law_n"] spNt) (DRt : Def P w K mg base "_law_row_text" 1 ["_law_texts"] (spRowText K)) : FnOk P w K mg base CX0 2 f fd ["_law_kind", "_law_pieces"] spRw17 := by
  refine F.ok scRw17 (fun vs H Q E h => ?_) (fun cdv A outer s H vs Q E hr' h => ?_)
  · obtain ⟨kd, l, ts, rfl, _⟩ := h
    rfl
  · obtain ⟨kd, l, ts, rfl, hkd, hl, htl, hz, k⟩ := h
    have hr : Room 1 _ := hr'
    refine ⟨_, pss_one (ps_ret (pe_def DRt hr rfl (pa_cons (pe_op op_cat (pe_lst (pa_cons (pe_def DNt hr rfl (pa_cons (pv 0) pa_nil)) pa_nil)) (pv 1)) pa_nil))), ?_⟩
    have hsl := line4
    refine ⟨_, rfl, kd, rfl, hkd, fun H1 s1 => ⟨by show 1 ≤ sizeLine; decide, fun L nL => ?_⟩⟩
    have s2 := Same.new nL (o := .lst [V.str (num kd).text])
    have e2 : (upd H1 L (.lst [V.str (num kd).text])) L = some (.lst [V.str (num kd).text]) := upd_same
    revert s2 e2
    generalize upd H1 L (.lst [V.str (num kd).text]) = H2
    intro s2 e2
    have s02 := s1.trans s2
    refine ⟨_, rfl, L, l, _, _, rfl, rfl, e2, s02 _ _ hl, by rw [txV, List.length_map]; show 1 + ts.length ≤ sizeLine; omega, fun L2 nL2 => ?_⟩
    rw [show [V.str (num kd).text] ++ txV ts = txV (num kd :: ts) from rfl]
    have s3 := Same.new nL2 (o := .lst (txV (num kd :: ts)))
    have e3 : (upd H2 L2 (.lst (txV (num kd :: ts)))) L2 = some (.lst (txV (num kd :: ts))) := upd_same
    revert s3 e3
    generalize upd H2 L2 (.lst (txV (num kd :: ts))) = H3
    intro s3 e3
    exact ⟨L2, num kd :: ts, rfl, SqL.of e3, hz, fun H4 s4 => k H4 ((s02.trans s3).trans s4)⟩
theorem ok_tl17 {f : Addr} {fd : FuncData} (F : Fun K "_law_tall" "_law_tall" sTl17 f fd) (B : Blt mg) (DRw : Def P w K mg base "_law_raw" 2 ["_law_kind", "_law_pieces"] spRw17) (DRt : Def P w K mg base "_law_row_text" 1 ["_law_texts"] (spRowText K)) : FnOk P w K mg base CX0 3 f fd [] spTl17 := by
  refine F.ok scTl17 (fun vs H Q E h => ?_) (fun cdv A outer s H vs Q E hr h => ?_)
  · obtain ⟨rfl, _⟩ := h
    rfl
  · obtain ⟨rfl, k⟩ := h
    have hr1 : Room 1 _ := hr.mono (by decide)
    refine ⟨_, pss_cons (ps_set (i := 0) scTl17.nd rfl (Or.inl rfl) pe_str) (pss_cons (ps_for PassesOwn.never rfl (pi_range1 rfl B.range (pa_cons pe_int pa_nil)) (pg_name (i := 1) scTl17.nd rfl (Or.inl rfl)) (pss_one (ps_set (i := 0) scTl17.nd rfl (Or.inl rfl) (pe_def DRt hr1 rfl (pa_cons (pe_lst (pa_cons (pe_def DRw hr rfl (pa_cons pe_int (pa_cons (pe_lst (pa_cons pe_str (pa_cons (pv 0) pa_nil))) pa_nil))) pa_nil)) pa_nil))))) (pss_one (ps_ret (pv 0)))), ?_⟩
    have hsl := line4
    refine seq17 (a := tAsg _ _) (fun σ' H' => σ' = [some (.str (tallT 0).text), none] ∧ H = H') (fun D' hD _ => hD _ _ ⟨by rw [show (tallT 0).text = ("." : Str) from c_46.symm]; rfl, rfl⟩) ?_
    rintro _ _ ⟨rfl, rfl⟩
    refine seq17 (a := tFor _ _ _) (fun σ' H' => ∃ x1 : Option V, σ' = [some (.str (tallT 400).text), x1] ∧ Same H H') (fun D' hD hrt => ?_) ?_
    · refine ⟨400, rfl, by decide, by decide, for_range (n := 400) (fun i σ H' => ∃ x1 : Option V, σ = [some (.str (tallT i).text), x1] ∧ Same H H') ⟨_, rfl, Same.refl _⟩ ?_ ?_⟩
      · rintro i σ H1 hi ⟨x1, rfl, s1⟩
        have hi : i < 400 := hi
        dsimp only [gName]
        have ht := tall_size i
        have hr9 : (rawT 5 [.nil, tallT i]).size = 9 * i + 8 := by
          show 1 + (num 5).size + (1 + 0 + (1 + (tallT i).size + 0)) = _
          rw [ht, num_size]
          omega
        refine ⟨_, rfl, by show 2 ≤ sizeLine; decide, fun L nL => ?_⟩
        rw [show [V.str ".", V.str (tallT i).text] = txV [.nil, tallT i] by rw [show ("." : Str) = Tr.nil.text from c_46]; rfl]
        have s2 := Same.new nL (o := .lst (txV [.nil, tallT i]))
        have e2 : (upd H1 L (.lst (txV [.nil, tallT i]))) L = some (.lst (txV [.nil, tallT i])) := upd_same
        revert s2 e2
        generalize upd H1 L (.lst (txV [.nil, tallT i])) = H2
        intro s2 e2
        refine ⟨5, L, _, rfl, by decide, e2, by show 2 ≤ 1000; decide, by omega, fun H3 s3 => ⟨by show 1 ≤ sizeLine; decide, fun L2 nL2 => ?_⟩⟩
        have s4 := Same.new nL2 (o := .lst [V.str (rawT 5 [.nil, tallT i]).text])
        have e4 : (upd H3 L2 (.lst [V.str (rawT 5 [.nil, tallT i]).text])) L2 = some (.lst [V.str (rawT 5 [.nil, tallT i]).text]) := upd_same
        revert s4 e4
        generalize upd H3 L2 (.lst [V.str (rawT 5 [.nil, tallT i]).text]) = H4
        intro s4 e4
        refine ⟨L2, [rawT 5 [.nil, tallT i]], rfl, SqL.of e4, by show 1 + (rawT 5 [.nil, tallT i]).size + 0 ≤ 100000; omega, fun H5 s5 => ?_⟩
        exact ⟨_, rfl, s1.trans ((((s2.trans s3).trans s4)).trans s5)⟩
      · rintro σ H1 ⟨x1, rfl, s1⟩
        exact hD _ _ ⟨x1, rfl, s1⟩
    rintro σ H1 ⟨x1, rfl, s1⟩
    exact ⟨_, rfl, k H1 s1⟩
end
end Js
set_option Elab.async false
set_option linter.all false
set_option maxRecDepth 100000
set_option maxHeartbeats 2000000
namespace Js
open PySem L2
open PySem PySem.Spec PyProof.Rows L2
theorem raw_rep (kd mn : Nat) : (rawT kd (List.replicate mn Tr.nil)).size = 1 + kd + mn := by
  have h : ∀ n : Nat, (rowT (List.replicate n Tr.nil)).size = n := fun n => by
    induction n with
    | zero => rfl
    | succ n ih =>
      rw [List.replicate_succ, rowT, Tr.size, ih, Tr.size]
      omega
  unfold rawT
  rw [rowT, Tr.size, h, num_size]
theorem rep_nil (mn : Nat) : (List.replicate ((mn : Nat) : Int).toNat [V.str "."]).flatten = txV (List.replicate mn Tr.nil) := by
  rw [Int.toNat_natCast, txV, List.map_replicate, show V.str Tr.nil.text = V.str "." by rw [c_46]; rfl]
  induction mn with
  | zero => rfl
  | succ n ih => rw [List.replicate_succ, List.flatten_cons, ih, List.replicate_succ]; rfl
theorem d_46 : ("." : Str) = Tr.nil.text := c_46
theorem d_dd : ("(..)" : Str) = (Tr.pr .nil .nil).text := by decide +kernel
theorem d_pp : ("((..).)" : Str) = (Tr.pr (Tr.pr .nil .nil) .nil).text := by decide +kernel
abbrev sTf17 : Stmt := top 70
def FL17 (H : Hp) (vs : List V) : Prop := ∀ v ∈ vs, ∃ (q : Addr) (ts : List Tr), v = .ref q ∧ H q = some (.lst (txV ts)) ∧ (rowT ts).size ≤ 4000
theorem FL17.same {H H' : Hp} (s : Same H H') {vs : List V} (h : FL17 H vs) : FL17 H' vs := fun v hv => by
  obtain ⟨q, ts, e, h1, h2⟩ := h v hv
  exact ⟨q, ts, e, s _ _ h1, h2⟩
theorem rs1 (a : Tr) : (rowT [a]).size = 1 + a.size := by rw [rowT, rowT, Tr.size, Tr.size, Nat.add_zero]
theorem rs2 (a b : Tr) : (rowT [a, b]).size = 2 + a.size + b.size := by
  rw [rowT, Tr.size, rs1]
  omega
theorem rs3 (a b c : Tr) : (rowT [a, b, c]).size = 3 + a.size + b.size + c.size := by
  rw [rowT, Tr.size, rs2]
  omega
theorem rw2 (k : Nat) (a b : Tr) : (rawT k [a, b]).size = 3 + k + a.size + b.size := by
  rw [rawT, rs3, num_size]
theorem rw3 (k : Nat) (a b c : Tr) : (rawT k [a, b, c]).size = 4 + k + a.size + b.size + c.size := by
  rw [rawT, rowT, Tr.size, rs3, num_size]
  omega
def spTf17 : Sp := fun vs H Q _ => vs = [] ∧ ∀ (L : Addr) (ts : List Tr) H', Same H H' → H' L = some (.lst (txV ts)) → ts.length ≤ 500 → (∀ t ∈ ts, t.size ≤ 4000) → Q (.ref L) H'
section
variable {P : Program} {w : World} {K : PySem.W.Frag} {mg : Str → Option Value} {base : Heap} {C : Addr}
theorem scTf17 : FnScope ["_law_some", "_law_good_here", "_law_found", "_law_one", "_law_row_text_here", "_law_deep", "_law_floor", "_law_texts", "_law_kind", "_law_many", "_law_code_here"] [] (defScope sTf17) := ⟨rfl, rfl, rfl, by decide +kernel, rfl, by decide +kernel, by decide +kernel⟩
theorem ok_tf17 {f : Addr} {fd : FuncData} (F : Fun K "_law_two_faults" "_law_two_faults" sTf17 f fd) (B : Blt mg) (DNt : Def P w K mg base "_law_number_text" 1 ["_law_n"] spNt) (DRw : Def P w K mg base "_law_raw" 2 ["_law_kind", "_law_pieces"] spRw17) (DRt : Def P w K mg base "_law_row_text" 1 ["_law_texts"] (spRowText K)) : FnOk P w K mg base CX0 3 f fd [] spTf17 := by
  refine F.ok scTf17 (fun vs H Q E h => ?_) (fun cdv A outer s H vs Q E hr h => ?_)
  · obtain ⟨rfl, _⟩ := h
    rfl
  · obtain ⟨rfl, k⟩ := h
    have hr1 : Room 1 _ := hr.mono (by decide)
    refine ⟨_, pss_cons (ps_set (i := 0) scTf17.nd rfl (Or.inl rfl) (pe_lst (pa_cons (pe_def DRw hr rfl (pa_cons pe_int (pa_cons (pe_lst (pa_cons (pe_def DNt hr1 rfl (pa_cons pe_int pa_nil)) (pa_cons pe_str pa_nil))) pa_nil))) (pa_cons (pe_def DRw hr rfl (pa_cons pe_int (pa_cons (pe_lst (pa_cons pe_str (pa_cons (pe_def DNt hr1 rfl (pa_cons pe_int pa_nil)) pa_nil))) pa_nil))) (pa_cons (pe_def DRw hr rfl (pa_cons pe_int (pa_cons (pe_lst (pa_cons pe_str (pa_cons pe_str pa_nil))) pa_nil))) pa_nil))))) (pss_cons (ps_set (i := 0) scTf17.nd rfl (Or.inl rfl) (pe_op op_cat (pv 0) (pe_lst (pa_cons (pe_def DRw hr rfl (pa_cons pe_int (pa_cons (pe_lst (pa_cons pe_str (pa_cons pe_str (pa_cons (pe_def DNt hr1 rfl (pa_cons pe_int pa_nil)) pa_nil)))) pa_nil))) (pa_cons (pe_def DRw hr rfl (pa_cons pe_int (pa_cons (pe_lst (pa_cons pe_str (pa_cons pe_str (pa_cons pe_str pa_nil)))) pa_nil))) (pa_cons pe_str (pa_cons pe_str pa_nil))))))) (pss_cons (ps_set (i := 0) scTf17.nd rfl (Or.inl rfl) (pe_op op_cat (pv 0) (pe_lc (own := [("_law_kind", 8), ("_law_many", 9)]) (g := (gTup K 2 (gCons (gName 8) (gCons (gName 9) gNil)))) (tt := tYes) rfl scTf17.nd (pi_list (pe_lst (pa_cons (pe_tup (pa_cons pe_int (pa_cons pe_int pa_nil))) (pa_cons (pe_tup (pa_cons pe_int (pa_cons pe_int pa_nil))) (pa_cons (pe_tup (pa_cons pe_int (pa_cons pe_int pa_nil))) (pa_cons (pe_tup (pa_cons pe_int (pa_cons pe_int pa_nil))) (pa_cons (pe_tup (pa_cons pe_int (pa_cons pe_int pa_nil))) (pa_cons (pe_tup (pa_cons pe_int (pa_cons pe_int pa_nil))) pa_nil)))))))) (blkOk_by (N := ["_law_some", "_law_good_here", "_law_found", "_law_one", "_law_row_text_here", "_law_deep", "_law_floor", "_law_texts", "_law_kind", "_law_many", "_law_code_here"]) (sc := defScope sTf17) (by decide +kernel)) (fun _ _ _ _ _ => (pg_tup rfl (pgs_cons (pg_name (i := 8) scTf17.nd rfl (Or.inl rfl)) (pgs_cons (pg_name (i := 9) scTf17.nd rfl (Or.inl rfl)) pgs_nil)))) (fun _ _ _ _ _ => pts_nil) (fun _ _ _ _ _ => (pe_def DRw hr rfl (pa_cons (pv 8) (pa_cons (pe_op op_rep (pe_lst (pa_cons pe_str pa_nil)) (pv 9)) pa_nil))))))) (pss_cons (ps_set (i := 0) scTf17.nd rfl (Or.inl rfl) (pe_op op_cat (pv 0) (pe_lc (own := [("_law_kind", 8), ("_law_many", 9)]) (g := (gTup K 2 (gCons (gName 8) (gCons (gName 9) gNil)))) (tt := tYes) rfl scTf17.nd (pi_list (pe_lst (pa_cons (pe_tup (pa_cons pe_int (pa_cons pe_int pa_nil))) (pa_cons (pe_tup (pa_cons pe_int (pa_cons pe_int pa_nil))) (pa_cons (pe_tup (pa_cons pe_int (pa_cons pe_int pa_nil))) (pa_cons (pe_tup (pa_cons pe_int (pa_cons pe_int pa_nil))) (pa_cons (pe_tup (pa_cons pe_int (pa_cons pe_int pa_nil))) (pa_cons (pe_tup (pa_cons pe_int (pa_cons pe_int pa_nil))) pa_nil)))))))) (blkOk_by (N := ["_law_some", "_law_good_here", "_law_found", "_law_one", "_law_row_text_here", "_law_deep", "_law_floor", "_law_texts", "_law_kind", "_law_many", "_law_code_here"]) (sc := defScope sTf17) (by decide +kernel)) (fun _ _ _ _ _ => (pg_tup rfl (pgs_cons (pg_name (i := 8) scTf17.nd rfl (Or.inl rfl)) (pgs_cons (pg_name (i := 9) scTf17.nd rfl (Or.inl rfl)) pgs_nil)))) (fun _ _ _ _ _ => pts_nil) (fun _ _ _ _ _ => (pe_def DRw hr rfl (pa_cons (pv 8) (pa_cons (pe_op op_rep (pe_lst (pa_cons pe_str pa_nil)) (pv 9)) pa_nil))))))) (pss_cons (ps_expr (pe_bm PySem.F.plainAttrs_list PySem.F.slot_list_append PySem.F.type_list_append mt_append (pv 0) (pa_cons (pe_def DRw hr rfl (pa_cons pe_int (pa_cons (pe_lst (pa_cons pe_str (pa_cons pe_str (pa_cons pe_str (pa_cons pe_str pa_nil))))) pa_nil))) pa_nil))) (pss_cons (ps_par (i := 1) (j := 2) (by rfl) scTf17.nd rfl rfl (by decide) rfl rfl (pa_cons (pe_def DRw hr rfl (pa_cons pe_int (pa_cons (pe_lst (pa_cons pe_str (pa_cons pe_str pa_nil))) pa_nil))) (pa_cons (pe_lst pa_nil) pa_nil)) (by rfl)) (pss_cons (ps_for PassesOwn.never rfl (pi_list (pv 0)) (pg_name (i := 3) scTf17.nd rfl (Or.inl rfl)) (pss_cons (ps_set (i := 4) scTf17.nd rfl (Or.inl rfl) (pe_def DRt hr1 rfl (pa_cons (pe_lst (pa_cons (pv 3) pa_nil)) pa_nil))) (pss_cons (ps_set (i := 5) scTf17.nd rfl (Or.inl rfl) (pe_lst (pa_cons (pe_def DRw hr rfl (pa_cons pe_int (pa_cons (pe_lst (pa_cons pe_str (pa_cons (pv 4) pa_nil))) pa_nil))) (pa_cons (pe_def DRw hr rfl (pa_cons pe_int (pa_cons (pe_lst (pa_cons pe_str (pa_cons (pe_def DRt hr1 rfl (pa_cons (pe_lst (pa_cons (pv 1) pa_nil)) pa_nil)) (pa_cons (pv 4) pa_nil)))) pa_nil))) pa_nil)))) (pss_cons (ps_for PassesOwn.never rfl (pi_range1 rfl B.range (pa_cons pe_int pa_nil)) (pg_name (i := 6) scTf17.nd rfl (Or.inl rfl)) (pss_one (ps_setLc (i := 5) (own := [("_law_code_here", 10)]) (g := gName 10) (tt := tYes) rfl scTf17.nd rfl rfl (sw_true rfl rfl rfl (by decide +kernel)) (pi_list (pv 5)) (blkOk_by (N := ["_law_some", "_law_good_here", "_law_found", "_law_one", "_law_row_text_here", "_law_deep", "_law_floor", "_law_texts", "_law_kind", "_law_many", "_law_code_here"]) (sc := defScope sTf17) (by decide +kernel)) (fun _ _ _ _ _ => (pg_name (i := 10) scTf17.nd rfl (Or.inl rfl))) (fun _ _ _ _ _ => pts_nil) (fun _ _ _ _ _ => (pe_def DRw hr rfl (pa_cons pe_int (pa_cons (pe_lst (pa_cons pe_str (pa_cons (pe_def DRt hr1 rfl (pa_cons (pe_lst (pa_cons (pv 10) pa_nil)) pa_nil)) pa_nil))) pa_nil))))))) (pss_one (ps_set (i := 2) scTf17.nd rfl (Or.inl rfl) (pe_op op_cat (pv 2) (pe_lst (pa_cons (pe_lst (pa_cons (pv 3) pa_nil)) (pa_cons (pe_lst (pa_cons (pv 3) (pa_cons pe_str pa_nil))) (pa_cons (pe_lst (pa_cons (pv 1) (pa_cons (pv 3) (pa_cons pe_str pa_nil)))) (pa_cons (pe_lst (pa_cons (pe_ix (r := rIxL K) ix_list (pv 5) pe_int (fun _ _ => rfl)) (pa_cons pe_str pa_nil))) (pa_cons (pe_lst (pa_cons (pe_ix (r := rIxL K) ix_list (pv 5) pe_int (fun _ _ => rfl)) pa_nil)) (pa_cons (pv 5) pa_nil)))))))))))))) (pss_one (ps_ret (pe_lc (own := [("_law_texts", 7)]) (g := gName 7) (tt := tYes) rfl scTf17.nd (pi_list (pv 2)) (blkOk_by (N := ["_law_some", "_law_good_here", "_law_found", "_law_one", "_law_row_text_here", "_law_deep", "_law_floor", "_law_texts", "_law_kind", "_law_many", "_law_code_here"]) (sc := defScope sTf17) (by decide +kernel)) (fun _ _ _ _ _ => (pg_name (i := 7) scTf17.nd rfl (Or.inl rfl))) (fun _ _ _ _ _ => pts_nil) (fun _ _ _ _ _ => (pe_def DRt hr1 rfl (pa_cons (pv 7) pa_nil)))))))))))), ?_⟩
    have hsl := line4
    refine seq17 (a := tAsg _ _) (fun σ' H' => ∃ (L : Addr) (ts : List Tr), σ' = [some (.ref L), none, none, none, none, none, none, none, none, none, none] ∧ H' L = some (.lst (txV ts)) ∧ ts.length ≤ 3 ∧ (∀ t ∈ ts, t.size ≤ 60) ∧ H L = none ∧ Same H H') (fun D' hD hrt => ?_) ?_
    · skip
      refine ⟨10, rfl, by decide, fun U1 sU1 => ?_⟩
      refine ⟨by show 2 ≤ sizeLine; decide, fun U2 nU2 => ?_⟩
      rw [show [(V.str (num 10).text), (V.str ".")] = txV [(num 10), Tr.nil] by rw [txV]; simp only [List.map_cons, List.map_nil, d_46, d_pp]]
      have sU3 := Same.new nU2 (o := .lst (txV [(num 10), Tr.nil]))
      have eU2 : (upd U1 U2 (.lst (txV [(num 10), Tr.nil]))) U2 = some (.lst (txV [(num 10), Tr.nil])) := upd_same
      revert sU3 eU2
      generalize upd U1 U2 (.lst (txV [(num 10), Tr.nil])) = U3
      intro sU3 eU2
      refine ⟨1, U2, _, rfl, by decide, eU2, by decide, by decide +kernel, fun U4 sU4 => ?_⟩
      refine ⟨10, rfl, by decide, fun U5 sU5 => ?_⟩
      refine ⟨by show 2 ≤ sizeLine; decide, fun U6 nU6 => ?_⟩
      rw [show [(V.str "."), (V.str (num 10).text)] = txV [Tr.nil, (num 10)] by rw [txV]; simp only [List.map_cons, List.map_nil, d_46, d_pp]]
      have sU7 := Same.new nU6 (o := .lst (txV [Tr.nil, (num 10)]))
      have eU6 : (upd U5 U6 (.lst (txV [Tr.nil, (num 10)]))) U6 = some (.lst (txV [Tr.nil, (num 10)])) := upd_same
      revert sU7 eU6
      generalize upd U5 U6 (.lst (txV [Tr.nil, (num 10)])) = U7
      intro sU7 eU6
      refine ⟨2, U6, _, rfl, by decide, eU6, by decide, by decide +kernel, fun U8 sU8 => ?_⟩
      refine ⟨by show 2 ≤ sizeLine; decide, fun U9 nU9 => ?_⟩
      rw [show [(V.str "."), (V.str ".")] = txV [Tr.nil, Tr.nil] by rw [txV]; simp only [List.map_cons, List.map_nil, d_46, d_pp]]
      have sU10 := Same.new nU9 (o := .lst (txV [Tr.nil, Tr.nil]))
      have eU9 : (upd U8 U9 (.lst (txV [Tr.nil, Tr.nil]))) U9 = some (.lst (txV [Tr.nil, Tr.nil])) := upd_same
      revert sU10 eU9
      generalize upd U8 U9 (.lst (txV [Tr.nil, Tr.nil])) = U10
      intro sU10 eU9
      refine ⟨7, U9, _, rfl, by decide, eU9, by decide, by decide +kernel, fun U11 sU11 => ?_⟩
      refine ⟨by show 3 ≤ sizeLine; decide, fun U12 nU12 => ?_⟩
      rw [show [V.str (rawT 1 [(num 10), Tr.nil]).text, V.str (rawT 2 [Tr.nil, (num 10)]).text, V.str (rawT 7 [Tr.nil, Tr.nil]).text] = txV [(rawT 1 [(num 10), Tr.nil]), (rawT 2 [Tr.nil, (num 10)]), (rawT 7 [Tr.nil, Tr.nil])] from rfl]
      have sU13 := Same.new nU12 (o := .lst (txV [(rawT 1 [(num 10), Tr.nil]), (rawT 2 [Tr.nil, (num 10)]), (rawT 7 [Tr.nil, Tr.nil])]))
      have eU12 : (upd U11 U12 (.lst (txV [(rawT 1 [(num 10), Tr.nil]), (rawT 2 [Tr.nil, (num 10)]), (rawT 7 [Tr.nil, Tr.nil])]))) U12 = some (.lst (txV [(rawT 1 [(num 10), Tr.nil]), (rawT 2 [Tr.nil, (num 10)]), (rawT 7 [Tr.nil, Tr.nil])])) := upd_same
      revert sU13 eU12
      generalize upd U11 U12 (.lst (txV [(rawT 1 [(num 10), Tr.nil]), (rawT 2 [Tr.nil, (num 10)]), (rawT 7 [Tr.nil, Tr.nil])])) = U13
      intro sU13 eU12
      exact hD _ _ ⟨U12, [(rawT 1 [(num 10), Tr.nil]), (rawT 2 [Tr.nil, (num 10)]), (rawT 7 [Tr.nil, Tr.nil])], rfl, eU12, by decide, by decide +kernel, (((((((sU1.trans sU3).trans sU4).trans sU5).trans sU7).trans sU8).trans sU10).trans sU11).free nU12, ((((((((sU1.trans sU3).trans sU4).trans sU5).trans sU7).trans sU8).trans sU10).trans sU11).trans sU13)⟩
    rintro σ1 H1 ⟨L1, t1, rfl, hL1, hl1, hz1, nf1, s1⟩
    refine seq17 (a := tAsg _ _) (fun σ' H' => ∃ (L : Addr) (ts : List Tr), σ' = [some (.ref L), none, none, none, none, none, none, none, none, none, none] ∧ H' L = some (.lst (txV ts)) ∧ ts.length ≤ 7 ∧ (∀ t ∈ ts, t.size ≤ 60) ∧ H L = none ∧ Same H H') (fun D' hD hrt => ?_) ?_
    · refine ⟨_, rfl, ?_⟩
      refine ⟨10, rfl, by decide, fun V1 sV1 => ?_⟩
      refine ⟨by show 3 ≤ sizeLine; decide, fun V2 nV2 => ?_⟩
      rw [show [(V.str "."), (V.str "."), (V.str (num 10).text)] = txV [Tr.nil, Tr.nil, (num 10)] by rw [txV]; simp only [List.map_cons, List.map_nil, d_46, d_pp]]
      have sV3 := Same.new nV2 (o := .lst (txV [Tr.nil, Tr.nil, (num 10)]))
      have eV2 : (upd V1 V2 (.lst (txV [Tr.nil, Tr.nil, (num 10)]))) V2 = some (.lst (txV [Tr.nil, Tr.nil, (num 10)])) := upd_same
      revert sV3 eV2
      generalize upd V1 V2 (.lst (txV [Tr.nil, Tr.nil, (num 10)])) = V3
      intro sV3 eV2
      refine ⟨4, V2, _, rfl, by decide, eV2, by decide, by decide +kernel, fun V4 sV4 => ?_⟩
      refine ⟨by show 3 ≤ sizeLine; decide, fun V5 nV5 => ?_⟩
      rw [show [(V.str "."), (V.str "((..).)"), (V.str ".")] = txV [Tr.nil, (Tr.pr (Tr.pr .nil .nil) .nil), Tr.nil] by rw [txV]; simp only [List.map_cons, List.map_nil, d_46, d_pp]]
      have sV6 := Same.new nV5 (o := .lst (txV [Tr.nil, (Tr.pr (Tr.pr .nil .nil) .nil), Tr.nil]))
      have eV5 : (upd V4 V5 (.lst (txV [Tr.nil, (Tr.pr (Tr.pr .nil .nil) .nil), Tr.nil]))) V5 = some (.lst (txV [Tr.nil, (Tr.pr (Tr.pr .nil .nil) .nil), Tr.nil])) := upd_same
      revert sV6 eV5
      generalize upd V4 V5 (.lst (txV [Tr.nil, (Tr.pr (Tr.pr .nil .nil) .nil), Tr.nil])) = V6
      intro sV6 eV5
      refine ⟨3, V5, _, rfl, by decide, eV5, by decide, by decide +kernel, fun V7 sV7 => ?_⟩
      refine ⟨by show 4 ≤ sizeLine; decide, fun V8 nV8 => ?_⟩
      rw [show [V.str (rawT 4 [Tr.nil, Tr.nil, (num 10)]).text, V.str (rawT 3 [Tr.nil, (Tr.pr (Tr.pr .nil .nil) .nil), Tr.nil]).text, V.str ".", V.str "((..).)"] = txV [(rawT 4 [Tr.nil, Tr.nil, (num 10)]), (rawT 3 [Tr.nil, (Tr.pr (Tr.pr .nil .nil) .nil), Tr.nil]), Tr.nil, Tr.pr (Tr.pr .nil .nil) .nil] by rw [txV]; simp only [List.map_cons, List.map_nil, d_46, d_pp]]
      have sV9 := Same.new nV8 (o := .lst (txV [(rawT 4 [Tr.nil, Tr.nil, (num 10)]), (rawT 3 [Tr.nil, (Tr.pr (Tr.pr .nil .nil) .nil), Tr.nil]), Tr.nil, Tr.pr (Tr.pr .nil .nil) .nil]))
      have eV8 : (upd V7 V8 (.lst (txV [(rawT 4 [Tr.nil, Tr.nil, (num 10)]), (rawT 3 [Tr.nil, (Tr.pr (Tr.pr .nil .nil) .nil), Tr.nil]), Tr.nil, Tr.pr (Tr.pr .nil .nil) .nil]))) V8 = some (.lst (txV [(rawT 4 [Tr.nil, Tr.nil, (num 10)]), (rawT 3 [Tr.nil, (Tr.pr (Tr.pr .nil .nil) .nil), Tr.nil]), Tr.nil, Tr.pr (Tr.pr .nil .nil) .nil])) := upd_same
      revert sV9 eV8
      generalize upd V7 V8 (.lst (txV [(rawT 4 [Tr.nil, Tr.nil, (num 10)]), (rawT 3 [Tr.nil, (Tr.pr (Tr.pr .nil .nil) .nil), Tr.nil]), Tr.nil, Tr.pr (Tr.pr .nil .nil) .nil])) = V9
      intro sV9 eV8
      refine ⟨L1, V8, _, _, rfl, rfl, (((((sV1.trans sV3).trans sV4).trans sV6).trans sV7).trans sV9) _ _ hL1, eV8, by rw [txV, txV, List.length_map, List.length_map]; show t1.length + 4 ≤ sizeLine; omega, fun V10 nV10 => ?_⟩
      rw [show txV t1 ++ txV [(rawT 4 [Tr.nil, Tr.nil, (num 10)]), (rawT 3 [Tr.nil, (Tr.pr (Tr.pr .nil .nil) .nil), Tr.nil]), Tr.nil, Tr.pr (Tr.pr .nil .nil) .nil] = txV (t1 ++ [(rawT 4 [Tr.nil, Tr.nil, (num 10)]), (rawT 3 [Tr.nil, (Tr.pr (Tr.pr .nil .nil) .nil), Tr.nil]), Tr.nil, Tr.pr (Tr.pr .nil .nil) .nil]) by rw [txV, txV, txV, List.map_append]]
      have sV11 := Same.new nV10 (o := .lst (txV (t1 ++ [(rawT 4 [Tr.nil, Tr.nil, (num 10)]), (rawT 3 [Tr.nil, (Tr.pr (Tr.pr .nil .nil) .nil), Tr.nil]), Tr.nil, Tr.pr (Tr.pr .nil .nil) .nil])))
      have eV10 : (upd V9 V10 (.lst (txV (t1 ++ [(rawT 4 [Tr.nil, Tr.nil, (num 10)]), (rawT 3 [Tr.nil, (Tr.pr (Tr.pr .nil .nil) .nil), Tr.nil]), Tr.nil, Tr.pr (Tr.pr .nil .nil) .nil])))) V10 = some (.lst (txV (t1 ++ [(rawT 4 [Tr.nil, Tr.nil, (num 10)]), (rawT 3 [Tr.nil, (Tr.pr (Tr.pr .nil .nil) .nil), Tr.nil]), Tr.nil, Tr.pr (Tr.pr .nil .nil) .nil]))) := upd_same
      revert sV11 eV10
      generalize upd V9 V10 (.lst (txV (t1 ++ [(rawT 4 [Tr.nil, Tr.nil, (num 10)]), (rawT 3 [Tr.nil, (Tr.pr (Tr.pr .nil .nil) .nil), Tr.nil]), Tr.nil, Tr.pr (Tr.pr .nil .nil) .nil]))) = V11
      intro sV11 eV10
      refine hD _ _ ⟨V10, _, rfl, eV10, by rw [List.length_append]; show t1.length + 4 ≤ 7; omega, fun t ht => ?_, (s1.trans (((((sV1.trans sV3).trans sV4).trans sV6).trans sV7).trans sV9)).free nV10, s1.trans ((((((sV1.trans sV3).trans sV4).trans sV6).trans sV7).trans sV9).trans sV11)⟩
      rcases List.mem_append.mp ht with ht | ht
      · exact hz1 t ht
      · exact (by decide +kernel : ∀ t ∈ [(rawT 4 [Tr.nil, Tr.nil, (num 10)]), (rawT 3 [Tr.nil, (Tr.pr (Tr.pr .nil .nil) .nil), Tr.nil]), Tr.nil, Tr.pr (Tr.pr .nil .nil) .nil], t.size ≤ 60) t ht
    rintro σ2 H2 ⟨L2, t2, rfl, hL2, hl2, hz2, nf2, s2⟩
    refine seq17 (a := tAsg _ _) (fun σ' H' => ∃ (L : Addr) (ts : List Tr), σ' = [some (.ref L), none, none, none, none, none, none, none, none, none, none] ∧ H' L = some (.lst (txV ts)) ∧ ts.length ≤ 13 ∧ (∀ t ∈ ts, t.size ≤ 60) ∧ H L = none ∧ Same H H') (fun D' hD hrt => ?_) ?_
    · refine ⟨_, rfl, ?_⟩
      refine ⟨by show 2 ≤ sizeLine; decide, fun W1 nW1 => ?_⟩
      have sW2 := Same.new nW1 (o := .tup [V.int 0, .int 1])
      have eW1 : (upd H2 W1 (.tup [V.int 0, .int 1])) W1 = some (.tup [V.int 0, .int 1]) := upd_same
      revert sW2 eW1
      generalize upd H2 W1 (.tup [V.int 0, .int 1]) = W2
      intro sW2 eW1
      refine ⟨by show 2 ≤ sizeLine; decide, fun W3 nW3 => ?_⟩
      have sW4 := Same.new nW3 (o := .tup [V.int 0, .int 3])
      have eW3 : (upd W2 W3 (.tup [V.int 0, .int 3])) W3 = some (.tup [V.int 0, .int 3]) := upd_same
      revert sW4 eW3
      generalize upd W2 W3 (.tup [V.int 0, .int 3]) = W4
      intro sW4 eW3
      refine ⟨by show 2 ≤ sizeLine; decide, fun W5 nW5 => ?_⟩
      have sW6 := Same.new nW5 (o := .tup [V.int 1, .int 1])
      have eW5 : (upd W4 W5 (.tup [V.int 1, .int 1])) W5 = some (.tup [V.int 1, .int 1]) := upd_same
      revert sW6 eW5
      generalize upd W4 W5 (.tup [V.int 1, .int 1]) = W6
      intro sW6 eW5
      refine ⟨by show 2 ≤ sizeLine; decide, fun W7 nW7 => ?_⟩
      have sW8 := Same.new nW7 (o := .tup [V.int 1, .int 3])
      have eW7 : (upd W6 W7 (.tup [V.int 1, .int 3])) W7 = some (.tup [V.int 1, .int 3]) := upd_same
      revert sW8 eW7
      generalize upd W6 W7 (.tup [V.int 1, .int 3]) = W8
      intro sW8 eW7
      refine ⟨by show 2 ≤ sizeLine; decide, fun W9 nW9 => ?_⟩
      have sW10 := Same.new nW9 (o := .tup [V.int 2, .int 3])
      have eW9 : (upd W8 W9 (.tup [V.int 2, .int 3])) W9 = some (.tup [V.int 2, .int 3]) := upd_same
      revert sW10 eW9
      generalize upd W8 W9 (.tup [V.int 2, .int 3]) = W10
      intro sW10 eW9
      refine ⟨by show 2 ≤ sizeLine; decide, fun W11 nW11 => ?_⟩
      have sW12 := Same.new nW11 (o := .tup [V.int 3, .int 2])
      have eW11 : (upd W10 W11 (.tup [V.int 3, .int 2])) W11 = some (.tup [V.int 3, .int 2]) := upd_same
      revert sW12 eW11
      generalize upd W10 W11 (.tup [V.int 3, .int 2]) = W12
      intro sW12 eW11
      refine ⟨by show 6 ≤ sizeLine; decide, fun W13 nW13 => ?_⟩
      have sW14 := Same.new nW13 (o := .lst [V.ref W1, V.ref W3, V.ref W5, V.ref W7, V.ref W9, V.ref W11])
      have eW13 : (upd W12 W13 (.lst [V.ref W1, V.ref W3, V.ref W5, V.ref W7, V.ref W9, V.ref W11])) W13 = some (.lst [V.ref W1, V.ref W3, V.ref W5, V.ref W7, V.ref W9, V.ref W11]) := upd_same
      revert sW14 eW13
      generalize upd W12 W13 (.lst [V.ref W1, V.ref W3, V.ref W5, V.ref W7, V.ref W9, V.ref W11]) = W14
      intro sW14 eW13
      have pick : ∀ (i : Nat) (v : V), [V.ref W1, V.ref W3, V.ref W5, V.ref W7, V.ref W9, V.ref W11][i]? = some v → ∃ (T : Addr) (kd mn : Nat), v = .ref T ∧ W14 T = some (.tup [.int ((kd : Nat) : Int), .int ((mn : Nat) : Int)]) ∧ kd ≤ 6 ∧ mn ≤ 4 ∧ i < 6 := fun i v hv => by
        match i, hv with
        | 0, hv => cases hv; exact ⟨W1, 0, 1, rfl, (((((sW4.trans sW6).trans sW8).trans sW10).trans sW12).trans sW14) _ _ eW1, by decide, by decide, by decide⟩
        | 1, hv => cases hv; exact ⟨W3, 0, 3, rfl, ((((sW6.trans sW8).trans sW10).trans sW12).trans sW14) _ _ eW3, by decide, by decide, by decide⟩
        | 2, hv => cases hv; exact ⟨W5, 1, 1, rfl, (((sW8.trans sW10).trans sW12).trans sW14) _ _ eW5, by decide, by decide, by decide⟩
        | 3, hv => cases hv; exact ⟨W7, 1, 3, rfl, ((sW10.trans sW12).trans sW14) _ _ eW7, by decide, by decide, by decide⟩
        | 4, hv => cases hv; exact ⟨W9, 2, 3, rfl, (sW12.trans sW14) _ _ eW9, by decide, by decide, by decide⟩
        | 5, hv => cases hv; exact ⟨W11, 3, 2, rfl, sW14 _ _ eW11, by decide, by decide, by decide⟩
      refine ⟨W13, rfl, ⟨_, SqL.of eW13⟩, fun D nD => lc_list (K := K) (a := W13) (xs := [V.ref W1, V.ref W3, V.ref W5, V.ref W7, V.ref W9, V.ref W11]) (fun i H' => Same W14 H' ∧ ∃ ts : List Tr, H' D = some (.lst (txV ts)) ∧ ts.length = i ∧ ∀ t ∈ ts, t.size ≤ 60) ⟨Same.new nD, [], upd_same, rfl, fun t ht => absurd ht List.not_mem_nil⟩ (fun i H' _ z => SqL.of (z.1 _ _ eW13)) (fun i v HB hv z => ?_) (fun HB z => ?_)⟩
      · obtain ⟨sB, ts, hDB, htl, htz⟩ := z
        obtain ⟨T, kd, mn, rfl, hT, hkd, hmn, hi⟩ := pick i v hv
        refine ⟨T, _, rfl, SqT.of (sB _ _ hT), rfl, _, _, rfl, _, _, rfl, rfl, rfl, lc_yes ?_⟩
        refine ⟨_, rfl, by show 1 ≤ sizeLine; decide, fun E1 nE1 => ?_⟩
        have sC := Same.new nE1 (o := .lst [V.str "."])
        have eE1 : (upd HB E1 (.lst [V.str "."])) E1 = some (.lst [V.str "."]) := upd_same
        revert sC eE1
        generalize upd HB E1 (.lst [V.str "."]) = HC
        intro sC eE1
        refine ⟨_, rfl, E1, _, _, rfl, rfl, eE1, by omega, by omega, by show 1 * ((mn : Nat) : Int).toNat ≤ sizeLine; omega, fun E2 nE2 => ?_⟩
        rw [show (List.replicate ((mn : Nat) : Int).toNat [V.str "."]).flatten = txV (List.replicate mn Tr.nil) from rep_nil mn]
        have sD := Same.new nE2 (o := .lst (txV (List.replicate mn Tr.nil)))
        have eE2 : (upd HC E2 (.lst (txV (List.replicate mn Tr.nil)))) E2 = some (.lst (txV (List.replicate mn Tr.nil))) := upd_same
        revert sD eE2
        generalize upd HC E2 (.lst (txV (List.replicate mn Tr.nil))) = HD
        intro sD eE2
        refine ⟨kd, E2, _, rfl, by omega, eE2, by rw [List.length_replicate]; omega, by rw [raw_rep]; omega, fun HE sE => ?_⟩
        have sBE := (sC.trans sD).trans sE
        have hDE := sBE _ _ hDB
        refine ⟨_, hDE, by rw [txV, List.length_map]; omega, (sB.trans sBE).set nD, ts ++ [rawT kd (List.replicate mn Tr.nil)], ?_, by rw [List.length_append, htl]; rfl, fun t ht => ?_⟩
        · rw [upd_same, txV, txV, List.map_append]
          rfl
        · rcases List.mem_append.mp ht with ht | ht
          · exact htz t ht
          · rw [List.mem_singleton.mp ht, raw_rep]
            omega
      · obtain ⟨sB, ts, hDB, htl, htz⟩ := z
        have htl6 : ts.length = 6 := htl
        have sA := ((((((sW2.trans sW4).trans sW6).trans sW8).trans sW10).trans sW12).trans sW14).trans sB
        refine ⟨L2, D, _, _, rfl, rfl, sA _ _ hL2, hDB, by rw [txV, txV, List.length_map, List.length_map]; omega, fun L2 nL2 => ?_⟩
        rw [show txV t2 ++ txV ts = txV (t2 ++ ts) by rw [txV, txV, txV, List.map_append]]
        have sC := Same.new nL2 (o := .lst (txV (t2 ++ ts)))
        have eC : (upd HB L2 (.lst (txV (t2 ++ ts)))) L2 = some (.lst (txV (t2 ++ ts))) := upd_same
        revert sC eC
        generalize upd HB L2 (.lst (txV (t2 ++ ts))) = HC
        intro sC eC
        refine hD _ _ ⟨L2, _, rfl, eC, by rw [List.length_append]; omega, fun t ht => ?_, (s2.trans sA).free nL2, s2.trans (sA.trans sC)⟩
        rcases List.mem_append.mp ht with ht | ht
        · exact hz2 t ht
        · exact htz t ht
    rintro σ3 H3 ⟨L3, t3, rfl, hL3, hl3, hz3, nf3, s3⟩
    refine seq17 (a := tAsg _ _) (fun σ' H' => ∃ (L : Addr) (ts : List Tr), σ' = [some (.ref L), none, none, none, none, none, none, none, none, none, none] ∧ H' L = some (.lst (txV ts)) ∧ ts.length ≤ 19 ∧ (∀ t ∈ ts, t.size ≤ 60) ∧ H L = none ∧ Same H H') (fun D' hD hrt => ?_) ?_
    · refine ⟨_, rfl, ?_⟩
      refine ⟨by show 2 ≤ sizeLine; decide, fun X1 nX1 => ?_⟩
      have sX2 := Same.new nX1 (o := .tup [V.int 3, .int 4])
      have eX1 : (upd H3 X1 (.tup [V.int 3, .int 4])) X1 = some (.tup [V.int 3, .int 4]) := upd_same
      revert sX2 eX1
      generalize upd H3 X1 (.tup [V.int 3, .int 4]) = X2
      intro sX2 eX1
      refine ⟨by show 2 ≤ sizeLine; decide, fun X3 nX3 => ?_⟩
      have sX4 := Same.new nX3 (o := .tup [V.int 4, .int 2])
      have eX3 : (upd X2 X3 (.tup [V.int 4, .int 2])) X3 = some (.tup [V.int 4, .int 2]) := upd_same
      revert sX4 eX3
      generalize upd X2 X3 (.tup [V.int 4, .int 2]) = X4
      intro sX4 eX3
      refine ⟨by show 2 ≤ sizeLine; decide, fun X5 nX5 => ?_⟩
      have sX6 := Same.new nX5 (o := .tup [V.int 4, .int 4])
      have eX5 : (upd X4 X5 (.tup [V.int 4, .int 4])) X5 = some (.tup [V.int 4, .int 4]) := upd_same
      revert sX6 eX5
      generalize upd X4 X5 (.tup [V.int 4, .int 4]) = X6
      intro sX6 eX5
      refine ⟨by show 2 ≤ sizeLine; decide, fun X7 nX7 => ?_⟩
      have sX8 := Same.new nX7 (o := .tup [V.int 5, .int 1])
      have eX7 : (upd X6 X7 (.tup [V.int 5, .int 1])) X7 = some (.tup [V.int 5, .int 1]) := upd_same
      revert sX8 eX7
      generalize upd X6 X7 (.tup [V.int 5, .int 1]) = X8
      intro sX8 eX7
      refine ⟨by show 2 ≤ sizeLine; decide, fun X9 nX9 => ?_⟩
      have sX10 := Same.new nX9 (o := .tup [V.int 5, .int 3])
      have eX9 : (upd X8 X9 (.tup [V.int 5, .int 3])) X9 = some (.tup [V.int 5, .int 3]) := upd_same
      revert sX10 eX9
      generalize upd X8 X9 (.tup [V.int 5, .int 3]) = X10
      intro sX10 eX9
      refine ⟨by show 2 ≤ sizeLine; decide, fun X11 nX11 => ?_⟩
      have sX12 := Same.new nX11 (o := .tup [V.int 6, .int 2])
      have eX11 : (upd X10 X11 (.tup [V.int 6, .int 2])) X11 = some (.tup [V.int 6, .int 2]) := upd_same
      revert sX12 eX11
      generalize upd X10 X11 (.tup [V.int 6, .int 2]) = X12
      intro sX12 eX11
      refine ⟨by show 6 ≤ sizeLine; decide, fun X13 nX13 => ?_⟩
      have sX14 := Same.new nX13 (o := .lst [V.ref X1, V.ref X3, V.ref X5, V.ref X7, V.ref X9, V.ref X11])
      have eX13 : (upd X12 X13 (.lst [V.ref X1, V.ref X3, V.ref X5, V.ref X7, V.ref X9, V.ref X11])) X13 = some (.lst [V.ref X1, V.ref X3, V.ref X5, V.ref X7, V.ref X9, V.ref X11]) := upd_same
      revert sX14 eX13
      generalize upd X12 X13 (.lst [V.ref X1, V.ref X3, V.ref X5, V.ref X7, V.ref X9, V.ref X11]) = X14
      intro sX14 eX13
      have pick : ∀ (i : Nat) (v : V), [V.ref X1, V.ref X3, V.ref X5, V.ref X7, V.ref X9, V.ref X11][i]? = some v → ∃ (T : Addr) (kd mn : Nat), v = .ref T ∧ X14 T = some (.tup [.int ((kd : Nat) : Int), .int ((mn : Nat) : Int)]) ∧ kd ≤ 6 ∧ mn ≤ 4 ∧ i < 6 := fun i v hv => by
        match i, hv with
        | 0, hv => cases hv; exact ⟨X1, 3, 4, rfl, (((((sX4.trans sX6).trans sX8).trans sX10).trans sX12).trans sX14) _ _ eX1, by decide, by decide, by decide⟩
        | 1, hv => cases hv; exact ⟨X3, 4, 2, rfl, ((((sX6.trans sX8).trans sX10).trans sX12).trans sX14) _ _ eX3, by decide, by decide, by decide⟩
        | 2, hv => cases hv; exact ⟨X5, 4, 4, rfl, (((sX8.trans sX10).trans sX12).trans sX14) _ _ eX5, by decide, by decide, by decide⟩
        | 3, hv => cases hv; exact ⟨X7, 5, 1, rfl, ((sX10.trans sX12).trans sX14) _ _ eX7, by decide, by decide, by decide⟩
        | 4, hv => cases hv; exact ⟨X9, 5, 3, rfl, (sX12.trans sX14) _ _ eX9, by decide, by decide, by decide⟩
        | 5, hv => cases hv; exact ⟨X11, 6, 2, rfl, sX14 _ _ eX11, by decide, by decide, by decide⟩
      refine ⟨X13, rfl, ⟨_, SqL.of eX13⟩, fun D nD => lc_list (K := K) (a := X13) (xs := [V.ref X1, V.ref X3, V.ref X5, V.ref X7, V.ref X9, V.ref X11]) (fun i H' => Same X14 H' ∧ ∃ ts : List Tr, H' D = some (.lst (txV ts)) ∧ ts.length = i ∧ ∀ t ∈ ts, t.size ≤ 60) ⟨Same.new nD, [], upd_same, rfl, fun t ht => absurd ht List.not_mem_nil⟩ (fun i H' _ z => SqL.of (z.1 _ _ eX13)) (fun i v HB hv z => ?_) (fun HB z => ?_)⟩
      · obtain ⟨sB, ts, hDB, htl, htz⟩ := z
        obtain ⟨T, kd, mn, rfl, hT, hkd, hmn, hi⟩ := pick i v hv
        refine ⟨T, _, rfl, SqT.of (sB _ _ hT), rfl, _, _, rfl, _, _, rfl, rfl, rfl, lc_yes ?_⟩
        refine ⟨_, rfl, by show 1 ≤ sizeLine; decide, fun E1 nE1 => ?_⟩
        have sC := Same.new nE1 (o := .lst [V.str "."])
        have eE1 : (upd HB E1 (.lst [V.str "."])) E1 = some (.lst [V.str "."]) := upd_same
        revert sC eE1
        generalize upd HB E1 (.lst [V.str "."]) = HC
        intro sC eE1
        refine ⟨_, rfl, E1, _, _, rfl, rfl, eE1, by omega, by omega, by show 1 * ((mn : Nat) : Int).toNat ≤ sizeLine; omega, fun E2 nE2 => ?_⟩
        rw [show (List.replicate ((mn : Nat) : Int).toNat [V.str "."]).flatten = txV (List.replicate mn Tr.nil) from rep_nil mn]
        have sD := Same.new nE2 (o := .lst (txV (List.replicate mn Tr.nil)))
        have eE2 : (upd HC E2 (.lst (txV (List.replicate mn Tr.nil)))) E2 = some (.lst (txV (List.replicate mn Tr.nil))) := upd_same
        revert sD eE2
        generalize upd HC E2 (.lst (txV (List.replicate mn Tr.nil))) = HD
        intro sD eE2
        refine ⟨kd, E2, _, rfl, by omega, eE2, by rw [List.length_replicate]; omega, by rw [raw_rep]; omega, fun HE sE => ?_⟩
        have sBE := (sC.trans sD).trans sE
        have hDE := sBE _ _ hDB
        refine ⟨_, hDE, by rw [txV, List.length_map]; omega, (sB.trans sBE).set nD, ts ++ [rawT kd (List.replicate mn Tr.nil)], ?_, by rw [List.length_append, htl]; rfl, fun t ht => ?_⟩
        · rw [upd_same, txV, txV, List.map_append]
          rfl
        · rcases List.mem_append.mp ht with ht | ht
          · exact htz t ht
          · rw [List.mem_singleton.mp ht, raw_rep]
            omega
      · obtain ⟨sB, ts, hDB, htl, htz⟩ := z
        have htl6 : ts.length = 6 := htl
        have sA := ((((((sX2.trans sX4).trans sX6).trans sX8).trans sX10).trans sX12).trans sX14).trans sB
        refine ⟨L3, D, _, _, rfl, rfl, sA _ _ hL3, hDB, by rw [txV, txV, List.length_map, List.length_map]; omega, fun L2 nL2 => ?_⟩
        rw [show txV t3 ++ txV ts = txV (t3 ++ ts) by rw [txV, txV, txV, List.map_append]]
        have sC := Same.new nL2 (o := .lst (txV (t3 ++ ts)))
        have eC : (upd HB L2 (.lst (txV (t3 ++ ts)))) L2 = some (.lst (txV (t3 ++ ts))) := upd_same
        revert sC eC
        generalize upd HB L2 (.lst (txV (t3 ++ ts))) = HC
        intro sC eC
        refine hD _ _ ⟨L2, _, rfl, eC, by rw [List.length_append]; omega, fun t ht => ?_, (s3.trans sA).free nL2, s3.trans (sA.trans sC)⟩
        rcases List.mem_append.mp ht with ht | ht
        · exact hz3 t ht
        · exact htz t ht
    rintro σ4 H4 ⟨L4, t4, rfl, hL4, hl4, hz4, nf4, s4⟩
    refine seq17 (a := tDrop _) (fun σ' H' => ∃ (L : Addr) (ts : List Tr), σ' = [some (.ref L), none, none, none, none, none, none, none, none, none, none] ∧ H' L = some (.lst (txV ts)) ∧ ts.length ≤ 20 ∧ (∀ t ∈ ts, t.size ≤ 60) ∧ H L = none ∧ Same H H') (fun D' hD hrt => ?_) ?_
    · refine ⟨_, rfl, .inl ⟨rfl, _, SqL.of hL4⟩, ?_⟩
      refine ⟨by show 4 ≤ sizeLine; decide, fun Y1 nY1 => ?_⟩
      rw [show [(V.str "."), (V.str "."), (V.str "."), (V.str ".")] = txV [Tr.nil, Tr.nil, Tr.nil, Tr.nil] by rw [txV]; simp only [List.map_cons, List.map_nil, d_46, d_pp]]
      have sY2 := Same.new nY1 (o := .lst (txV [Tr.nil, Tr.nil, Tr.nil, Tr.nil]))
      have eY1 : (upd H4 Y1 (.lst (txV [Tr.nil, Tr.nil, Tr.nil, Tr.nil]))) Y1 = some (.lst (txV [Tr.nil, Tr.nil, Tr.nil, Tr.nil])) := upd_same
      revert sY2 eY1
      generalize upd H4 Y1 (.lst (txV [Tr.nil, Tr.nil, Tr.nil, Tr.nil])) = Y2
      intro sY2 eY1
      refine ⟨6, Y1, _, rfl, by decide, eY1, by decide, by decide +kernel, fun Y3 sY3 => ?_⟩
      refine ⟨L4, _, _, rfl, rfl, (sY2.trans sY3) _ _ hL4, by rw [txV, List.length_map]; omega, ?_⟩
      refine hD _ _ ⟨L4, t4 ++ [(rawT 6 [Tr.nil, Tr.nil, Tr.nil, Tr.nil])], rfl, ?_, by rw [List.length_append]; show t4.length + 1 ≤ 20; omega, fun t ht => ?_, nf4, (s4.trans (sY2.trans sY3)).set nf4⟩
      · rw [upd_same, txV, txV, List.map_append]
        rfl
      · rcases List.mem_append.mp ht with ht | ht
        · exact hz4 t ht
        · rw [List.mem_singleton.mp ht]
          decide +kernel
    rintro σ5 H5 ⟨L5, t5, rfl, hL5, hl5, hz5, nf5, s5⟩
    refine seq17 (a := tPar 1 2 _) (fun σ' H' => ∃ F0 : Addr, σ' = [some (.ref L5), some (.str (rawT 1 [Tr.nil, Tr.nil]).text), some (.ref F0), none, none, none, none, none, none, none, none] ∧ H' F0 = some (.lst []) ∧ Same H5 H') (fun D' hD hrt => ?_) ?_
    · skip
      refine ⟨by show 2 ≤ sizeLine; decide, fun Z1 nZ1 => ?_⟩
      rw [show [(V.str "."), (V.str ".")] = txV [Tr.nil, Tr.nil] by rw [txV]; simp only [List.map_cons, List.map_nil, d_46, d_pp]]
      have sZ2 := Same.new nZ1 (o := .lst (txV [Tr.nil, Tr.nil]))
      have eZ1 : (upd H5 Z1 (.lst (txV [Tr.nil, Tr.nil]))) Z1 = some (.lst (txV [Tr.nil, Tr.nil])) := upd_same
      revert sZ2 eZ1
      generalize upd H5 Z1 (.lst (txV [Tr.nil, Tr.nil])) = Z2
      intro sZ2 eZ1
      refine ⟨1, Z1, _, rfl, by decide, eZ1, by decide, by decide +kernel, fun Z3 sZ3 => ?_⟩
      refine ⟨Nat.zero_le _, fun Z4 nZ4 => ?_⟩
      have sZ5 := Same.new nZ4 (o := .lst [])
      have eZ4 : (upd Z3 Z4 (.lst [])) Z4 = some (.lst []) := upd_same
      revert sZ5 eZ4
      generalize upd Z3 Z4 (.lst []) = Z5
      intro sZ5 eZ4
      exact ⟨_, _, rfl, hD _ _ ⟨Z4, rfl, eZ4, ((sZ2.trans sZ3).trans sZ5)⟩⟩
    rintro σ6 H6 ⟨F0, rfl, hF0, s6⟩
    obtain ⟨g0, hg0, hgz⟩ : ∃ g0, g0 = rawT 1 [Tr.nil, Tr.nil] ∧ g0.size ≤ 10 := ⟨_, rfl, by decide +kernel⟩
    rw [← hg0]
    refine seq17 (a := tFor _ _ _) (fun σ' H' => ∃ (F : Addr) (vs : List V) (x3 x4 x5 x6 : Option V), σ' = [some (.ref L5), some (.str g0.text), some (.ref F), x3, x4, x5, x6, none, none, none, none] ∧ H' F = some (.lst vs) ∧ vs.length ≤ 120 ∧ FL17 H' vs ∧ Same H6 H') (fun D' hD hrt => ?_) ?_
    · refine ⟨_, rfl, L5, rfl, ⟨_, SqL.of (s6 _ _ hL5)⟩, for_list (K := K) (a := L5) (xs := txV t5) (fun i σ H' => ∃ (F : Addr) (vs : List V) (x3 x4 x5 x6 : Option V), σ = [some (.ref L5), some (.str g0.text), some (.ref F), x3, x4, x5, x6, none, none, none, none] ∧ H' F = some (.lst vs) ∧ vs.length = 6 * i ∧ FL17 H' vs ∧ Same H6 H') ⟨F0, [], _, _, _, _, rfl, hF0, rfl, fun v hv => absurd hv List.not_mem_nil, Same.refl _⟩ (fun i σ H' _ z => by obtain ⟨_, _, _, _, _, _, _, _, _, _, z⟩ := z; exact SqL.of ((s6.trans z) _ _ hL5)) ?_ ?_⟩
      · rintro i v σ H7 hv ⟨F, vs, x3, x4, x5, x6, rfl, hF, hvl, hfl, s7⟩
        unfold txV at hv
        rw [List.getElem?_map] at hv
        obtain ⟨t, ht, rfl⟩ := Option.map_eq_some_iff.mp hv
        have hil := (List.getElem?_eq_some_iff.mp ht).1
        have htz := hz5 t (List.mem_of_getElem? ht)
        dsimp only [gName]
        refine seq17 (a := tAsg _ _) (fun σ' H' => σ' = [some (.ref L5), some (.str g0.text), some (.ref F), some (.str t.text), some (.str (rowT [t]).text), x5, x6, none, none, none, none] ∧ Same H7 H') (fun D2 hD2 _ => ?_) ?_
        · refine ⟨_, rfl, by show 1 ≤ sizeLine; decide, fun A1 nA1 => ?_⟩
          have s8 := Same.new nA1 (o := .lst [V.str t.text])
          have e8 : (upd H7 A1 (.lst [V.str t.text])) A1 = some (.lst [V.str t.text]) := upd_same
          revert s8 e8
          generalize upd H7 A1 (.lst [V.str t.text]) = H8
          intro s8 e8
          exact ⟨A1, [t], rfl, SqL.of e8, by rw [rs1]; omega, fun H9 s9 => hD2 _ _ ⟨rfl, s8.trans s9⟩⟩
        rintro σ8 H8 ⟨rfl, s8⟩
        obtain ⟨R, hR, hRz⟩ : ∃ R, R = rowT [t] ∧ R.size ≤ 61 := ⟨_, rfl, by rw [rs1]; omega⟩
        rw [← hR]
        refine seq17 (a := tAsg _ _) (fun σ' H' => ∃ (A : Addr) (d0 d1 : Tr), σ' = [some (.ref L5), some (.str g0.text), some (.ref F), some (.str t.text), some (.str R.text), some (.ref A), x6, none, none, none, none] ∧ H' A = some (.lst (txV [d0, d1])) ∧ d0.size ≤ 100 ∧ d1.size ≤ 100 ∧ Same H8 H') (fun D2 hD2 _ => ?_) ?_
        · refine ⟨_, rfl, by show 2 ≤ sizeLine; decide, fun A2 nA2 => ?_⟩
          rw [show [V.str ".", V.str R.text] = txV [Tr.nil, R] by rw [d_46]; rfl]
          have s9 := Same.new nA2 (o := .lst (txV [Tr.nil, R]))
          have e9 : (upd H8 A2 (.lst (txV [Tr.nil, R]))) A2 = some (.lst (txV [Tr.nil, R])) := upd_same
          revert s9 e9
          generalize upd H8 A2 (.lst (txV [Tr.nil, R])) = H9
          intro s9 e9
          refine ⟨5, A2, _, rfl, by decide, e9, by show 2 ≤ 1000; decide, by rw [rw2, Tr.size]; omega, fun HA sA => ?_⟩
          refine ⟨_, rfl, by show 1 ≤ sizeLine; decide, fun A3 nA3 => ?_⟩
          have sB := Same.new nA3 (o := .lst [V.str g0.text])
          have eB : (upd HA A3 (.lst [V.str g0.text])) A3 = some (.lst [V.str g0.text]) := upd_same
          revert sB eB
          generalize upd HA A3 (.lst [V.str g0.text]) = HB
          intro sB eB
          refine ⟨A3, [g0], rfl, SqL.of eB, by rw [rs1]; omega, fun HC sC => ?_⟩
          refine ⟨_, rfl, by show 3 ≤ sizeLine; decide, fun A4 nA4 => ?_⟩
          rw [show [V.str ".", V.str (rowT [g0]).text, V.str R.text] = txV [Tr.nil, rowT [g0], R] by rw [d_46]; rfl]
          have sD := Same.new nA4 (o := .lst (txV [Tr.nil, rowT [g0], R]))
          have eD : (upd HC A4 (.lst (txV [Tr.nil, rowT [g0], R]))) A4 = some (.lst (txV [Tr.nil, rowT [g0], R])) := upd_same
          revert sD eD
          generalize upd HC A4 (.lst (txV [Tr.nil, rowT [g0], R])) = HD
          intro sD eD
          refine ⟨6, A4, _, rfl, by decide, eD, by show 3 ≤ 1000; decide, by rw [rw3, rs1, Tr.size]; omega, fun HE sE => ?_⟩
          refine ⟨by show 2 ≤ sizeLine; decide, fun A5 nA5 => ?_⟩
          have sG := Same.new nA5 (o := .lst [V.str (rawT 5 [Tr.nil, R]).text, V.str (rawT 6 [Tr.nil, rowT [g0], R]).text])
          have eG : (upd HE A5 (.lst [V.str (rawT 5 [Tr.nil, R]).text, V.str (rawT 6 [Tr.nil, rowT [g0], R]).text])) A5 = some (.lst [V.str (rawT 5 [Tr.nil, R]).text, V.str (rawT 6 [Tr.nil, rowT [g0], R]).text]) := upd_same
          revert sG eG
          generalize upd HE A5 (.lst [V.str (rawT 5 [Tr.nil, R]).text, V.str (rawT 6 [Tr.nil, rowT [g0], R]).text]) = HG
          intro sG eG
          exact hD2 _ _ ⟨A5, rawT 5 [Tr.nil, R], rawT 6 [Tr.nil, rowT [g0], R], rfl, eG, by rw [rw2, Tr.size]; omega, by rw [rw3, rs1, Tr.size]; omega, (((((s9.trans sA).trans sB).trans sC).trans sD).trans sE).trans sG⟩
        rintro σ9 H9 ⟨A, d0, d1, rfl, hA, hd0, hd1, s9⟩
        refine seq17 (a := tFor _ _ _) (fun σ' H' => ∃ (A : Addr) (d0 d1 : Tr) (x6 : Option V), σ' = [some (.ref L5), some (.str g0.text), some (.ref F), some (.str t.text), some (.str R.text), some (.ref A), x6, none, none, none, none] ∧ H' A = some (.lst (txV [d0, d1])) ∧ d0.size ≤ 200 ∧ d1.size ≤ 200 ∧ Same H9 H') (fun D2 hD2 _ => ?_) ?_
        · refine ⟨8, rfl, by decide, by decide, for_range (n := 8) (fun j σ H' => ∃ (A : Addr) (d0 d1 : Tr) (x6 : Option V), σ = [some (.ref L5), some (.str g0.text), some (.ref F), some (.str t.text), some (.str R.text), some (.ref A), x6, none, none, none, none] ∧ H' A = some (.lst (txV [d0, d1])) ∧ d0.size ≤ 100 + 10 * j ∧ d1.size ≤ 100 + 10 * j ∧ Same H9 H') ⟨A, d0, d1, x6, rfl, hA, hd0, hd1, Same.refl _⟩ ?_ ?_⟩
          · rintro j σ HA hj ⟨A2, e0, e1, x6, rfl, hA2, he0, he1, sA⟩
            have hj : j < 8 := hj
            dsimp only [gName]
            refine ⟨_, rfl, A2, rfl, ⟨_, SqL.of hA2⟩, fun D nD => lc_list (K := K) (a := A2) (xs := txV [e0, e1]) (fun i H' => ∃ ts : List Tr, Same HA H' ∧ H' D = some (.lst (txV ts)) ∧ Paired (fun (a b : Tr) => a.size ≤ b.size + 10) ts ([e0, e1].take i)) ⟨[], Same.new nD, upd_same, .nil⟩ (fun i H' _ z => by obtain ⟨_, z, _⟩ := z; exact SqL.of (z _ _ hA2)) (fun i v HB hv z => ?_) (fun HB z => ?_)⟩
            · obtain ⟨ts, sB, hDB, hp⟩ := z
              unfold txV at hv
              rw [List.getElem?_map] at hv
              obtain ⟨c, hc, rfl⟩ := Option.map_eq_some_iff.mp hv
              have hcz : c.size ≤ 200 := by
                have hm := List.mem_of_getElem? hc
                simp only [List.mem_cons, List.not_mem_nil, or_false] at hm
                rcases hm with rfl | rfl <;> omega
              have hpl := Paired.length hp
              rw [List.length_take] at hpl
              have hpl2 : ts.length ≤ 2 := by
                have : [e0, e1].length = 2 := rfl
                omega
              refine ⟨rfl, lc_yes ?_⟩
              refine ⟨_, rfl, by show 1 ≤ sizeLine; decide, fun B1 nB1 => ?_⟩
              have sC := Same.new nB1 (o := .lst [V.str c.text])
              have eC : (upd HB B1 (.lst [V.str c.text])) B1 = some (.lst [V.str c.text]) := upd_same
              revert sC eC
              generalize upd HB B1 (.lst [V.str c.text]) = HC
              intro sC eC
              refine ⟨B1, [c], rfl, SqL.of eC, by rw [rs1]; omega, fun HD sD => ?_⟩
              refine ⟨by show 2 ≤ sizeLine; decide, fun B3 nB3 => ?_⟩
              rw [show [V.str "(..)", V.str (rowT [c]).text] = txV [Tr.pr .nil .nil, rowT [c]] by rw [d_dd]; rfl]
              have sE := Same.new nB3 (o := .lst (txV [Tr.pr .nil .nil, rowT [c]]))
              have eE : (upd HD B3 (.lst (txV [Tr.pr .nil .nil, rowT [c]]))) B3 = some (.lst (txV [Tr.pr .nil .nil, rowT [c]])) := upd_same
              revert sE eE
              generalize upd HD B3 (.lst (txV [Tr.pr .nil .nil, rowT [c]])) = HE
              intro sE eE
              have hrz : (rawT 5 [Tr.pr .nil .nil, rowT [c]]).size = c.size + 10 := by
                rw [rw2, rs1, Tr.size, Tr.size]
                omega
              refine ⟨5, B3, _, rfl, by decide, eE, by show 2 ≤ 1000; decide, by omega, fun HG sG => ?_⟩
              have sBG := ((sC.trans sD).trans sE).trans sG
              refine ⟨_, sBG _ _ hDB, by rw [txV, List.length_map]; omega, ts ++ [rawT 5 [Tr.pr .nil .nil, rowT [c]]], (sB.trans sBG).set nD, ?_, ?_⟩
              · rw [upd_same, txV, txV, List.map_append]
                rfl
              · rw [List.take_add_one, hc]
                exact paired_snoc hp (by rw [hrz]; exact Nat.le_refl _)
            · obtain ⟨ts, sB, hDB, hp⟩ := z
              have hp2 : Paired (fun (a b : Tr) => a.size ≤ b.size + 10) ts [e0, e1] := hp
              cases hp2 with
              | cons h1 t1 => cases t1 with
                | cons h2 t2 => cases t2 with
                  | nil => exact ⟨D, _, _, _, rfl, hDB, by omega, by omega, sA.trans sB⟩
          · rintro σ HA ⟨A2, e0, e1, x6, rfl, hA2, he0, he1, sA⟩
            exact hD2 _ _ ⟨A2, e0, e1, x6, rfl, hA2, by omega, by omega, sA⟩
        rintro σA HA ⟨B2, f0, f1, x6, rfl, hB2, hf0, hf1, sA⟩
        have s7A := ((s8.trans s9).trans sA)
        refine ⟨_, rfl, _, rfl, by show 1 ≤ sizeLine; decide, fun C1 nC1 => ?_⟩
        have sB := Same.new nC1 (o := .lst [V.str t.text])
        have eB : (upd HA C1 (.lst [V.str t.text])) C1 = some (.lst [V.str t.text]) := upd_same
        revert sB eB
        generalize upd HA C1 (.lst [V.str t.text]) = HB
        intro sB eB
        refine ⟨_, rfl, by show 2 ≤ sizeLine; decide, fun C2 nC2 => ?_⟩
        rw [show [V.str t.text, V.str "."] = txV [t, Tr.nil] by rw [d_46]; rfl]
        have sC := Same.new nC2 (o := .lst (txV [t, Tr.nil]))
        have eC : (upd HB C2 (.lst (txV [t, Tr.nil]))) C2 = some (.lst (txV [t, Tr.nil])) := upd_same
        revert sC eC
        generalize upd HB C2 (.lst (txV [t, Tr.nil])) = HC
        intro sC eC
        refine ⟨_, rfl, _, rfl, by show 3 ≤ sizeLine; decide, fun C3 nC3 => ?_⟩
        rw [show [V.str g0.text, V.str t.text, V.str "((..).)"] = txV [g0, t, Tr.pr (Tr.pr .nil .nil) .nil] by rw [d_pp]; rfl]
        have sD := Same.new nC3 (o := .lst (txV [g0, t, Tr.pr (Tr.pr .nil .nil) .nil]))
        have eD : (upd HC C3 (.lst (txV [g0, t, Tr.pr (Tr.pr .nil .nil) .nil]))) C3 = some (.lst (txV [g0, t, Tr.pr (Tr.pr .nil .nil) .nil])) := upd_same
        revert sD eD
        generalize upd HC C3 (.lst (txV [g0, t, Tr.pr (Tr.pr .nil .nil) .nil])) = HD
        intro sD eD
        have sAD := (sB.trans sC).trans sD
        refine ⟨_, rfl, B2, _, 0, _, rfl, rfl, SqL.of (sAD _ _ hB2), at0 _ _, by show 2 ≤ sizeLine; decide, fun C4 nC4 => ?_⟩
        rw [show [V.str f0.text, V.str "."] = txV [f0, Tr.nil] by rw [d_46]; rfl]
        have sE := Same.new nC4 (o := .lst (txV [f0, Tr.nil]))
        have eE : (upd HD C4 (.lst (txV [f0, Tr.nil]))) C4 = some (.lst (txV [f0, Tr.nil])) := upd_same
        revert sE eE
        generalize upd HD C4 (.lst (txV [f0, Tr.nil])) = HE
        intro sE eE
        refine ⟨_, rfl, B2, _, 1, .str f1.text, rfl, rfl, SqL.of ((sAD.trans sE) _ _ hB2), atI_nat (j := 1) rfl, by show 1 ≤ sizeLine; decide, fun C5 nC5 => ?_⟩
        have sG := Same.new nC5 (o := .lst [V.str f1.text])
        have eG : (upd HE C5 (.lst [V.str f1.text])) C5 = some (.lst [V.str f1.text]) := upd_same
        revert sG eG
        generalize upd HE C5 (.lst [V.str f1.text]) = HG
        intro sG eG
        refine ⟨_, rfl, by show 6 ≤ sizeLine; decide, fun C6 nC6 => ?_⟩
        have sI := Same.new nC6 (o := .lst [V.ref C1, .ref C2, .ref C3, .ref C4, .ref C5, .ref B2])
        have eI : (upd HG C6 (.lst [V.ref C1, .ref C2, .ref C3, .ref C4, .ref C5, .ref B2])) C6 = some (.lst [V.ref C1, .ref C2, .ref C3, .ref C4, .ref C5, .ref B2]) := upd_same
        revert sI eI
        generalize upd HG C6 (.lst [V.ref C1, .ref C2, .ref C3, .ref C4, .ref C5, .ref B2]) = HI
        intro sI eI
        have sAI := ((sAD.trans sE).trans sG).trans sI
        refine ⟨F, C6, vs, _, rfl, rfl, (s7A.trans sAI) _ _ hF, eI, by show vs.length + 6 ≤ sizeLine; omega, fun C7 nC7 => ?_⟩
        have sJ := Same.new nC7 (o := .lst (vs ++ [V.ref C1, .ref C2, .ref C3, .ref C4, .ref C5, .ref B2]))
        have eJ : (upd HI C7 (.lst (vs ++ [V.ref C1, .ref C2, .ref C3, .ref C4, .ref C5, .ref B2]))) C7 = some (.lst (vs ++ [V.ref C1, .ref C2, .ref C3, .ref C4, .ref C5, .ref B2])) := upd_same
        revert sJ eJ
        generalize upd HI C7 (.lst (vs ++ [V.ref C1, .ref C2, .ref C3, .ref C4, .ref C5, .ref B2])) = HJ
        intro sJ eJ
        have hsz : (Tr.pr (Tr.pr .nil .nil) .nil).size = 2 := rfl
        refine ⟨C7, _, _, _, _, _, rfl, eJ, by rw [List.length_append]; show vs.length + 6 = _; omega, fun v hv => ?_, ((s7.trans s7A).trans sAI).trans sJ⟩
        rcases List.mem_append.mp hv with hv | hv
        · exact (hfl.same ((s7A.trans sAI).trans sJ)) v hv
        · simp only [List.mem_cons, List.not_mem_nil, or_false] at hv
          rcases hv with rfl | rfl | rfl | rfl | rfl | rfl
          · exact ⟨C1, [t], rfl, (((((sC.trans sD).trans sE).trans sG).trans sI).trans sJ) _ _ eB, by rw [rs1]; omega⟩
          · exact ⟨C2, [t, Tr.nil], rfl, ((((sD.trans sE).trans sG).trans sI).trans sJ) _ _ eC, by rw [rs2, Tr.size]; omega⟩
          · exact ⟨C3, [g0, t, Tr.pr (Tr.pr .nil .nil) .nil], rfl, (((sE.trans sG).trans sI).trans sJ) _ _ eD, by rw [rs3]; omega⟩
          · exact ⟨C4, [f0, Tr.nil], rfl, ((sG.trans sI).trans sJ) _ _ eE, by rw [rs2, Tr.size]; omega⟩
          · exact ⟨C5, [f1], rfl, (sI.trans sJ) _ _ eG, by rw [rs1]; omega⟩
          · exact ⟨B2, [f0, f1], rfl, (sAI.trans sJ) _ _ hB2, by rw [rs2]; omega⟩
      · rintro σ H7 ⟨F, vs, x3, x4, x5, x6, rfl, hF, hvl, hfl, s7⟩
        rw [txV, List.length_map] at hvl
        exact hD _ _ ⟨F, vs, x3, x4, x5, x6, rfl, hF, by omega, hfl, s7⟩
    rintro σ7 H7 ⟨F, vs, x3, x4, x5, x6, rfl, hF, hvl, hfl, s7⟩
    refine ⟨_, rfl, F, rfl, ⟨_, SqL.of hF⟩, fun D nD => lc_list (K := K) (a := F) (xs := vs) (fun i H' => ∃ ts : List Tr, Same H7 H' ∧ H' D = some (.lst (txV ts)) ∧ ts.length = i ∧ ∀ t ∈ ts, t.size ≤ 4000) ⟨[], Same.new nD, upd_same, rfl, fun t ht => absurd ht List.not_mem_nil⟩ (fun i H' _ z => by obtain ⟨_, z, _⟩ := z; exact SqL.of (z _ _ hF)) (fun i v HB hv z => ?_) (fun HB z => ?_)⟩
    · obtain ⟨ts, sB, hDB, htl, htz⟩ := z
      have hil := (List.getElem?_eq_some_iff.mp hv).1
      obtain ⟨q, us, rfl, hq, hqz⟩ := hfl v (List.mem_of_getElem? hv)
      refine ⟨rfl, lc_yes ?_⟩
      refine ⟨_, rfl, q, us, rfl, SqL.of (sB _ _ hq), by omega, fun HC sC => ?_⟩
      refine ⟨_, sC _ _ hDB, by rw [txV, List.length_map]; omega, ts ++ [rowT us], (sB.trans sC).set nD, ?_, by rw [List.length_append, htl]; rfl, fun t ht => ?_⟩
      · rw [upd_same, txV, txV, List.map_append]
        rfl
      · rcases List.mem_append.mp ht with ht | ht
        · exact htz t ht
        · rw [List.mem_singleton.mp ht]
          exact hqz
    · obtain ⟨ts, sB, hDB, htl, htz⟩ := z
      exact k D ts HB (((s5.trans s6).trans s7).trans sB) hDB (by omega) htz
end
end Js
set_option Elab.async false
set_option linter.all false
set_option maxRecDepth 100000
set_option maxHeartbeats 2000000
namespace Js
open PySem L2
abbrev sName : Stmt := top 54
abbrev sDeed : Stmt := top 55
abbrev sDeeds : Stmt := top 56
abbrev sTop : Stmt := top 57
theorem cz_app : ∀ a b : List Dd, (codeR (a ++ b)).size = (codeR a).size + (codeR b).size
  | [], b => by rw [List.nil_append, codeR, Tr.size, Nat.zero_add]
  | d :: a, b => by
    rw [List.cons_append, codeR, codeR, Tr.size, Tr.size, cz_app a b]
    omega
theorem cz_one (d : Dd) : (codeR [d]).size = 1 + d.code.size := by
  rw [codeR, codeR, Tr.size, Tr.size, Nat.add_zero]
theorem cz_told (a : Nat) (t : Tr) : (Dd.told a t).code.size = 3 + a + t.size := by
  rw [Dd.code]
  show 1 + (num 0).size + (1 + (num a).size + (1 + t.size + 0)) = _
  rw [num_size, num_size]
  omega
theorem cz_take (s : Bool) (a b : Nat) : (Dd.take s a b).code.size = 3 + (if s = true then 2 else 1) + a + b := by
  rw [Dd.code]
  show 1 + (num (if s = true then 2 else 1)).size + (1 + (num a).size + (1 + (num b).size + 0)) = _
  rw [num_size, num_size, num_size]
  omega
theorem cz_two (s : Bool) (a b c : Nat) : (Dd.two s a b c).code.size = 4 + (if s = true then 4 else 3) + a + b + c := by
  rw [Dd.code]
  show 1 + (num (if s = true then 4 else 3)).size + (1 + (num a).size + (1 + (num b).size + (1 + (num c).size + 0))) = _
  rw [num_size, num_size, num_size, num_size]
  omega
theorem cz_wh (a : Nat) (r : List Dd) : (Dd.wh a r).code.size = 8 + a + (codeR r).size := by
  rw [Dd.code]
  show 1 + (num 5).size + (1 + (num a).size + (1 + (codeR r).size + 0)) = _
  rw [num_size, num_size]
  omega
theorem cz_iff (a : Nat) (r o : List Dd) : (Dd.iff a r o).code.size = 10 + a + (codeR r).size + (codeR o).size := by
  rw [Dd.code]
  show 1 + (num 6).size + (1 + (num a).size + (1 + (codeR r).size + (1 + (codeR o).size + 0))) = _
  rw [num_size, num_size]
  omega
mutual
def Dd.sm : Dd → Prop
  | .told _ t => t.size ≤ 3
  | .take _ _ _ => True
  | .two _ _ _ _ => True
  | .wh _ r => smR r
  | .iff _ r o => smR r ∧ smR o
def smR : List Dd → Prop
  | [] => True
  | d :: r => d.sm ∧ smR r
end
theorem smR_app : ∀ (a b : List Dd), smR a → smR b → smR (a ++ b)
  | [], _, _, h => h
  | _ :: a, b, h, h2 => ⟨h.1, smR_app a b h.2 h2⟩
def KC (p f : Addr) (H H' : Hp) : Prop := ∀ a o, a ≠ p → a ≠ f → H a = some o → H' a = some o
theorem KC.refl (p f : Addr) (H : Hp) : KC p f H H := fun _ _ _ _ h => h
theorem KC.of {p f : Addr} {H H' : Hp} (s : Same H H') : KC p f H H' := fun _ _ _ _ h => s _ _ h
theorem KC.kb {p f : Addr} {H H' : Hp} (k : KB p H H') : KC p f H H' := fun _ _ n _ h => k _ _ n h
theorem KC.trans {p f : Addr} {H H1 H2 : Hp} (a : KC p f H H1) (b : KC p f H1 H2) : KC p f H H2 := fun x o n m h => b x o n m (a x o n m h)
theorem KC.set {p f : Addr} {H : Hp} {o : HO} : KC p f H (upd H f o) := fun x u _ m h => by rw [upd_ne m]; exact h
theorem KC.kt {p f : Addr} {H H' : Hp} (k : KC p f H H') {xs ys : List V} (hp : H p = some (.lst xs)) (hf : H f = some (.lst ys)) : KT H H' := fun a o h n => k a o (fun z => by subst z; exact n _ (Option.some.inj (h.symm.trans hp))) (fun z => by subst z; exact n _ (Option.some.inj (h.symm.trans hf))) h
def Lf (H : Hp) (f : Addr) (l : Nat) : Prop := H f = some (.lst [.int (l : Nat)])
def spName : Sp := fun vs H Q _ => ∃ p, vs = [.ref p] ∧ BagOk H p ∧ ∀ (a : Nat) H', KB p H H' → BagOk H' p → a < 10 → Q (.int (a : Nat)) H'
def spDeed (K : PySem.W.Frag) (C : Addr) (m : Nat) : Sp := fun vs H Q _ => ∃ (p f : Addr) (dp l : Nat), vs = [.ref p, .ref f, .int (dp : Nat)] ∧ BagOk H p ∧ Lf H f l ∧ p ≠ f ∧ dp + m = 5 ∧ l ≤ 1000 ∧
  ∀ v d l' H', KC p f H H' → BagOk H' p → Lf H' f l' → l' ≤ l → DAt K C H' v d → d.deep ≤ m → d.many ≤ 2 * (l - l') + 2 → d.sm → d.code.size + 1 ≤ 42 * (l - l') + 42 → Q v H'
def spDeeds (K : PySem.W.Frag) (C : Addr) (m : Nat) : Sp := fun vs H Q _ => ∃ (p f : Addr) (dp l : Nat), vs = [.ref p, .ref f, .int (dp : Nat)] ∧ BagOk H p ∧ Lf H f l ∧ p ≠ f ∧ dp + m = 6 ∧ 1 ≤ m ∧ l ≤ 1000 ∧
  ∀ q r l' H', KC p f H H' → BagOk H' p → Lf H' f l' → l' ≤ l → RAt K C H' q r → deepR r + 1 ≤ m → manyR r ≤ 2 * (l - l') → smR r → (codeR r).size ≤ 42 * (l - l') → Q (.ref q) H'
theorem name_at (d : Int) (h0 : 0 ≤ d) (h1 : d < 8) : ∃ a : Nat, atI [V.int 0, V.int 0, V.int 0, V.int 1, V.int 1, V.int 2, V.int 2, V.int 3] d = some (.int (a : Nat)) ∧ a < 10 := by
  obtain ⟨n, rfl⟩ := Int.eq_ofNat_of_zero_le h0
  match n, h1 with
  | 0, _ => exact ⟨0, rfl, by decide⟩
  | 1, _ => exact ⟨0, rfl, by decide⟩
  | 2, _ => exact ⟨0, rfl, by decide⟩
  | 3, _ => exact ⟨1, rfl, by decide⟩
  | 4, _ => exact ⟨1, rfl, by decide⟩
  | 5, _ => exact ⟨2, rfl, by decide⟩
  | 6, _ => exact ⟨2, rfl, by decide⟩
  | 7, _ => exact ⟨3, rfl, by decide⟩
  | n + 8, h => exact absurd h (by omega)
theorem kind_at (d : Int) (h0 : 0 ≤ d) (h1 : d < 6) : ∃ k : Str, atI [V.str "first", V.str "second", V.str "second", V.str "pair", V.str "pair", V.str "same"] d = some (.str k) ∧ ((∃ s, k = takeS s) ∨ ∃ s, k = twoS s) := by
  obtain ⟨n, rfl⟩ := Int.eq_ofNat_of_zero_le h0
  match n, h1 with
  | 0, _ => exact ⟨_, rfl, .inl ⟨false, rfl⟩⟩
  | 1, _ => exact ⟨_, rfl, .inl ⟨true, rfl⟩⟩
  | 2, _ => exact ⟨_, rfl, .inl ⟨true, rfl⟩⟩
  | 3, _ => exact ⟨_, rfl, .inr ⟨false, rfl⟩⟩
  | 4, _ => exact ⟨_, rfl, .inr ⟨false, rfl⟩⟩
  | 5, _ => exact ⟨_, rfl, .inr ⟨true, rfl⟩⟩
  | n + 6, h => exact absurd h (by omega)
theorem in_take (s : Bool) : inV (.str (takeS s)) [V.str "pair", V.str "same"] = false := by cases s <;> decide +kernel
theorem in_two (s : Bool) : inV (.str (twoS s)) [V.str "pair", V.str "same"] = true := by cases s <;> decide +kernel
theorem DsAt_snoc {K : PySem.W.Frag} {C : Addr} {H : Hp} {v : V} {d : Dd} (hd : DAt K C H v d) : ∀ (r : List Dd) (vs : List V), DsAt K C H vs r → DsAt K C H (vs ++ [v]) (r ++ [d])
  | [], vs, h => by
    have e : vs = [] := h
    subst e
    exact ⟨v, [], rfl, hd, rfl⟩
  | e :: r, vs, h => by
    obtain ⟨u, us, rfl, h1, h2⟩ := h
    exact ⟨u, us ++ [v], rfl, h1, DsAt_snoc hd r us h2⟩
theorem DsAt_app {K : PySem.W.Frag} {C : Addr} {H : Hp} : ∀ (r u : List Dd) (vs us : List V), DsAt K C H vs r → DsAt K C H us u → DsAt K C H (vs ++ us) (r ++ u)
  | [], u, vs, us, h, g => by
    have e : vs = [] := h
    subst e
    exact g
  | e :: r, u, vs, us, h, g => by
    obtain ⟨v, ws, rfl, h1, h2⟩ := h
    exact ⟨v, ws ++ us, rfl, h1, DsAt_app r u ws us h2 g⟩
theorem deepR_app : ∀ (a b : List Dd), deepR (a ++ b) = max (deepR a) (deepR b)
  | [], b => by rw [List.nil_append, deepR, Nat.max_eq_right (Nat.zero_le _)]
  | d :: a, b => by rw [List.cons_append, deepR, deepR_app a b, deepR, Nat.max_assoc]
theorem len_many : ∀ r : List Dd, r.length ≤ manyR r
  | [] => Nat.zero_le _
  | d :: r => by
    have := len_many r
    have := many_pos d
    rw [List.length_cons, many_cons]
    omega
theorem deepR_one (d : Dd) : deepR [d] = d.deep := by rw [deepR, deepR, Nat.max_eq_left (Nat.zero_le _)]
section
variable {P : Program} {w : World} {K : PySem.W.Frag} {mg : Str → Option Value} {base : Heap} {C : Addr}
theorem scNa : FnScope ["_law_bag_here"] ["_law_bag_here"] (defScope sName) := ⟨rfl, rfl, rfl, by decide +kernel, rfl, by decide +kernel, by decide +kernel⟩
theorem ok_name {f : Addr} {fd : FuncData} (F : Fun K "_law_name" "_law_name" sName f fd) (DTk : Def P w K mg base "_law_take" 1 ["_law_bag_here", "_law_many"] spTake) : FnOk P w K mg base CX0 2 f fd ["_law_bag_here"] spName := by
  refine F.ok scNa (fun vs H Q E h => ?_) (fun cdv A outer s H vs Q E hr h => ?_)
  · obtain ⟨p, rfl, _⟩ := h
    rfl
  · obtain ⟨p, rfl, hb, k⟩ := h
    have hr1 : Room 1 _ := hr
    refine ⟨_, pss_cons (ps_if (pt_cmpR op_eq (pe_def DTk hr1 rfl (pa_cons (pv 0) (pa_cons pe_int pa_nil))) pe_int (nomark _)) (pss_one (ps_ret (pe_def DTk hr1 rfl (pa_cons (pv 0) (pa_cons pe_int pa_nil))))) pss_nil) (pss_one (ps_ret (pe_ix (r := rIxL K) ix_list (pe_lst (pa_cons pe_int (pa_cons pe_int (pa_cons pe_int (pa_cons pe_int (pa_cons pe_int (pa_cons pe_int (pa_cons pe_int (pa_cons pe_int pa_nil))))))))) (pe_def DTk hr1 rfl (pa_cons (pv 0) (pa_cons pe_int pa_nil))) (fun _ _ => rfl)))), ?_⟩
    refine ⟨_, rfl, p, 12, rfl, hb, by decide, by decide, fun d H1 k1 b1 h0 h1 => ?_⟩
    refine ⟨rfl, _, rfl, ?_⟩
    by_cases hd : d = 0
    · rw [decide_eq_true (show V.int d = V.int 0 by rw [hd])]
      refine iteT ?_
      refine ⟨_, rfl, p, 10, rfl, b1, by decide, by decide, fun d2 H2 k2 b2 h20 h21 => ?_⟩
      obtain ⟨n, rfl⟩ := Int.eq_ofNat_of_zero_le h20
      exact k n H2 (k1.trans k2) b2 (by omega)
    · rw [decide_eq_false (show ¬ V.int d = V.int 0 from fun z => hd (V.int.inj z))]
      refine iteF ?_
      refine ⟨by show 8 ≤ sizeLine; decide, fun L nL => ?_⟩
      have hLp : L ≠ p := fun z => by
        obtain ⟨bx, hbx⟩ := b1.some
        rw [z, hbx] at nL
        cases nL
      have sL := Same.new nL (o := .lst [V.int 0, V.int 0, V.int 0, V.int 1, V.int 1, V.int 2, V.int 2, V.int 3])
      refine ⟨_, rfl, p, 8, rfl, b1.same sL, by decide, by decide, fun d2 H2 k2 b2 h20 h21 => ?_⟩
      obtain ⟨a, ha, ha10⟩ := name_at d2 h20 h21
      exact ⟨L, _, _, _, rfl, rfl, SqL.of (k2 _ _ hLp upd_same), ha, k a H2 ((k1.trans (KB.of sL)).trans k2) b2 ha10⟩
theorem scDe : FnScope ["_law_bag_here", "_law_left", "_law_deep", "_law_way", "_law_a", "_law_b", "_law_c", "_law_kind", "_law_inner"] ["_law_bag_here", "_law_left", "_law_deep"] (defScope sDeed) := ⟨rfl, rfl, rfl, by decide +kernel, rfl, by decide +kernel, by decide +kernel⟩
theorem ok_deed {f fs : Addr} {fd fds : FuncData} {m : Nat} (F : Fun K "_law_deed" "_law_deed" sDeed f fd) (B : Blt mg) (DTk : Def P w K mg base "_law_take" 1 ["_law_bag_here", "_law_many"] spTake) (DNm : Def P w K mg base "_law_name" 2 ["_law_bag_here"] spName) (DTh : Def P w K mg base "_law_thing" 4 ["_law_bag_here", "_law_many"] (spThing C))
    (Gs : FnOk P w K mg base CX0 (2 * m + 4) fs fds ["_law_bag_here", "_law_left", "_law_deep"] (spDeeds K C m)) (mgs : mg "_law_deeds" = some (.ref fs)) (ks : PySem.W.keepIn K (.ref fs) = true) (bs : Binds K fds ["_law_bag_here", "_law_left", "_law_deep"] []) : FnOk P w K mg base CX0 (2 * m + 5) f fd ["_law_bag_here", "_law_left", "_law_deep"] (spDeed K C m) := by
  refine F.ok scDe (fun vs H Q E h => ?_) (fun cdv A outer s H vs Q E hr h => ?_)
  · obtain ⟨p, f, dp, l, rfl, _⟩ := h
    rfl
  · obtain ⟨p, f, dp, l, rfl, hb, hl, hpf, hdm, hll, k⟩ := h
    have hr1 : Room 1 _ := hr.mono (by omega)
    have hr2 : Room 2 _ := hr.mono (by omega)
    have hr4 : Room 4 _ := hr.mono (by omega)
    refine ⟨_, pss_cons (ps_set (i := 3) scDe.nd rfl (Or.inl rfl) (pe_def DTk hr1 rfl (pa_cons (pv 0) (pa_cons pe_int pa_nil)))) (pss_cons (ps_par3 (i := 4) (j := 5) (l := 6) (by rfl) scDe.nd rfl rfl rfl (by decide) (by decide) (by decide) rfl rfl rfl (pa_cons (pe_def DNm hr2 rfl (pa_cons (pv 0) pa_nil)) (pa_cons (pe_def DNm hr2 rfl (pa_cons (pv 0) pa_nil)) (pa_cons (pe_def DNm hr2 rfl (pa_cons (pv 0) pa_nil)) pa_nil))) (by rfl)) (pss_cons (ps_if (pt_cmpR op_lt (pv 3) pe_int (nomark _)) (pss_one (ps_ret (pe_tup (pa_cons pe_str (pa_cons (pv 4) (pa_cons (pe_def DTh hr4 rfl (pa_cons (pv 0) (pa_cons (pe_def DTk hr1 rfl (pa_cons (pv 0) (pa_cons pe_int pa_nil))) pa_nil))) pa_nil)))))) pss_nil) (pss_cons (ps_if (PW.pt (pw_or (pt_cmpR op_lt (pv 3) pe_int (nomark _)) (pw_or1 (pt_cmpR op_gt (pv 2) pe_int (nomark _))))) (pss_cons (ps_set (i := 7) scDe.nd rfl (Or.inl rfl) (pe_ix (r := rIxL K) ix_list (pe_lst (pa_cons pe_str (pa_cons pe_str (pa_cons pe_str (pa_cons pe_str (pa_cons pe_str (pa_cons pe_str pa_nil))))))) (pe_op op_mod (pv 3) pe_int) (fun _ _ => rfl))) (pss_one (ps_ret (pe_slice sl_tupA (pe_tup (pa_cons (pv 7) (pa_cons (pv 4) (pa_cons (pv 5) (pa_cons (pv 6) pa_nil))))) po_none (po_some (pe_op op_add pe_int (pe_callTy call_int1 (by rfl) B.int PyProof.Rows.boot_int (pa_cons (pe_cmpR op_in_seq (pv 7) (pe_tup (pa_cons pe_str (pa_cons pe_str pa_nil))) rfl) pa_nil)))))))) pss_nil) (pss_cons (ps_set (i := 8) scDe.nd rfl (Or.inl rfl) (pe_call Gs hr rfl mgs ks bs .nil pass0 (pa_cons (pv 0) (pa_cons (pv 1) (pa_cons (pe_op op_add (pv 2) pe_int) pa_nil))))) (pss_cons (ps_if (pt_cmpR op_lt (pv 3) pe_int (nomark _)) (pss_cons (ps_if (pt_cmpR op_gt (pe_def DTk hr1 rfl (pa_cons (pv 0) (pa_cons pe_int pa_nil))) pe_int (nomark _)) (pss_one (ps_set (i := 8) scDe.nd rfl (Or.inl rfl) (pe_op op_catA (pv 8) (pe_tup (pa_cons (pe_tup (pa_cons pe_str (pa_cons (pv 4) (pa_cons (pv 4) pa_nil)))) pa_nil))))) pss_nil) (pss_one (ps_ret (pe_tup (pa_cons pe_str (pa_cons (pv 4) (pa_cons (pv 8) pa_nil))))))) pss_nil) (pss_one (ps_ret (pe_tup (pa_cons pe_str (pa_cons (pv 4) (pa_cons (pv 8) (pa_cons (pe_call Gs hr rfl mgs ks bs .nil pass0 (pa_cons (pv 0) (pa_cons (pv 1) (pa_cons (pe_op op_add (pv 2) pe_int) pa_nil)))) pa_nil)))))))))))), ?_⟩
    have hsl := line4
    refine ⟨_, rfl, p, 12, rfl, hb, by decide, by decide, fun wy H1 k1 b1 h0 h1 => ?_⟩
    refine ⟨_, rfl, p, rfl, b1, fun a H2 k2 b2 ha => ?_⟩
    refine ⟨_, rfl, p, rfl, b2, fun bb H3 k3 b3 hbb => ?_⟩
    refine ⟨_, rfl, p, rfl, b3, fun c H4 k4 b4 hc => ?_⟩
    refine ⟨_, _, _, rfl, ?_⟩
    have kb4 : KB p H H4 := ((k1.trans k2).trans k3).trans k4
    have l4 : Lf H4 f l := kb4 _ _ (Ne.symm hpf) hl
    refine ⟨_, rfl, _, _, rfl, rfl, _, rfl, ?_⟩
    by_cases w2 : wy < 2
    · rw [decide_eq_true w2]
      refine iteT ?_
      refine ⟨_, rfl, _, rfl, _, rfl, p, 4, rfl, b4, by decide, by decide, fun tz H5 k5 b5 t0 t1 => ?_⟩
      obtain ⟨n, rfl⟩ := Int.eq_ofNat_of_zero_le t0
      refine ⟨p, n, rfl, b5, by omega, fun x t H6 k6 b6 hx hxs => ?_⟩
      refine ⟨by show 3 ≤ sizeLine; decide, fun T nT => ?_⟩
      have sT := Same.new nT (o := .tup [.str "told", .int (a : Nat), .ref x])
      have kb6 : KB p H4 H6 := k5.trans k6
      refine k (.ref T) (.told a t) l _ ((KC.kb (kb4.trans kb6)).trans (KC.of sT)) (b6.same sT) (sT _ _ (kb6 _ _ (Ne.symm hpf) l4)) (Nat.le_refl _) ⟨T, x, rfl, SqT.of upd_same, ha, hx.same sT, by omega⟩ (Nat.zero_le _) (by rw [many_told]; omega) (by show t.size ≤ 3; omega) (by rw [cz_told]; omega)
    · rw [decide_eq_false w2]
      refine iteF ?_
      refine ⟨_, rfl, _, _, rfl, rfl, _, rfl, ?_⟩
      by_cases w8 : wy < 8
      · rw [decide_eq_true w8]
        refine iteT (iteT ?_)
        obtain ⟨kk, hkk, hk2⟩ := kind_at (wy % 6) (by omega) (by omega)
        refine ⟨by show 6 ≤ sizeLine; decide, fun L nL => ?_⟩
        have sL := Same.new nL (o := .lst [V.str "first", V.str "second", V.str "second", V.str "pair", V.str "pair", V.str "same"])
        refine ⟨_, rfl, _, _, rfl, rfl, (show (0 : Int) < 6 by decide), L, _, _, _, rfl, rfl, SqL.of upd_same, hkk, ?_⟩
        revert sL
        generalize upd H4 L (.lst [V.str "first", V.str "second", V.str "second", V.str "pair", V.str "pair", V.str "same"]) = H5
        intro sL
        refine ⟨_, rfl, _, rfl, _, rfl, _, rfl, by show 4 ≤ sizeLine; decide, fun T nT => ?_⟩
        have sT := Same.new nT (o := .tup [.str kk, .int (a : Nat), .int (bb : Nat), .int (c : Nat)])
        have hT : (upd H5 T (.tup [.str kk, .int (a : Nat), .int (bb : Nat), .int (c : Nat)])) T = some (.tup [.str kk, .int (a : Nat), .int (bb : Nat), .int (c : Nat)]) := upd_same
        revert sT hT
        generalize upd H5 T (.tup [.str kk, .int (a : Nat), .int (bb : Nat), .int (c : Nat)]) = H6
        intro sT hT
        refine ⟨_, rfl, by show 2 ≤ sizeLine; decide, fun U nU => ?_⟩
        have sU := Same.new nU (o := .tup [V.str "pair", V.str "same"])
        refine ⟨U, _, rfl, .inr (SqT.of upd_same), rfl, rfl, .inr ⟨_, rfl, _, _, rfl, rfl, _, rfl, T, _, rfl, SqT.of (sU _ _ hT), ?_⟩⟩
        have s47 := (sL.trans sT).trans sU
        have kc7 : KC p f H (upd H6 U (.tup [V.str "pair", V.str "same"])) := (KC.kb kb4).trans (KC.of s47)
        have l7 := s47 _ _ l4
        have b7 := b4.same s47
        rcases hk2 with ⟨s, rfl⟩ | ⟨s, rfl⟩
        · rw [show (if false = true then !inV (.str (takeS s)) [V.str "pair", V.str "same"] else inV (.str (takeS s)) [V.str "pair", V.str "same"]) = false from in_take s]
          refine ⟨fun ⟨_, h2⟩ => absurd h2 (show ¬ ((3 : Nat) = 4) by decide), fun _ z nz => ?_⟩
          have sz := Same.new nz (o := .tup [.str (takeS s), .int (a : Nat), .int (bb : Nat)])
          exact k (.ref z) (.take s a bb) l _ (kc7.trans (KC.of sz)) (b7.same sz) (sz _ _ l7) (Nat.le_refl _) ⟨z, rfl, SqT.of upd_same, ha, hbb⟩ (Nat.zero_le _) (by rw [many_take]; omega) trivial (by rw [cz_take]; split <;> omega)
        · rw [show (if false = true then !inV (.str (twoS s)) [V.str "pair", V.str "same"] else inV (.str (twoS s)) [V.str "pair", V.str "same"]) = true from in_two s]
          refine ⟨fun _ => ?_, fun hn => absurd ⟨rfl, rfl⟩ hn⟩
          exact k (.ref T) (.two s a bb c) l _ kc7 b7 l7 (Nat.le_refl _) ⟨T, rfl, SqT.of (sU _ _ hT), ha, hbb, hc⟩ (Nat.zero_le _) (by rw [many_two]; omega) trivial (by rw [cz_two]; split <;> omega)
      · rw [decide_eq_false w8]
        refine iteF ?_
        refine ⟨_, rfl, _, _, rfl, rfl, _, rfl, ?_⟩
        by_cases w4 : 4 < dp
        · rw [decide_eq_true (show (4 : Int) < ((dp : Nat) : Int) by omega)]
          refine iteT ?_
          obtain ⟨kk, hkk, hk2⟩ := kind_at (wy % 6) (by omega) (by omega)
          refine ⟨by show 6 ≤ sizeLine; decide, fun L nL => ?_⟩
          have sL := Same.new nL (o := .lst [V.str "first", V.str "second", V.str "second", V.str "pair", V.str "pair", V.str "same"])
          refine ⟨_, rfl, _, _, rfl, rfl, (show (0 : Int) < 6 by decide), L, _, _, _, rfl, rfl, SqL.of upd_same, hkk, ?_⟩
          revert sL
          generalize upd H4 L (.lst [V.str "first", V.str "second", V.str "second", V.str "pair", V.str "pair", V.str "same"]) = H5
          intro sL
          refine ⟨_, rfl, _, rfl, _, rfl, _, rfl, by show 4 ≤ sizeLine; decide, fun T nT => ?_⟩
          have sT := Same.new nT (o := .tup [.str kk, .int (a : Nat), .int (bb : Nat), .int (c : Nat)])
          have hT : (upd H5 T (.tup [.str kk, .int (a : Nat), .int (bb : Nat), .int (c : Nat)])) T = some (.tup [.str kk, .int (a : Nat), .int (bb : Nat), .int (c : Nat)]) := upd_same
          revert sT hT
          generalize upd H5 T (.tup [.str kk, .int (a : Nat), .int (bb : Nat), .int (c : Nat)]) = H6
          intro sT hT
          refine ⟨_, rfl, by show 2 ≤ sizeLine; decide, fun U nU => ?_⟩
          have sU := Same.new nU (o := .tup [V.str "pair", V.str "same"])
          refine ⟨U, _, rfl, .inr (SqT.of upd_same), rfl, rfl, .inr ⟨_, rfl, _, _, rfl, rfl, _, rfl, T, _, rfl, SqT.of (sU _ _ hT), ?_⟩⟩
          have s47 := (sL.trans sT).trans sU
          have kc7 : KC p f H (upd H6 U (.tup [V.str "pair", V.str "same"])) := (KC.kb kb4).trans (KC.of s47)
          have l7 := s47 _ _ l4
          have b7 := b4.same s47
          rcases hk2 with ⟨s, rfl⟩ | ⟨s, rfl⟩
          · rw [show (if false = true then !inV (.str (takeS s)) [V.str "pair", V.str "same"] else inV (.str (takeS s)) [V.str "pair", V.str "same"]) = false from in_take s]
            refine ⟨fun ⟨_, h2⟩ => absurd h2 (show ¬ ((3 : Nat) = 4) by decide), fun _ z nz => ?_⟩
            have sz := Same.new nz (o := .tup [.str (takeS s), .int (a : Nat), .int (bb : Nat)])
            exact k (.ref z) (.take s a bb) l _ (kc7.trans (KC.of sz)) (b7.same sz) (sz _ _ l7) (Nat.le_refl _) ⟨z, rfl, SqT.of upd_same, ha, hbb⟩ (Nat.zero_le _) (by rw [many_take]; omega) trivial (by rw [cz_take]; split <;> omega)
          · rw [show (if false = true then !inV (.str (twoS s)) [V.str "pair", V.str "same"] else inV (.str (twoS s)) [V.str "pair", V.str "same"]) = true from in_two s]
            refine ⟨fun _ => ?_, fun hn => absurd ⟨rfl, rfl⟩ hn⟩
            exact k (.ref T) (.two s a bb c) l _ kc7 b7 l7 (Nat.le_refl _) ⟨T, rfl, SqT.of (sU _ _ hT), ha, hbb, hc⟩ (Nat.zero_le _) (by rw [many_two]; omega) trivial (by rw [cz_two]; split <;> omega)
        · rw [decide_eq_false (show ¬ (4 : Int) < ((dp : Nat) : Int) by omega)]
          refine iteF ?_
          refine ⟨_, rfl, _, rfl, _, rfl, _, _, rfl, rfl, p, f, dp + 1, l, rfl, b4, l4, hpf, by omega, by omega, hll, fun q r l1 H5 kc5 b5 lf5 hl5 hr5 hd5 hm5 hs5 hz5 => ?_⟩
          have kc45 : KC p f H H5 := (KC.kb kb4).trans kc5
          refine ⟨_, rfl, _, _, rfl, rfl, _, rfl, ?_⟩
          by_cases w10 : wy < 10
          · rw [decide_eq_true w10]
            refine iteT ?_
            refine ⟨_, rfl, p, 5, rfl, b5, by decide, by decide, fun d5 H6 k6 b6 d50 d51 => ?_⟩
            refine ⟨_, _, rfl, rfl, _, rfl, ?_⟩
            obtain ⟨bx, hbx⟩ := b5.some
            have hr6 : RAt K C H6 q r := hr5.kt (k6.kt hbx)
            have lf6 : Lf H6 f l1 := k6 _ _ (Ne.symm hpf) lf5
            have kc6 : KC p f H H6 := kc45.trans (KC.kb k6)
            by_cases h5 : 0 < d5
            · rw [decide_eq_true h5]
              refine iteT ?_
              obtain ⟨vs, hq, hvs⟩ := hr6
              refine ⟨_, rfl, _, rfl, _, rfl, by show 3 ≤ sizeLine; decide, fun T1 n1 => ?_⟩
              have s7 := Same.new n1 (o := .tup [V.str "second", .int (a : Nat), .int (a : Nat)])
              have hT1 : (upd H6 T1 (.tup [V.str "second", .int (a : Nat), .int (a : Nat)])) T1 = some (.tup [V.str "second", .int (a : Nat), .int (a : Nat)]) := upd_same
              revert s7 hT1
              generalize upd H6 T1 (.tup [V.str "second", .int (a : Nat), .int (a : Nat)]) = H7
              intro s7 hT1
              refine ⟨by show 1 ≤ sizeLine; decide, fun T2 n2 => ?_⟩
              have s8 := Same.new n2 (o := .tup [V.ref T1])
              have hT2 : (upd H7 T2 (.tup [V.ref T1])) T2 = some (.tup [V.ref T1]) := upd_same
              revert s8 hT2
              generalize upd H7 T2 (.tup [V.ref T1]) = H8
              intro s8 hT2
              have s68 := s7.trans s8
              have dsec : DAt K C H8 (.ref T1) (.take true a a) := ⟨T1, rfl, SqT.of (s8 _ _ hT1), ha, ha⟩
              have hvs8 := DsAt_kt (KT.of s68) r vs hvs
              have hq8 := sqt_kt (KT.of s68) hq
              have lr := len_many r
              have lv := DsAt.length r vs hvs
              have cont : ∀ (q2 : Addr) (H9 : Hp), Same H8 H9 → RAt K C H9 q2 (r ++ [.take true a a]) → (tRet (tTup (tCons (tC (.str "while")) (tCons (tVar 4) (tCons (tVar 8) tNil)))) { nx := fun _ H' => Q .non H', rt := Q } [some (.ref p), some (.ref f), some (.int (dp : Nat)), some (.int wy), some (.int (a : Nat)), some (.int (bb : Nat)), some (.int (c : Nat)), none, some (.ref q2)] H9) := by
                intro q2 H9 s9 hr9
                refine ⟨_, rfl, _, rfl, by show 3 ≤ sizeLine; decide, fun T3 n3 => ?_⟩
                have sT := Same.new n3 (o := .tup [V.str "while", .int (a : Nat), .ref q2])
                have s69 := (s68.trans s9).trans sT
                obtain ⟨vs9, h91, h92⟩ := hr9.same sT
                refine k (.ref T3) (.wh a (r ++ [.take true a a])) l1 _ (kc6.trans (KC.of s69)) (b6.same s69) (s69 _ _ lf6) hl5 ⟨T3, q2, vs9, rfl, SqT.of upd_same, ha, h91, h92⟩ ?_ ?_ (by exact smR_app r [.take true a a] hs5 ⟨trivial, trivial⟩) (by rw [cz_wh, cz_app, cz_one, cz_take, if_pos rfl]; omega)
                · rw [Dd.deep, deepR_app, deepR_one]
                  have : max (deepR r) (Dd.take true a a).deep = deepR r := Nat.max_eq_left (Nat.zero_le _)
                  omega
                · rw [many_wh, manyR_app, manyR_one, many_take]
                  omega
              refine ⟨q, T2, vs, _, rfl, rfl, hq8, SqT.of hT2, by simp only [List.length_cons, List.length_nil]; omega, fun e0 => ?_, fun _ e1 => (by cases e1), fun _ _ U nU => ?_⟩
              · subst e0
                have er : r = [] := List.length_eq_zero_iff.mp lv.symm
                refine cont T2 H8 (Same.refl H8) ?_
                rw [er]
                exact ⟨_, SqT.of hT2, _, _, rfl, dsec, rfl⟩
              · have sU := Same.new nU (o := .tup (vs ++ [V.ref T1]))
                exact cont U _ sU ⟨_, SqT.of upd_same, DsAt_snoc (DAt_kt (KT.of sU) _ _ dsec) r vs (DsAt_kt (KT.of sU) r vs hvs8)⟩
            · rw [decide_eq_false h5]
              refine iteF ?_
              refine ⟨_, rfl, _, rfl, by show 3 ≤ sizeLine; decide, fun T3 n3 => ?_⟩
              have sT := Same.new n3 (o := .tup [V.str "while", .int (a : Nat), .ref q])
              obtain ⟨vs9, h91, h92⟩ := hr6.same sT
              refine k (.ref T3) (.wh a r) l1 _ (kc6.trans (KC.of sT)) (b6.same sT) (sT _ _ lf6) hl5 ⟨T3, q, vs9, rfl, SqT.of upd_same, ha, h91, h92⟩ (by rw [Dd.deep]; omega) (by rw [many_wh]; omega) hs5 (by rw [cz_wh]; omega)
          · rw [decide_eq_false w10]
            refine iteF ?_
            refine ⟨_, rfl, _, rfl, _, rfl, _, rfl, _, rfl, _, _, rfl, rfl, p, f, dp + 1, l1, rfl, b5, lf5, hpf, by omega, by omega, by omega, fun q2 r2 l2 H6 kc6 b6 lf6 hl6 hr6 hd6 hm6 hs6 hz6 => ?_⟩
            refine ⟨by show 4 ≤ sizeLine; decide, fun T3 n3 => ?_⟩
            have sT := Same.new n3 (o := .tup [V.str "if", .int (a : Nat), .ref q, .ref q2])
            obtain ⟨bx, hbx⟩ := b5.some
            obtain ⟨vs9, h91, h92⟩ := (hr5.kt (kc6.kt hbx lf5)).same sT
            obtain ⟨vs8, h81, h82⟩ := hr6.same sT
            refine k (.ref T3) (.iff a r r2) l2 _ ((kc45.trans kc6).trans (KC.of sT)) (b6.same sT) (sT _ _ lf6) (Nat.le_trans hl6 hl5) ⟨T3, q, vs9, q2, vs8, rfl, SqT.of upd_same, ha, h91, h92, h81, h82⟩ ?_ ?_ ⟨hs5, hs6⟩ (by rw [cz_iff]; omega)
            · rw [Dd.deep]
              have : max (deepR r) (deepR r2) ≤ m - 1 := Nat.max_le.mpr ⟨by omega, by omega⟩
              omega
            · rw [many_iff]
              omega
theorem scDs : FnScope ["_law_bag_here", "_law_left", "_law_deep", "_law_found", "_law_turn"] ["_law_bag_here", "_law_left", "_law_deep"] (defScope sDeeds) := ⟨rfl, rfl, rfl, by decide +kernel, rfl, by decide +kernel, by decide +kernel⟩
theorem ok_deedsS {f fe : Addr} {fd fde : FuncData} {m : Nat} (F : Fun K "_law_deeds" "_law_deeds" sDeeds f fd) (B : Blt mg) (G : FrmC K w mg) (DTk : Def P w K mg base "_law_take" 1 ["_law_bag_here", "_law_many"] spTake)
    (Gd : FnOk P w K mg base CX0 (2 * m + 5) fe fde ["_law_bag_here", "_law_left", "_law_deep"] (spDeed K C m)) (mgd : mg "_law_deed" = some (.ref fe)) (kd : PySem.W.keepIn K (.ref fe) = true) (bd : Binds K fde ["_law_bag_here", "_law_left", "_law_deep"] []) : FnOk P w K mg base CX0 (2 * m + 6) f fd ["_law_bag_here", "_law_left", "_law_deep"] (spDeeds K C (m + 1)) := by
  refine F.ok scDs (fun vs H Q E h => ?_) (fun cdv A outer s H vs Q E hr h => ?_)
  · obtain ⟨p, f, dp, l, rfl, _⟩ := h
    rfl
  · obtain ⟨p, f, dp, l, rfl, hb, hl, hpf, hdm, _, hll, k⟩ := h
    have hr1 : Room 1 _ := hr.mono (by omega)
    refine ⟨_, pss_cons (ps_set (i := 3) scDs.nd rfl (Or.inl rfl) (pe_lst pa_nil)) (pss_cons (ps_for PassesOwn.never rfl (pi_range1 rfl B.range (pa_cons (pe_def DTk hr1 rfl (pa_cons (pv 0) (pa_cons pe_int pa_nil))) pa_nil)) (pg_name (i := 4) scDs.nd rfl (Or.inl rfl)) (pss_one (ps_if (pt_cmpR op_gt (pe_ix (r := rIxL K) ix_list (pv 1) pe_int (fun _ _ => rfl)) pe_int (nomark _)) (pss_cons (ps_asg (pe_op op_sub (pe_ix (r := rIxL K) ix_list (pv 1) pe_int (fun _ _ => rfl)) pe_int) (pg_sub (pv 1) pe_int set_list)) (pss_one (ps_expr (pe_bm PySem.F.plainAttrs_list PySem.F.slot_list_append PySem.F.type_list_append mt_append (pv 3) (pa_cons (pe_call Gd hr rfl mgd kd bd .nil pass0 (pa_cons (pv 0) (pa_cons (pv 1) (pa_cons (pv 2) pa_nil)))) pa_nil))))) pss_nil))) (pss_one (ps_ret (pe_callTy call_tuple_of (by rfl) G.mt PyProof.Rows.boot_tuple (pa_cons (pv 3) pa_nil))))), ?_⟩
    have hsl := line4
    refine ⟨Nat.zero_le _, fun fl nfl => ?_⟩
    have s1 : Same H (upd H fl (.lst [])) := Same.new nfl
    have hfl1 : (upd H fl (.lst [])) fl = some (.lst []) := upd_same
    have hflp : fl ≠ p := fun z => by
      obtain ⟨bx, hbx⟩ := hb.some
      rw [z, hbx] at nfl
      cases nfl
    have hflf : fl ≠ f := fun z => by
      rw [z] at nfl
      have := nfl.symm.trans hl
      cases this
    revert s1 hfl1
    generalize upd H fl (.lst []) = H1
    intro s1 hfl1
    refine ⟨_, rfl, p, 6, rfl, hb.same s1, by decide, by decide, fun n6 H2 k2 b2 n0 n1 => ?_⟩
    have kc2 : KC p f H H2 := (KC.of s1).trans (KC.kb k2)
    refine ⟨n6, rfl, by omega, by omega, for_range (n := n6.toNat) (fun i σ H' => ∃ (x4 : Option V) (us : List V) (r : List Dd) (l' : Nat), σ = [some (.ref p), some (.ref f), some (.int (dp : Nat)), some (.ref fl), x4] ∧ KC p f H H' ∧ BagOk H' p ∧ Lf H' f l' ∧ l' ≤ l ∧ H' fl = some (.lst us) ∧ DsAt K C H' us r ∧ deepR r ≤ m ∧ manyR r ≤ 2 * (l - l') ∧ r.length ≤ i ∧ smR r ∧ (codeR r).size ≤ 42 * (l - l'))
      ⟨none, [], [], l, rfl, kc2, b2, k2 _ _ (Ne.symm hpf) (s1 _ _ hl), Nat.le_refl _, k2 _ _ hflp hfl1, rfl, Nat.zero_le _, by rw [many_nil]; omega, Nat.le_refl _, trivial, Nat.zero_le _⟩ ?_ ?_⟩
    · rintro i σ H3 hi ⟨x4, us, r, l1, rfl, kc3, b3, lf3, hl3, hfl3, hus, hdr, hmr, hri, hsm, hcz⟩
      refine ⟨_, rfl, f, _, _, _, rfl, rfl, SqL.of lf3, at0 _ _, _, _, rfl, rfl, _, rfl, ?_⟩
      by_cases h1 : 0 < l1
      · rw [decide_eq_true (show (0 : Int) < ((l1 : Nat) : Int) by omega)]
        refine iteT ?_
        refine ⟨_, rfl, f, _, _, _, rfl, rfl, SqL.of lf3, at0 _ _, _, _, rfl, rfl, _, rfl, f, _, _, 0, rfl, rfl, lf3, rfl, ?_⟩
        have e4 : [V.int ((l1 : Nat) : Int)].set 0 (V.int (((l1 : Nat) : Int) - 1)) = [V.int (((l1 - 1 : Nat)) : Int)] := by
          rw [show (((l1 - 1 : Nat)) : Int) = ((l1 : Nat) : Int) - 1 by omega]
          rfl
        rw [e4]
        have lf4 : Lf (upd H3 f (.lst [V.int (((l1 - 1 : Nat)) : Int)])) f (l1 - 1) := upd_same
        have kc4 : KC p f H3 (upd H3 f (.lst [V.int (((l1 - 1 : Nat)) : Int)])) := KC.set
        obtain ⟨bx, hbx⟩ := b3.some
        have kt4 : KT H3 (upd H3 f (.lst [V.int (((l1 - 1 : Nat)) : Int)])) := kc4.kt hbx lf3
        have b4 : BagOk (upd H3 f (.lst [V.int (((l1 - 1 : Nat)) : Int)])) p := by
          obtain ⟨x0, x1', pr, x3', hx, rest⟩ := b3.ex
          exact ⟨⟨x0, x1', pr, x3', by rw [upd_ne hpf]; exact hx, rest⟩⟩
        have hfl4 : (upd H3 f (.lst [V.int (((l1 - 1 : Nat)) : Int)])) fl = some (.lst us) := by rw [upd_ne hflf]; exact hfl3
        revert lf4 kc4 kt4 b4 hfl4
        generalize upd H3 f (.lst [V.int (((l1 - 1 : Nat)) : Int)]) = H4
        intro lf4 kc4 kt4 b4 hfl4
        refine ⟨_, rfl, .inl ⟨rfl, _, SqL.of hfl4⟩, _, rfl, _, rfl, _, rfl, p, f, dp, l1 - 1, rfl, b4, lf4, hpf, by omega, by omega, fun v d l2 H5 kc5 b5 lf5 hl5 hdv hdd hdm2 hds hdz => ?_⟩
        have hfl5 := kc5 _ _ hflp hflf hfl4
        have lus := DsAt.length r us hus
        refine ⟨fl, _, _, rfl, rfl, hfl5, by omega, ?_⟩
        obtain ⟨by_, hby⟩ := b4.some
        have kt5 : KT H4 H5 := kc5.kt hby lf4
        have kt6 : KT H5 (upd H5 fl (.lst (us ++ [v]))) := KT.lst hfl5
        refine ⟨_, us ++ [v], r ++ [d], l2, rfl, fun a o na nf ha => ?_, ?_, ?_, by omega, upd_same, DsAt_snoc (DAt_kt kt6 d v hdv) r us (DsAt_kt kt6 r us (DsAt_kt kt5 r us (DsAt_kt kt4 r us hus))), ?_, ?_, (by rw [List.length_append]; simp only [List.length_cons, List.length_nil]; omega), smR_app r [d] hsm ⟨hds, trivial⟩, (by rw [cz_app, cz_one]; omega)⟩
        · rw [upd_ne (ne_of_none ha nfl)]
          exact kc5 _ _ na nf (kc4 _ _ na nf (kc3 _ _ na nf ha))
        · obtain ⟨x0, x1', pr, x3', hx, rest⟩ := b5.ex
          exact ⟨⟨x0, x1', pr, x3', by rw [upd_ne (Ne.symm hflp)]; exact hx, rest⟩⟩
        · show (upd H5 fl (.lst (us ++ [v]))) f = _
          rw [upd_ne (Ne.symm hflf)]
          exact lf5
        · rw [deepR_app, deepR_one]
          exact Nat.max_le.mpr ⟨hdr, hdd⟩
        · rw [manyR_app, manyR_one]
          omega
      · rw [decide_eq_false (show ¬ (0 : Int) < ((l1 : Nat) : Int) by omega)]
        refine iteF ?_
        exact ⟨_, us, r, l1, rfl, kc3, b3, lf3, hl3, hfl3, hus, hdr, hmr, by omega, hsm, hcz⟩
    · rintro σ H3 ⟨x4, us, r, l1, rfl, kc3, b3, lf3, hl3, hfl3, hus, hdr, hmr, hri, hsm, hcz⟩
      refine ⟨_, rfl, fl, _, rfl, .inl ⟨SqL.of hfl3, fun q nq => ?_⟩⟩
      have sq := Same.new nq (o := .tup us)
      exact k q r l1 _ (kc3.trans (KC.of sq)) (b3.same sq) (sq _ _ lf3) hl3 ⟨us, SqT.of upd_same, DsAt_kt (KT.of sq) r us hus⟩ (by omega) hmr hsm hcz
theorem ok_deeds0 {f : Addr} {fd : FuncData} (F : Fun K "_law_deeds" "_law_deeds" sDeeds f fd) : FnOk P w K mg base CX0 4 f fd ["_law_bag_here", "_law_left", "_law_deep"] (spDeeds K C 0) := by
  refine F.ok scDs (fun vs H Q E h => ?_) (fun cdv A outer s H vs Q E hr h => ?_)
  · obtain ⟨p, f, dp, l, rfl, _⟩ := h
    rfl
  · obtain ⟨p, f, dp, l, _, _, _, _, _, h, _⟩ := h
    exact absurd h (Nat.not_succ_le_zero _)
theorem ok_deeds {f fe : Addr} {fd fde : FuncData} (F : Fun K "_law_deeds" "_law_deeds" sDeeds f fd) (Fe : Fun K "_law_deed" "_law_deed" sDeed fe fde) (B : Blt mg) (G : FrmC K w mg) (DTk : Def P w K mg base "_law_take" 1 ["_law_bag_here", "_law_many"] spTake) (DNm : Def P w K mg base "_law_name" 2 ["_law_bag_here"] spName) (DTh : Def P w K mg base "_law_thing" 4 ["_law_bag_here", "_law_many"] (spThing C))
    (mgf : mg "_law_deeds" = some (.ref f)) (bf : Binds K fd ["_law_bag_here", "_law_left", "_law_deep"] []) (mge : mg "_law_deed" = some (.ref fe)) (be : Binds K fde ["_law_bag_here", "_law_left", "_law_deep"] []) : ∀ m, FnOk P w K mg base CX0 (2 * m + 4) f fd ["_law_bag_here", "_law_left", "_law_deep"] (spDeeds K C m)
  | 0 => ok_deeds0 F
  | m + 1 => ok_deedsS F B G DTk (ok_deed Fe B DTk DNm DTh (ok_deeds F Fe B G DTk DNm DTh mgf bf mge be m) mgf F.kp bf) mge Fe.kp be
def spTop (K : PySem.W.Frag) (C : Addr) : Sp := fun vs H Q _ => ∃ (p : Addr) (n : Nat), vs = [.ref p, .int (n : Nat)] ∧ BagOk H p ∧ n ≤ 1000 ∧ ∀ q r H', KB p H H' → BagOk H' p → RAt K C H' q r → deepR r ≤ 4 → manyR r ≤ 2 * n → smR r → (codeR r).size ≤ 42 * n → Q (.ref q) H'
theorem scTo : FnScope ["_law_bag_here", "_law_many", "_law_left"] ["_law_bag_here", "_law_many"] (defScope sTop) := ⟨rfl, rfl, rfl, by decide +kernel, rfl, by decide +kernel, by decide +kernel⟩
theorem ok_top {f : Addr} {fd : FuncData} (F : Fun K "_law_top" "_law_top" sTop f fd) (DDs : Def P w K mg base "_law_deeds" 14 ["_law_bag_here", "_law_left", "_law_deep"] (spDeeds K C 5)) : FnOk P w K mg base CX0 15 f fd ["_law_bag_here", "_law_many"] (spTop K C) := by
  refine F.ok scTo (fun vs H Q E h => ?_) (fun cdv A outer s H vs Q E hr h => ?_)
  · obtain ⟨p, n, rfl, _⟩ := h
    rfl
  · obtain ⟨p, n, rfl, hb, hn, k⟩ := h
    refine ⟨_, pss_cons (ps_set (i := 2) scTo.nd rfl (Or.inl rfl) (pe_lst (pa_cons (pv 1) pa_nil))) (pss_one (ps_ret (pe_op op_catA (pe_def (k := 14) DDs hr rfl (pa_cons (pv 0) (pa_cons (pv 2) (pa_cons pe_int pa_nil)))) (pe_def (k := 14) DDs hr rfl (pa_cons (pv 0) (pa_cons (pv 2) (pa_cons pe_int pa_nil))))))), ?_⟩
    have hsl := line4
    refine ⟨_, rfl, by show 1 ≤ sizeLine; decide, fun f nf => ?_⟩
    have hpf : p ≠ f := fun z => by
      obtain ⟨bx, hbx⟩ := hb.some
      rw [← z, hbx] at nf
      cases nf
    have s1 : Same H (upd H f (.lst [.int (n : Nat)])) := Same.new nf
    have l1 : Lf (upd H f (.lst [.int (n : Nat)])) f n := upd_same
    revert s1 l1
    generalize upd H f (.lst [.int (n : Nat)]) = H1
    intro s1 l1
    refine ⟨_, rfl, _, rfl, p, f, 1, n, rfl, hb.same s1, l1, hpf, rfl, by decide, hn, fun q r m1 H2 kc2 b2 l2 hl2 hr2 hd2 hm2 hs2 hz2 => ?_⟩
    refine ⟨_, rfl, _, rfl, p, f, 1, m1, rfl, b2, l2, hpf, rfl, by decide, by omega, fun q2 r2 m2 H3 kc3 b3 l3 hl3 hr3 hd3 hm3 hs3 hz3 => ?_⟩
    obtain ⟨bx, hbx⟩ := b2.some
    obtain ⟨vs, h1, h2⟩ := hr2.kt (kc3.kt hbx l2)
    obtain ⟨us, g1, g2⟩ := hr3
    have kb3 : KB p H H3 := fun a o na ha => kc3 _ _ na (ne_of_none ha nf) (kc2 _ _ na (ne_of_none ha nf) (s1 _ _ ha))
    have lv := DsAt.length r vs h2
    have lu := DsAt.length r2 us g2
    have lr := len_many r
    have lr2 := len_many r2
    have hdd : deepR (r ++ r2) ≤ 4 := by
      rw [deepR_app]
      exact Nat.max_le.mpr ⟨by omega, by omega⟩
    have hmm : manyR (r ++ r2) ≤ 2 * n := by
      rw [manyR_app]
      omega
    refine ⟨q, q2, vs, us, rfl, rfl, h1, g1, by omega, fun e0 => ?_, fun _ e1 => ?_, fun _ _ U nU => ?_⟩
    · subst e0
      have er : r = [] := List.length_eq_zero_iff.mp lv.symm
      subst er
      exact k q2 r2 H3 kb3 b3 ⟨us, g1, g2⟩ (by simpa using hdd) (by simpa using hmm) hs3 (by omega)
    · subst e1
      have er : r2 = [] := List.length_eq_zero_iff.mp lu.symm
      subst er
      exact k q r H3 kb3 b3 ⟨vs, h1, h2⟩ (by simpa using hdd) (by simpa using hmm) hs2 (by omega)
    · have sU := Same.new nU (o := .tup (vs ++ us))
      exact k U (r ++ r2) _ (kb3.trans (KB.of sU)) (b3.same sU) ⟨_, SqT.of upd_same, DsAt_app r r2 vs us (DsAt_kt (KT.of sU) r vs h2) (DsAt_kt (KT.of sU) r2 us g2)⟩ hdd hmm (smR_app r r2 hs2 hs3) (by rw [cz_app]; omega)
end
end Js
set_option Elab.async false
set_option linter.all false
set_option maxRecDepth 100000
set_option maxHeartbeats 2000000
namespace Js
open PySem L2
open PySem.Spec PyProof.Rows
section
variable {X : Cx} {e : Expr} {te : TE} {k : Nat} {p1 p2 p3 pos : Pos}
def rCatS (K : PySem.W.Frag) : R2 := fun x y H Q => ∃ a b xs ys, x = .ref a ∧ y = .ref b ∧ SqT K H a xs ∧ SqT K H b ys ∧ xs.length + ys.length ≤ 100000 ∧ ∀ q H', Same H H' → SqT K H' q (xs ++ ys) → Q (.ref q) H'
theorem op_catS : OpR X (binaryOp .Add) (rCatS X.K) :=
  OpR.imp op_catA fun x y H Q h => by
    obtain ⟨a, b, xs, ys, rfl, rfl, h1, h2, hl, k⟩ := h
    have hsl := line4
    refine ⟨a, b, xs, ys, rfl, rfl, h1, h2, by omega, fun e0 => ?_, fun _ e1 => ?_, fun _ _ U nU => ?_⟩
    · subst e0
      exact k b H (Same.refl H) h2
    · subst e1
      exact k a H (Same.refl H) (by rw [List.append_nil]; exact h1)
    · exact k U _ (Same.new nU) (SqT.of upd_same)
end
end Js
set_option Elab.async false
set_option linter.all false
set_option maxRecDepth 100000
set_option maxHeartbeats 2000000
namespace Js
open PySem L2
open PySem PySem.Spec PyProof.Rows L2
abbrev sLaw : Stmt := top 73
def spLaw (K : PySem.W.Frag) : Sp := fun vs H Q _ => ∃ (a : Addr) (ns : List Int), vs = [.ref a] ∧ SqL K H a (ns.map V.int) ∧ ns.length ≤ 63 ∧ ∀ H', Q (.bl true) H'
theorem len_many17 : ∀ r : List Dd, r.length ≤ manyR r
  | [] => Nat.zero_le _
  | d :: r => by
    have := len_many17 r
    have := many_pos d
    rw [List.length_cons, many_cons]
    omega
theorem same_kb {H0 H H' : Hp} {p : Addr} (s : Same H0 H) (k : KB p H H') (hp : H0 p = none) : Same H0 H' := fun b o h => k _ _ (ne_of_none h hp) (s _ _ h)
section
variable {P : Program} {w : World} {K : PySem.W.Frag} {mg : Str → Option Value} {base : Heap} {C fI fTf fTl : Addr} {fdI fdTf fdTl : FuncData}
theorem scL : FnScope ["_law_script", "_law_k", "_law_bag_here", "_law_turn", "_law_deeds_here", "_law_deep", "_law_floor", "_law_text", "_law_once", "_law_some", "_law_far", "_law_one"] ["_law_script"] (defScope sLaw) := ⟨rfl, rfl, rfl, by decide +kernel, rfl, by decide +kernel, by decide +kernel⟩
theorem ok_law {f : Addr} {fd : FuncData} (F : Fun K "law" "law" sLaw f fd) (B : Blt mg) (SS : Spc P w K mg base C "__str__" 2 ["self"] (spStr C)) (DB : Def P w K mg base "_law_bag" 1 ["_law_script", "_law_at"] (spBag K)) (DTk : Def P w K mg base "_law_take" 1 ["_law_bag_here", "_law_many"] spTake) (DTh : Def P w K mg base "_law_thing" 4 ["_law_bag_here", "_law_many"] (spThing C)) (DTo : Def P w K mg base "_law_top" 15 ["_law_bag_here", "_law_many"] (spTop K C)) (DLc : Def P w K mg base "_law_code" 21 ["_law_deeds_here"] (spLc16 K C 16)) (DBe : Def P w K mg base "_law_bent" 3 ["_law_bag_here", "_law_text"] spBe17) (DGd : Def P w K mg base "_law_good" 36 ["_law_text"] spGood17) (GTf : FnOk P w K mg base CX0 3 fTf fdTf [] spTf17) (mgTf : mg "_law_two_faults" = some (.ref fTf)) (kTf : PySem.W.keepIn K (.ref fTf) = true) (bTf : Binds K fdTf [] []) (GTl : FnOk P w K mg base CX0 3 fTl fdTl [] spTl17) (mgTl : mg "_law_tall" = some (.ref fTl)) (kTl : PySem.W.keepIn K (.ref fTl) = true) (bTl : Binds K fdTl [] []) : FnOk P w K mg base CX0 37 f fd ["_law_script"] (spLaw K) := by
  refine F.ok scL (fun vs H Q E h => ?_) (fun cdv A outer s H vs Q E hr h => ?_)
  · obtain ⟨a, ns, rfl, _⟩ := h
    rfl
  · obtain ⟨a, ns, rfl, hS, hlen, k⟩ := h
    have hr1 : Room 1 _ := hr.mono (by decide)
    have hr3 : Room 3 _ := hr.mono (by decide)
    have hr4 : Room 4 _ := hr.mono (by decide)
    have hr15 : Room 15 _ := hr.mono (by decide)
    have hr21 : Room 21 _ := hr.mono (by decide)
    have hr36 : Room 36 _ := hr
    refine ⟨_, pss_cons (ps_for PassesOwn.never rfl (pi_range1 rfl B.range (pa_cons (pe_callB (call_max2 rfl) (by rfl) B.max (by decide +kernel) (pa_cons pe_int (pa_cons (pe_callB (call_min2 rfl) (by rfl) B.min (by decide +kernel) (pa_cons pe_int (pa_cons (pe_callB call_len_seq (by rfl) B.len PySem.boot_len (pa_cons (pv 0) pa_nil)) pa_nil))) pa_nil))) pa_nil)) (pg_name (i := 1) scL.nd rfl (Or.inl rfl)) (pss_cons (ps_set (i := 2) scL.nd rfl (Or.inl rfl) (pe_def DB hr1 rfl (pa_cons (pv 0) (pa_cons (pv 1) pa_nil)))) (pss_one (ps_for PassesOwn.never rfl (pi_range1 rfl B.range (pa_cons pe_int pa_nil)) (pg_name (i := 3) scL.nd rfl (Or.inl rfl)) (pss_cons (ps_set (i := 4) scL.nd rfl (Or.inl rfl) (pe_op (r := rCatS K) op_catS (pe_def DTo hr15 rfl (pa_cons (pv 2) (pa_cons (pe_op op_add pe_int (pe_def DTk hr1 rfl (pa_cons (pv 2) (pa_cons pe_int pa_nil)))) pa_nil))) (pe_tup (pa_cons (pe_tup (pa_cons pe_str (pa_cons pe_int (pa_cons pe_int (pa_cons pe_int pa_nil))))) pa_nil)))) (pss_cons (ps_set (i := 5) scL.nd rfl (Or.inl rfl) (pv 4)) (pss_cons (ps_for PassesOwn.never rfl (pi_range1 rfl B.range (pa_cons (pe_op op_add pe_int (pe_def DTk hr1 rfl (pa_cons (pv 2) (pa_cons pe_int pa_nil)))) pa_nil)) (pg_name (i := 6) scL.nd rfl (Or.inl rfl)) (pss_one (ps_set (i := 5) scL.nd rfl (Or.inl rfl) (pe_ix (r := rIxL K) ix_list (pe_lst (pa_cons (pe_tup (pa_cons (pe_tup (pa_cons pe_str (pa_cons pe_int (pa_cons (pv 5) pa_nil)))) pa_nil)) (pa_cons (pe_tup (pa_cons (pe_tup (pa_cons pe_str (pa_cons pe_int (pa_cons (pv 5) (pa_cons (pe_tup pa_nil) pa_nil))))) pa_nil)) pa_nil))) (pe_def DTk hr1 rfl (pa_cons (pv 2) (pa_cons pe_int pa_nil))) (fun _ _ => rfl))))) (pss_cons (ps_set (i := 7) scL.nd rfl (Or.inl rfl) (pe_def DLc hr21 rfl (pa_cons (pv 4) pa_nil))) (pss_cons (ps_set (i := 8) scL.nd rfl (Or.inl rfl) (pe_def DBe hr3 rfl (pa_cons (pv 2) (pa_cons (pv 7) pa_nil)))) (pss_cons (ps_set (i := 9) scL.nd rfl (Or.inl rfl) (pe_lst (pa_cons (pv 8) (pa_cons (pe_def DBe hr3 rfl (pa_cons (pv 2) (pa_cons (pv 8) pa_nil))) (pa_cons (pv 7) (pa_cons (pe_def DLc hr21 rfl (pa_cons (pv 5) pa_nil)) (pa_cons (pe_callTy (call_strT SS hr4) (by rfl) B.str PyProof.Rows.boot_str (pa_cons (pe_def DTh hr4 rfl (pa_cons (pv 2) (pa_cons (pe_def DTk hr1 rfl (pa_cons (pv 2) (pa_cons pe_int pa_nil))) pa_nil))) pa_nil)) (pa_cons (pv 7) pa_nil)))))))) (pss_cons (ps_set (i := 10) scL.nd rfl (Or.inl rfl) (pe_def DBe hr3 rfl (pa_cons (pv 2) (pa_cons (pe_def DLc hr21 rfl (pa_cons (pv 5) pa_nil)) pa_nil)))) (pss_one (ps_if (pt_not (pt_val (pe_callB (cr_all rfl) (by rfl) B.all (by decide +kernel) (pa_cons (pe_lc (own := [("_law_one", 11)]) (g := gName 11) (tt := tYes) rfl scL.nd (pi_list (pe_op op_cat (pv 9) (pe_lst (pa_cons (pv 10) (pa_cons (pe_def DBe hr3 rfl (pa_cons (pv 2) (pa_cons (pv 10) pa_nil))) pa_nil))))) (blkOk_by (N := ["_law_script", "_law_k", "_law_bag_here", "_law_turn", "_law_deeds_here", "_law_deep", "_law_floor", "_law_text", "_law_once", "_law_some", "_law_far", "_law_one"]) (sc := defScope sLaw) (by decide +kernel)) (fun _ _ _ _ _ => (pg_name (i := 11) scL.nd rfl (Or.inl rfl))) (fun _ _ _ _ _ => pts_nil) (fun _ _ _ _ _ => (pe_def DGd hr36 rfl (pa_cons (pv 11) pa_nil)))) pa_nil)))) (pss_one (ps_ret pe_bl)) pss_nil))))))))))))) (pss_cons (ps_if (pt_not (pt_val (pe_callB (cr_all rfl) (by rfl) B.all (by decide +kernel) (pa_cons (pe_lc (own := [("_law_one", 11)]) (g := gName 11) (tt := tYes) rfl scL.nd (pi_list (pe_op op_cat (pe_call0 GTf hr3 rfl mgTf kTf bTf .nil pass0) (pe_lst (pa_cons (pe_call0 GTl hr3 rfl mgTl kTl bTl .nil pass0) pa_nil)))) (blkOk_by (N := ["_law_script", "_law_k", "_law_bag_here", "_law_turn", "_law_deeds_here", "_law_deep", "_law_floor", "_law_text", "_law_once", "_law_some", "_law_far", "_law_one"]) (sc := defScope sLaw) (by decide +kernel)) (fun _ _ _ _ _ => (pg_name (i := 11) scL.nd rfl (Or.inl rfl))) (fun _ _ _ _ _ => pts_nil) (fun _ _ _ _ _ => (pe_def DGd hr36 rfl (pa_cons (pv 11) pa_nil)))) pa_nil)))) (pss_one (ps_ret pe_bl)) pss_nil) (pss_one (ps_ret (pe_and (pe_def DGd hr36 rfl (pa_cons pe_str pa_nil)) (pe_and (pe_def DGd hr36 rfl (pa_cons pe_str pa_nil)) (pe_one (pe_def DGd hr36 rfl (pa_cons pe_str pa_nil)))))))), ?_⟩
    have hsl := line4
    refine seq17 (a := tFor _ _ _) (fun σ' H' => ∃ x1 x2 x3 x4 x5 x6 x7 x8 x9 x10 : Option V, σ' = [some (.ref a), x1, x2, x3, x4, x5, x6, x7, x8, x9, x10, none] ∧ Same H H') (fun D' hD hrt => ?_) ?_
    · refine ⟨_, rfl, a, _, rfl, .inl hS, _, _, rfl, _, _, rfl, ?_⟩
      rw [List.length_map]
      have hj : 0 ≤ (if (if ((ns.length : Nat) : Int) < 5 then ((ns.length : Nat) : Int) else 5) > 2 then (if ((ns.length : Nat) : Int) < 5 then ((ns.length : Nat) : Int) else 5) else 2) ∧ (if (if ((ns.length : Nat) : Int) < 5 then ((ns.length : Nat) : Int) else 5) > 2 then (if ((ns.length : Nat) : Int) < 5 then ((ns.length : Nat) : Int) else 5) else 2) ≤ 5 := by
        constructor
        · split <;> omega
        · split <;> split <;> omega
      revert hj
      generalize (if (if ((ns.length : Nat) : Int) < 5 then ((ns.length : Nat) : Int) else 5) > 2 then (if ((ns.length : Nat) : Int) < 5 then ((ns.length : Nat) : Int) else 5) else 2) = j
      intro hj
      refine ⟨j, rfl, by omega, by omega, for_range (n := j.toNat) (fun i σ H' => ∃ x1 x2 x3 x4 x5 x6 x7 x8 x9 x10 : Option V, σ = [some (.ref a), x1, x2, x3, x4, x5, x6, x7, x8, x9, x10, none] ∧ Same H H') ⟨_, _, _, _, _, _, _, _, _, _, rfl, Same.refl H⟩ ?_ (fun σ H' z => hD _ _ z)⟩
      rintro i σ H0 hi ⟨x1, x2, x3, x4, x5, x6, x7, x8, x9, x10, rfl, s0⟩
      refine ⟨_, rfl, _, rfl, a, ns, i, by rw [Int.zero_add]; rfl, s0.seq hS, by omega, fun p H1 sb np hbag => ?_⟩
      have hp0 : H p = none := s0.free np
      refine ⟨4, rfl, by decide, by decide, for_range (n := 4) (fun m σ H' => ∃ x3 x4 x5 x6 x7 x8 x9 x10 : Option V, σ = [some (.ref a), some (.int (0 + ((i : Nat) : Int))), some (.ref p), x3, x4, x5, x6, x7, x8, x9, x10, none] ∧ KB p H1 H' ∧ BagOk H' p) ⟨_, _, _, _, _, _, _, _, rfl, KB.refl p H1, hbag⟩ ?_ ?_⟩
      · rintro m σ H2 hm ⟨x3, x4, x5, x6, x7, x8, x9, x10, rfl, k2, b2⟩
        dsimp only [gName]
        refine seq17 (a := tAsg _ _) (fun σ' H' => ∃ (q : Addr) (r : List Dd), σ' = [some (.ref a), some (.int (0 + ((i : Nat) : Int))), some (.ref p), some (.int (0 + ((m : Nat) : Int))), some (.ref q), x5, x6, x7, x8, x9, x10, none] ∧ RAt K C H' q r ∧ deepR r ≤ 4 ∧ manyR r ≤ 31 ∧ (codeR r).size ≤ 642 ∧ KB p H2 H' ∧ BagOk H' p) (fun D2 hD2 _ => ?_) ?_
        · refine ⟨_, rfl, _, rfl, p, 15, rfl, b2, by decide, by decide, fun d H3 k3 b3 d0 d1 => ?_⟩
          obtain ⟨n, rfl⟩ := Int.eq_ofNat_of_zero_le d0
          refine ⟨_, _, rfl, rfl, p, 1 + n, by rw [Int.natCast_add]; rfl, b3, by omega, fun q r H4 k4 b4 hq hd hm hs hz => ?_⟩
          refine ⟨by show 4 ≤ sizeLine; decide, fun T1 nT1 => ?_⟩
          have s5 := Same.new nT1 (o := .tup [V.str "same", .int 1, .int 0, .int 2])
          have e5 : (upd H4 T1 (.tup [V.str "same", .int 1, .int 0, .int 2])) T1 = some (.tup [V.str "same", .int 1, .int 0, .int 2]) := upd_same
          revert s5 e5
          generalize upd H4 T1 (.tup [V.str "same", .int 1, .int 0, .int 2]) = H5
          intro s5 e5
          refine ⟨by show 1 ≤ sizeLine; decide, fun T2 nT2 => ?_⟩
          have s6 := Same.new nT2 (o := .tup [V.ref T1])
          have e6 : (upd H5 T2 (.tup [V.ref T1])) T2 = some (.tup [V.ref T1]) := upd_same
          revert s6 e6
          generalize upd H5 T2 (.tup [V.ref T1]) = H6
          intro s6 e6
          obtain ⟨vs, hv, hds⟩ := id (hq.same (s5.trans s6))
          have hvl := DsAt.length r vs hds
          have hlm : r.length ≤ manyR r := len_many17 r
          refine ⟨q, T2, vs, _, rfl, rfl, hv, SqT.of e6, by show vs.length + 1 ≤ 100000; omega, fun q2 H7 s7 hq2 => ?_⟩
          have hone : DsAt K C H7 [V.ref T1] [Dd.two true 1 0 2] := ⟨_, _, rfl, ⟨T1, rfl, SqT.of (s7 _ _ (s6 _ _ e5)), by decide, by decide, by decide⟩, rfl⟩
          refine hD2 _ _ ⟨q2, r ++ [Dd.two true 1 0 2], rfl, ⟨_, hq2, DsAt_app r _ vs _ (DsAt_kt (KT.of s7) r vs hds) hone⟩, ?_, ?_, ?_, (k3.trans k4).trans (KB.of ((s5.trans s6).trans s7)), b4.same ((s5.trans s6).trans s7)⟩
          · rw [deepR_ap]
            exact Nat.max_le.mpr ⟨hd, by decide⟩
          · rw [manyR_app, manyR_one, many_two]
            omega
          · rw [cz_app, cz_one, cz_two, if_pos rfl]
            omega
        rintro σ3 H3 ⟨q, r, rfl, hq, hd, hm, hz, k3, b3⟩
        refine seq17 (a := tAsg _ _) (fun σ' H' => σ' = [some (.ref a), some (.int (0 + ((i : Nat) : Int))), some (.ref p), some (.int (0 + ((m : Nat) : Int))), some (.ref q), some (.ref q), x6, x7, x8, x9, x10, none] ∧ H3 = H') (fun D2 hD2 _ => ⟨_, rfl, hD2 _ _ ⟨rfl, rfl⟩⟩) ?_
        rintro _ _ ⟨rfl, rfl⟩
        refine seq17 (a := tFor _ _ _) (fun σ' H' => ∃ (q5 : Addr) (r5 : List Dd) (y6 : Option V), σ' = [some (.ref a), some (.int (0 + ((i : Nat) : Int))), some (.ref p), some (.int (0 + ((m : Nat) : Int))), some (.ref q), some (.ref q5), y6, x7, x8, x9, x10, none] ∧ RAt K C H' q r ∧ RAt K C H' q5 r5 ∧ deepR r5 ≤ 13 ∧ manyR r5 ≤ 40 ∧ (codeR r5).size ≤ 741 ∧ KB p H3 H' ∧ BagOk H' p) (fun D2 hD2 _ => ?_) ?_
        · refine ⟨_, rfl, p, 3, rfl, b3, by decide, by decide, fun d H4 k4 b4 d0 d1 => ?_⟩
          obtain ⟨n, rfl⟩ := Int.eq_ofNat_of_zero_le d0
          refine ⟨_, _, rfl, rfl, 7 + (n : Int), rfl, by omega, by omega, for_range (n := (7 + (n : Int)).toNat) (fun f σ H' => ∃ (q5 : Addr) (r5 : List Dd) (y6 : Option V), σ = [some (.ref a), some (.int (0 + ((i : Nat) : Int))), some (.ref p), some (.int (0 + ((m : Nat) : Int))), some (.ref q), some (.ref q5), y6, x7, x8, x9, x10, none] ∧ RAt K C H' q r ∧ RAt K C H' q5 r5 ∧ deepR r5 ≤ 4 + f ∧ manyR r5 ≤ 31 + f ∧ (codeR r5).size ≤ 642 + 11 * f ∧ KB p H3 H' ∧ BagOk H' p) ⟨q, r, x6, rfl, hq.kt (b3.kt k4), hq.kt (b3.kt k4), hd, hm, hz, k4, b4⟩ ?_ ?_⟩
          · rintro f σ H5 hf ⟨q5, r5, y6, rfl, hq', hq5, hd5, hm5, hz5, k5, b5⟩
            have hf9 : f < 9 := by omega
            dsimp only [gName]
            refine ⟨_, rfl, by show 3 ≤ sizeLine; decide, fun T1 nT1 => ?_⟩
            have s6 := Same.new nT1 (o := .tup [V.str "while", .int 1, .ref q5])
            have e6 : (upd H5 T1 (.tup [V.str "while", .int 1, .ref q5])) T1 = some (.tup [V.str "while", .int 1, .ref q5]) := upd_same
            revert s6 e6
            generalize upd H5 T1 (.tup [V.str "while", .int 1, .ref q5]) = H6
            intro s6 e6
            refine ⟨by show 1 ≤ sizeLine; decide, fun T2 nT2 => ?_⟩
            have s7 := Same.new nT2 (o := .tup [V.ref T1])
            have e7 : (upd H6 T2 (.tup [V.ref T1])) T2 = some (.tup [V.ref T1]) := upd_same
            revert s7 e7
            generalize upd H6 T2 (.tup [V.ref T1]) = H7
            intro s7 e7
            refine ⟨_, rfl, Nat.zero_le _, fun T3 nT3 => ?_⟩
            have s8 := Same.new nT3 (o := .tup [])
            have e8 : (upd H7 T3 (.tup [])) T3 = some (.tup []) := upd_same
            revert s8 e8
            generalize upd H7 T3 (.tup []) = H8
            intro s8 e8
            refine ⟨by show 4 ≤ sizeLine; decide, fun T4 nT4 => ?_⟩
            have s9 := Same.new nT4 (o := .tup [V.str "if", .int 0, .ref q5, .ref T3])
            have e9 : (upd H8 T4 (.tup [V.str "if", .int 0, .ref q5, .ref T3])) T4 = some (.tup [V.str "if", .int 0, .ref q5, .ref T3]) := upd_same
            revert s9 e9
            generalize upd H8 T4 (.tup [V.str "if", .int 0, .ref q5, .ref T3]) = H9
            intro s9 e9
            refine ⟨by show 1 ≤ sizeLine; decide, fun T5 nT5 => ?_⟩
            have sA := Same.new nT5 (o := .tup [V.ref T4])
            have eA : (upd H9 T5 (.tup [V.ref T4])) T5 = some (.tup [V.ref T4]) := upd_same
            revert sA eA
            generalize upd H9 T5 (.tup [V.ref T4]) = HA
            intro sA eA
            refine ⟨by show 2 ≤ sizeLine; decide, fun L nL => ?_⟩
            have sB := Same.new nL (o := .lst [V.ref T2, .ref T5])
            have eB : (upd HA L (.lst [V.ref T2, .ref T5])) L = some (.lst [V.ref T2, .ref T5]) := upd_same
            revert sB eB
            generalize upd HA L (.lst [V.ref T2, .ref T5]) = HB
            intro sB eB
            have s5B := ((((s6.trans s7).trans s8).trans s9).trans sA).trans sB
            have bB := b5.same s5B
            have bA := b5.same ((((s6.trans s7).trans s8).trans s9).trans sA)
            have hLp : L ≠ p := fun z => by
              obtain ⟨bx, hbx⟩ := bA.some
              rw [z, hbx] at nL
              cases nL
            refine ⟨_, rfl, p, 2, rfl, bB, by decide, by decide, fun d2 HC kC bC d20 d21 => ?_⟩
            obtain ⟨n2, rfl⟩ := Int.eq_ofNat_of_zero_le d20
            have ktC := bB.kt kC
            have hLC := kC _ _ hLp eB
            obtain ⟨ws, hw, hws⟩ := id hq5
            have hwC : SqT K HC q5 ws := sqt_kt ((KT.of s5B).trans ktC) hw
            have hwsC : DsAt K C HC ws r5 := DsAt_kt ((KT.of s5B).trans ktC) r5 ws hws
            have hqC : RAt K C HC q r := (hq'.same s5B).kt ktC
            have hT : ∀ {T : Addr} {xs : List V} {G : Hp}, G T = some (.tup xs) → Same G HB → SqT K HC T xs := fun e s => sqt_kt ktC (SqT.of (s _ _ e))
            have sAB := sB
            have s9B := sA.trans sB
            have s8B := s9.trans s9B
            have s7B := s8.trans s8B
            have s6B := s7.trans s7B
            have hT1 := hT e6 s6B
            have hT2 := hT e7 s7B
            have hT3 := hT e8 s8B
            have hT4 := hT e9 s9B
            have hT5 := hT eA sAB
            have kbC : KB p H3 HC := k5.trans ((KB.of s5B).trans kC)
            have hn2 : n2 = 0 ∨ n2 = 1 := by omega
            rcases hn2 with rfl | rfl
            · refine ⟨L, _, 0, .ref T2, rfl, rfl, SqL.of hLC, atI_nat (j := 0) rfl, T2, [Dd.wh 1 r5], _, rfl, hqC, ⟨_, hT2, _, _, rfl, ⟨T1, q5, ws, rfl, hT1, by decide, hwC, hwsC⟩, rfl⟩, ?_, ?_, ?_, kbC, bC⟩
              · rw [deepR, deepR, Dd.deep]
                omega
              · rw [many_cons, many_wh, many_nil]
                omega
              · rw [cz_one, cz_wh]
                omega
            · refine ⟨L, _, 1, .ref T5, rfl, rfl, SqL.of hLC, atI_nat (j := 1) rfl, T5, [Dd.iff 0 r5 []], _, rfl, hqC, ⟨_, hT5, _, _, rfl, ⟨T4, q5, ws, T3, [], rfl, hT4, by decide, hwC, hwsC, hT3, rfl⟩, rfl⟩, ?_, ?_, ?_, kbC, bC⟩
              · rw [deepR, deepR, Dd.deep, deepR]
                omega
              · rw [many_cons, many_iff, many_nil]
                omega
              · rw [cz_one, cz_iff, codeR, Tr.size]
                omega
          · rintro σ H5 ⟨q5, r5, y6, rfl, hq', hq5, hd5, hm5, hz5, k5, b5⟩
            exact hD2 _ _ ⟨q5, r5, y6, rfl, hq', hq5, by omega, by omega, by omega, k5, b5⟩
        rintro σ4 H4 ⟨q5, r5, y6, rfl, hq4, hq5, hd5, hm5, hz5, k4, b4⟩
        refine ⟨_, rfl, q, r, rfl, hq4, by omega, by omega, by omega, fun H5 s5 => ?_⟩
        have b5 := b4.same s5
        refine ⟨_, rfl, _, rfl, p, codeR r, rfl, b5, by omega, fun t1 H6 k6 b6 hz1 => ?_⟩
        have hq5' : RAt K C H6 q5 r5 := (hq5.same s5).kt (b5.kt k6)
        refine ⟨_, rfl, _, rfl, _, rfl, p, t1, rfl, b6, by omega, fun t2 H7 k7 b7 hz2 => ?_⟩
        have hq57 : RAt K C H7 q5 r5 := hq5'.kt (b6.kt k7)
        refine ⟨_, rfl, _, rfl, q5, r5, rfl, hq57, by omega, by omega, by omega, fun H8 s8 => ?_⟩
        have b8 := b7.same s8
        refine ⟨_, rfl, _, rfl, p, 31, rfl, b8, by decide, by decide, fun d H9 k9 b9 d0 d1 => ?_⟩
        obtain ⟨n, rfl⟩ := Int.eq_ofNat_of_zero_le d0
        refine ⟨p, n, rfl, b9, by omega, fun x th HA kA bA hx hth => ?_⟩
        refine ⟨x, th, rfl, hx, by omega, fun HB sB => ?_⟩
        refine ⟨_, rfl, by show 6 ≤ sizeLine; decide, fun L nL => ?_⟩
        rw [show [V.str t1.text, V.str t2.text, V.str (codeR r).text, V.str (codeR r5).text, V.str th.text, V.str (codeR r).text] = txV [t1, t2, codeR r, codeR r5, th, codeR r] from rfl]
        have sC := Same.new nL (o := .lst (txV [t1, t2, codeR r, codeR r5, th, codeR r]))
        have eC : (upd HB L (.lst (txV [t1, t2, codeR r, codeR r5, th, codeR r]))) L = some (.lst (txV [t1, t2, codeR r, codeR r5, th, codeR r])) := upd_same
        revert sC eC
        generalize upd HB L (.lst (txV [t1, t2, codeR r, codeR r5, th, codeR r])) = HC
        intro sC eC
        have bB := bA.same sB
        have bC := bB.same sC
        have hLp : L ≠ p := fun z => by
          obtain ⟨bx, hbx⟩ := bB.some
          rw [z, hbx] at nL
          cases nL
        have hq5C : RAt K C HC q5 r5 := ((((hq57.same s8).kt (b8.kt k9)).kt (b9.kt kA)).same sB).same sC
        refine ⟨_, rfl, _, rfl, q5, r5, rfl, hq5C, by omega, by omega, by omega, fun HD sD => ?_⟩
        have bD := bC.same sD
        refine ⟨p, codeR r5, rfl, bD, by omega, fun t6 HE kE bE hz6 => ?_⟩
        have hLE := kE _ _ hLp (sD _ _ eC)
        refine ⟨_, rfl, _, rfl, _, rfl, _, rfl, p, t6, rfl, bE, by omega, fun t7 HF kF bF hz7 => ?_⟩
        have hLF := kF _ _ hLp hLE
        refine ⟨by show 2 ≤ sizeLine; decide, fun L2 nL2 => ?_⟩
        have sG := Same.new nL2 (o := .lst [V.str t6.text, V.str t7.text])
        have eG : (upd HF L2 (.lst [V.str t6.text, V.str t7.text])) L2 = some (.lst [V.str t6.text, V.str t7.text]) := upd_same
        revert sG eG
        generalize upd HF L2 (.lst [V.str t6.text, V.str t7.text]) = HG
        intro sG eG
        refine ⟨L, L2, _, _, rfl, rfl, sG _ _ hLF, eG, by show 6 + 2 ≤ sizeLine; decide, fun L3 nL3 => ?_⟩
        rw [show txV [t1, t2, codeR r, codeR r5, th, codeR r] ++ [V.str t6.text, V.str t7.text] = txV [t1, t2, codeR r, codeR r5, th, codeR r, t6, t7] from rfl]
        have sI := Same.new nL3 (o := .lst (txV [t1, t2, codeR r, codeR r5, th, codeR r, t6, t7]))
        have eI : (upd HG L3 (.lst (txV [t1, t2, codeR r, codeR r5, th, codeR r, t6, t7]))) L3 = some (.lst (txV [t1, t2, codeR r, codeR r5, th, codeR r, t6, t7])) := upd_same
        revert sI eI
        generalize upd HG L3 (.lst (txV [t1, t2, codeR r, codeR r5, th, codeR r, t6, t7])) = HI
        intro sI eI
        have hz8 : ∀ t ∈ [t1, t2, codeR r, codeR r5, th, codeR r, t6, t7], t.size ≤ 4000 := fun t ht => by
          simp only [List.mem_cons, List.not_mem_nil, or_false] at ht
          rcases ht with rfl | rfl | rfl | rfl | rfl | rfl | rfl | rfl <;> omega
        have kAll : KB p H4 HI := ((((((((((KB.of s5).trans k6).trans k7).trans (KB.of s8)).trans k9).trans kA).trans (KB.of (sB.trans sC))).trans (KB.of sD)).trans kE).trans kF).trans (KB.of (sG.trans sI))
        have bI := (bF.same sG).same sI
        refine ⟨L3, rfl, ⟨_, SqL.of eI⟩, fun D nD => lc_list (K := K) (a := L3) (xs := txV [t1, t2, codeR r, codeR r5, th, codeR r, t6, t7]) (fun i H' => Same HI H' ∧ H' D = some (.lst ((List.replicate i true).map V.bl))) ⟨Same.new nD, upd_same⟩ (fun i H' _ z => SqL.of (z.1 _ _ eI)) (fun i v HJ hv z => ?_) (fun HJ z => ?_)⟩
        · obtain ⟨sJ, hDJ⟩ := z
          unfold txV at hv
          rw [List.getElem?_map] at hv
          obtain ⟨t, ht, rfl⟩ := Option.map_eq_some_iff.mp hv
          have hil := (List.getElem?_eq_some_iff.mp ht).1
          have hil8 : i < 8 := hil
          refine ⟨rfl, lc_yes ⟨_, rfl, t, rfl, hz8 t (List.mem_of_getElem? ht), fun HL sL => ?_⟩⟩
          refine ⟨_, sL _ _ hDJ, by rw [List.length_map, List.length_replicate]; omega, (sJ.trans sL).set nD, ?_⟩
          rw [upd_same, List.replicate_succ', List.map_append]
          rfl
        · obtain ⟨sJ, hDJ⟩ := z
          refine ⟨D, _, rfl, SqL.of hDJ, ?_⟩
          rw [show (List.replicate (txV [t1, t2, codeR r, codeR r5, th, codeR r, t6, t7]).length true).all id = true from rfl]
          exact ⟨_, rfl, iteF ⟨_, _, _, _, _, _, _, _, rfl, ((k2.trans k3).trans k4).trans (kAll.trans (KB.of sJ)), bI.same sJ⟩⟩
      · rintro σ H2 ⟨x3, x4, x5, x6, x7, x8, x9, x10, rfl, k2, b2⟩
        exact ⟨_, _, _, _, _, _, _, _, _, _, rfl, same_kb (s0.trans sb) k2 hp0⟩
    rintro σ1 H1 ⟨x1, x2, x3, x4, x5, x6, x7, x8, x9, x10, rfl, s1⟩
    refine seq17 (a := tIfS _ _ _) (fun σ' H' => True) (fun D' hD hrt => ?_) ?_
    · refine ⟨rfl, fun L ts H2 s2 hL hl hz => ?_⟩
      refine ⟨rfl, fun H3 s3 => ⟨by show 1 ≤ sizeLine; decide, fun L2 nL2 => ?_⟩⟩
      have s4 := Same.new nL2 (o := .lst [V.str (tallT 400).text])
      have e4 : (upd H3 L2 (.lst [V.str (tallT 400).text])) L2 = some (.lst [V.str (tallT 400).text]) := upd_same
      revert s4 e4
      generalize upd H3 L2 (.lst [V.str (tallT 400).text]) = H4
      intro s4 e4
      have s24 := s3.trans s4
      refine ⟨L, L2, _, _, rfl, rfl, s24 _ _ hL, e4, by rw [txV, List.length_map]; show ts.length + 1 ≤ sizeLine; omega, fun L3 nL3 => ?_⟩
      rw [show txV ts ++ [V.str (tallT 400).text] = txV (ts ++ [tallT 400]) by rw [txV, txV, List.map_append]; rfl]
      have s5 := Same.new nL3 (o := .lst (txV (ts ++ [tallT 400])))
      have e5 : (upd H4 L3 (.lst (txV (ts ++ [tallT 400])))) L3 = some (.lst (txV (ts ++ [tallT 400]))) := upd_same
      revert s5 e5
      generalize upd H4 L3 (.lst (txV (ts ++ [tallT 400]))) = H5
      intro s5 e5
      have hz5 : ∀ t ∈ ts ++ [tallT 400], t.size ≤ 4000 := fun t ht => by
        rcases List.mem_append.mp ht with ht | ht
        · exact hz t ht
        · rw [List.mem_singleton.mp ht, tall_size]
          decide
      have hl5 : (ts ++ [tallT 400]).length ≤ 501 := by rw [List.length_append]; show ts.length + 1 ≤ 501; omega
      refine ⟨L3, rfl, ⟨_, SqL.of e5⟩, fun D nD => lc_list (K := K) (a := L3) (xs := txV (ts ++ [tallT 400])) (fun i H' => Same H5 H' ∧ H' D = some (.lst ((List.replicate i true).map V.bl))) ⟨Same.new nD, upd_same⟩ (fun i H' _ z => SqL.of (z.1 _ _ e5)) (fun i v HB hv z => ?_) (fun HB z => ?_)⟩
      · obtain ⟨sB, hDB⟩ := z
        unfold txV at hv
        rw [List.getElem?_map] at hv
        obtain ⟨t, ht, rfl⟩ := Option.map_eq_some_iff.mp hv
        have hil := (List.getElem?_eq_some_iff.mp ht).1
        refine ⟨rfl, lc_yes ⟨_, rfl, t, rfl, hz5 t (List.mem_of_getElem? ht), fun HC sC => ?_⟩⟩
        refine ⟨_, sC _ _ hDB, by rw [List.length_map, List.length_replicate]; omega, (sB.trans sC).set nD, ?_⟩
        rw [upd_same, List.replicate_succ', List.map_append]
        rfl
      · obtain ⟨sB, hDB⟩ := z
        refine ⟨D, _, rfl, SqL.of hDB, ?_⟩
        rw [show (List.replicate (txV (ts ++ [tallT 400])).length true).all id = true by rw [List.all_eq_true]; intro w hw; rw [(List.mem_replicate.mp hw).2]; rfl]
        exact ⟨_, rfl, iteF (hD _ _ trivial)⟩
    rintro σ2 H2 _
    refine ⟨.nil, congrArg (fun x => [V.str x]) c_46, Nat.zero_le _, fun H3 s3 => ⟨_, rfl, iteT ?_⟩⟩
    refine ⟨.pr .nil .nil, congrArg (fun x => [V.str x]) d_dd, by decide, fun H4 s4 => ⟨_, rfl, iteT ?_⟩⟩
    exact ⟨.pr (.pr .nil .nil) .nil, congrArg (fun x => [V.str x]) d_pp, by decide, fun H5 s5 => k H5⟩
end
end Js
set_option Elab.async false
set_option linter.all false
set_option maxRecDepth 100000
set_option maxHeartbeats 4000000
namespace Js
open PySem L2 PyProof.Rows
theorem all_mk {P : Program} {w : World} {K : PySem.W.Frag} {h : Heap} {mg : Str → Option Value} {fa C : Addr} (X : K.In h) (G : h.Ns mainGlobals mg) (hfa : mg "law" = some (.ref fa))
    {tM : Tok}
    {oI : Value} {odI anI odT : Option Addr} {slI slT : Array (Option Value)} {kVI dcI pmI cdI ctI ocT : Value} {fI TI : Addr} {nT : Nat}
    {fEq : Addr} {ocEq kVEq dcEq pmEq cdEq ctEq : Value} {odEq anEq : Option Addr} {slEq : Array (Option Value)}
    {fSt : Addr} {ocSt kVSt dcSt pmSt cdSt ctSt : Value} {odSt anSt : Option Addr} {slSt : Array (Option Value)}
    {fPa : Addr} {ocPa kVPa dcPa pmPa cdPa ctPa : Value} {odPa anPa : Option Addr} {slPa : Array (Option Value)}
    {fAl : Addr} {ocAl kVAl dcAl pmAl cdAl ctAl : Value} {odAl anAl : Option Addr} {slAl : Array (Option Value)}
    {fSg : Addr} {ocSg kVSg dcSg pmSg cdSg ctSg : Value} {odSg anSg : Option Addr} {slSg : Array (Option Value)}
    {fIn : Addr} {ocIn kVIn dcIn pmIn cdIn ctIn : Value} {odIn anIn : Option Addr} {slIn : Array (Option Value)}
    {fFt : Addr} {ocFt kVFt dcFt pmFt cdFt ctFt : Value} {odFt anFt : Option Addr} {slFt : Array (Option Value)}
    {fHf : Addr} {ocHf kVHf dcHf pmHf cdHf ctHf : Value} {odHf anHf : Option Addr} {slHf : Array (Option Value)}
    {fRi : Addr} {ocRi kVRi dcRi pmRi cdRi ctRi : Value} {odRi anRi : Option Addr} {slRi : Array (Option Value)}
    {fLk : Addr} {ocLk kVLk dcLk pmLk cdLk ctLk : Value} {odLk anLk : Option Addr} {slLk : Array (Option Value)}
    {fLy : Addr} {ocLy kVLy dcLy pmLy cdLy ctLy : Value} {odLy anLy : Option Addr} {slLy : Array (Option Value)}
    {fNu : Addr} {ocNu kVNu dcNu pmNu cdNu ctNu : Value} {odNu anNu : Option Addr} {slNu : Array (Option Value)}
    {fRo : Addr} {ocRo kVRo dcRo pmRo cdRo ctRo : Value} {odRo anRo : Option Addr} {slRo : Array (Option Value)}
    {fCo : Addr} {ocCo kVCo dcCo pmCo cdCo ctCo : Value} {odCo anCo : Option Addr} {slCo : Array (Option Value)}
    {fRc : Addr} {ocRc kVRc dcRc pmRc cdRc ctRc : Value} {odRc anRc : Option Addr} {slRc : Array (Option Value)}
    {fDc : Addr} {ocDc kVDc dcDc pmDc cdDc ctDc : Value} {odDc anDc : Option Addr} {slDc : Array (Option Value)}
    {fPc : Addr} {ocPc kVPc dcPc pmPc cdPc ctPc : Value} {odPc anPc : Option Addr} {slPc : Array (Option Value)}
    {fCn : Addr} {ocCn kVCn dcCn pmCn cdCn ctCn : Value} {odCn anCn : Option Addr} {slCn : Array (Option Value)}
    {fPp : Addr} {ocPp kVPp dcPp pmPp cdPp ctPp : Value} {odPp anPp : Option Addr} {slPp : Array (Option Value)}
    {fPo : Addr} {ocPo kVPo dcPo pmPo cdPo ctPo : Value} {odPo anPo : Option Addr} {slPo : Array (Option Value)}
    {fOt : Addr} {ocOt kVOt dcOt pmOt cdOt ctOt : Value} {odOt anOt : Option Addr} {slOt : Array (Option Value)}
    {fDt : Addr} {ocDt kVDt dcDt pmDt cdDt ctDt : Value} {odDt anDt : Option Addr} {slDt : Array (Option Value)}
    {fKt : Addr} {ocKt kVKt dcKt pmKt cdKt ctKt : Value} {odKt anKt : Option Addr} {slKt : Array (Option Value)}
    {fPt : Addr} {ocPt kVPt dcPt pmPt cdPt ctPt : Value} {odPt anPt : Option Addr} {slPt : Array (Option Value)}
    {fIc : Addr} {ocIc kVIc dcIc pmIc cdIc ctIc : Value} {odIc anIc : Option Addr} {slIc : Array (Option Value)}
    {fRe : Addr} {ocRe kVRe dcRe pmRe cdRe ctRe : Value} {odRe anRe : Option Addr} {slRe : Array (Option Value)}
    {fWh : Addr} {ocWh kVWh dcWh pmWh cdWh ctWh : Value} {odWh anWh : Option Addr} {slWh : Array (Option Value)}
    {fDu : Addr} {ocDu kVDu dcDu pmDu cdDu ctDu : Value} {odDu anDu : Option Addr} {slDu : Array (Option Value)}
    {fBa : Addr} {ocBa kVBa dcBa pmBa cdBa ctBa : Value} {odBa anBa : Option Addr} {slBa : Array (Option Value)}
    {fTa : Addr} {ocTa kVTa dcTa pmTa cdTa ctTa : Value} {odTa anTa : Option Addr} {slTa : Array (Option Value)}
    {fTh : Addr} {ocTh kVTh dcTh pmTh cdTh ctTh : Value} {odTh anTh : Option Addr} {slTh : Array (Option Value)}
    {fNa : Addr} {ocNa kVNa dcNa pmNa cdNa ctNa : Value} {odNa anNa : Option Addr} {slNa : Array (Option Value)}
    {fDe : Addr} {ocDe kVDe dcDe pmDe cdDe ctDe : Value} {odDe anDe : Option Addr} {slDe : Array (Option Value)}
    {fDs : Addr} {ocDs kVDs dcDs pmDs cdDs ctDs : Value} {odDs anDs : Option Addr} {slDs : Array (Option Value)}
    {fTo : Addr} {ocTo kVTo dcTo pmTo cdTo ctTo : Value} {odTo anTo : Option Addr} {slTo : Array (Option Value)}
    {fXhx : Addr} {ocXhx kVXhx dcXhx pmXhx cdXhx ctXhx : Value} {odXhx anXhx : Option Addr} {slXhx : Array (Option Value)}
    {fXtx : Addr} {ocXtx kVXtx dcXtx pmXtx cdXtx ctXtx : Value} {odXtx anXtx : Option Addr} {slXtx : Array (Option Value)}
    {fXnt : Addr} {ocXnt kVXnt dcXnt pmXnt cdXnt ctXnt : Value} {odXnt anXnt : Option Addr} {slXnt : Array (Option Value)}
    {fXrt : Addr} {ocXrt kVXrt dcXrt pmXrt cdXrt ctXrt : Value} {odXrt anXrt : Option Addr} {slXrt : Array (Option Value)}
    {fXlc : Addr} {ocXlc kVXlc dcXlc pmXlc cdXlc ctXlc : Value} {odXlc anXlc : Option Addr} {slXlc : Array (Option Value)}
    {fXlp : Addr} {ocXlp kVXlp dcXlp pmXlp cdXlp ctXlp : Value} {odXlp anXlp : Option Addr} {slXlp : Array (Option Value)}
    {fXnu : Addr} {ocXnu kVXnu dcXnu pmXnu cdXnu ctXnu : Value} {odXnu anXnu : Option Addr} {slXnu : Array (Option Value)}
    {fXdw : Addr} {ocXdw kVXdw dcXdw pmXdw cdXdw ctXdw : Value} {odXdw anXdw : Option Addr} {slXdw : Array (Option Value)}
    {fXwr : Addr} {ocXwr kVXwr dcXwr pmXwr cdXwr ctXwr : Value} {odXwr anXwr : Option Addr} {slXwr : Array (Option Value)}
    {fXbe : Addr} {ocXbe kVXbe dcXbe pmXbe cdXbe ctXbe : Value} {odXbe anXbe : Option Addr} {slXbe : Array (Option Value)}
    {fXto : Addr} {ocXto kVXto dcXto pmXto cdXto ctXto : Value} {odXto anXto : Option Addr} {slXto : Array (Option Value)}
    {fXrw : Addr} {ocXrw kVXrw dcXrw pmXrw cdXrw ctXrw : Value} {odXrw anXrw : Option Addr} {slXrw : Array (Option Value)}
    {fXtf : Addr} {ocXtf kVXtf dcXtf pmXtf cdXtf ctXtf : Value} {odXtf anXtf : Option Addr} {slXtf : Array (Option Value)}
    {fXtl : Addr} {ocXtl kVXtl dcXtl pmXtl cdXtl ctXtl : Value} {odXtl anXtl : Option Addr} {slXtl : Array (Option Value)}
    {fXgd : Addr} {ocXgd kVXgd dcXgd pmXgd cdXgd ctXgd : Value} {odXgd anXgd : Option Addr} {slXgd : Array (Option Value)}
    {fLaw : Addr} {ocLaw kVLaw dcLaw pmLaw cdLaw ctLaw : Value} {odLaw anLaw : Option Addr} {slLaw : Array (Option Value)}
    {CP dF : Addr} {esF : Array DictEntry} {nFm : Nat} {tN1 tN2 tN3 tf0 tf1 tf2 tf3 tf4 tf5 tf6 : Tok}
    {fPI : Addr} {ocPI kVPI dcPI pmPI cdPI ctPI : Value} {odPI anPI : Option Addr} {slPI : Array (Option Value)}
    {fPL : Addr} {ocPL kVPL dcPL pmPL cdPL ctPL : Value} {odPL anPL : Option Addr} {slPL : Array (Option Value)}
    {fPE : Addr} {ocPE kVPE dcPE pmPE cdPE ctPE : Value} {odPE anPE : Option Addr} {slPE : Array (Option Value)}
    {N fN : Addr} {nmN qN : Str} {NN : Addr} {bsN : List Value} {snN : List Str} {subN : List Value} {abN : Bool} {colN : Option Bool} {ddN : Option Addr} {m0N m1N m2N m3N m5N : Option Value}
    {ocN kVN dcN pmN cdN ctN : Value} {odN anN : Option Addr} {slN : Array (Option Value)}
    {NP fZ : Addr} {nmZ qZ : Str} {NZ : Addr} {bsZ : List Value} {snZ : List Str} {subZ : List Value} {abZ : Bool} {colZ : Option Bool} {ddZ : Option Addr} {m0Z m1Z m2Z m3Z m5Z : Option Value}
    {ocZ kVZ dcZ pmZ cdZ ctZ : Value} {odZ anZ : Option Addr} {slZ : Array (Option Value)}
    {n1 n2 n3 n4 n5 : Addr}
    (aC : PySem.W.nsIn K mainGlobals "Thing" = some (some (.ref C)))
    (pg : PySem.W.plainGet K C Str.empty = true)
    (hd : PySem.W.hasDictIn K C = true)
    (po : PySem.W.plainOver K C = true)
    (sa : PySem.W.findIn K (.ref C) "__setattr__" = some (some (.builtin "object.__setattr__")))
    (mkC : PySem.W.makesIn K C = true)
    (kc : PySem.W.keepIn K (.ref C) = true)
    (nF : PySem.W.findIn K (.ref C) "first" = some none)
    (nS : PySem.W.findIn K (.ref C) "second" = some none)
    (nZ : PySem.W.findIn K (.ref C) "size" = some none)
    (ca : PySem.W.findIn K (.ref C) "__class__" = some (some (.builtin "object.__class__")))
    (cn : PySem.W.specialIn K (.builtin "object.__class__") "__get__" = some (some (.builtin "getset_descriptor.__get__")))
    (ct : PySem.W.takesIn K (.builtin "object.__class__") = some true)
    (cm : PySem.W.mroIn K C (.type "object") = some true)
    (neC : PySem.W.findIn K (.ref C) "__ne__" = some (some (.builtin "object.__ne__")))
    (aM : PySem.W.nsIn K mainGlobals "MOST_PAIRS" = some (some (.int 4000 tM)))
    (aI : PySem.W.findIn K (.ref C) "__init__" = some (some (.ref fI)))
    (iI : PySem.W.isFn K (.ref fI) = true)
    (lI : K.lookup fI = some ⟨oI, odI, .func (PySem.W.fnOf "__init__" "Thing.__init__" (defArgs sInit) (defBody sInit) (defScope sInit) (.ref TI) kVI dcI pmI anI cdI ctI), slI⟩)
    (cI : PySem.W.codeIn K cdI "Thing.__init__" = true)
    (kI : PySem.W.keepIn K (.ref fI) = true)
    (lT : K.lookup TI = some ⟨ocT, odT, .seq #[.none, .none] nT, slT⟩)
    (aEq : PySem.W.findIn K (.ref C) "__eq__" = some (some (.ref fEq)))
    (iEq : PySem.W.isFn K (.ref fEq) = true)
    (lEq : K.lookup fEq = some ⟨ocEq, odEq, .func (PySem.W.fnOf "__eq__" "Thing.__eq__" (defArgs sEq) (defBody sEq) (defScope sEq) .none kVEq dcEq pmEq anEq cdEq ctEq), slEq⟩)
    (cEq : PySem.W.codeIn K cdEq "Thing.__eq__" = true)
    (kEq : PySem.W.keepIn K (.ref fEq) = true)
    (aSt : PySem.W.findIn K (.ref C) "__str__" = some (some (.ref fSt)))
    (iSt : PySem.W.isFn K (.ref fSt) = true)
    (lSt : K.lookup fSt = some ⟨ocSt, odSt, .func (PySem.W.fnOf "__str__" "Thing.__str__" (defArgs sStr) (defBody sStr) (defScope sStr) .none kVSt dcSt pmSt anSt cdSt ctSt), slSt⟩)
    (cSt : PySem.W.codeIn K cdSt "Thing.__str__" = true)
    (kSt : PySem.W.keepIn K (.ref fSt) = true)
    (aPa : PySem.W.nsIn K mainGlobals "pairs_in" = some (some (.ref fPa)))
    (lPa : K.lookup fPa = some ⟨ocPa, odPa, .func (PySem.W.fnOf "pairs_in" "pairs_in" (defArgs sPairs) (defBody sPairs) (defScope sPairs) .none kVPa dcPa pmPa anPa cdPa ctPa), slPa⟩)
    (cPa : PySem.W.codeIn K cdPa "pairs_in" = true)
    (kPa : PySem.W.keepIn K (.ref fPa) = true)
    (aAl : PySem.W.nsIn K mainGlobals "alike" = some (some (.ref fAl)))
    (lAl : K.lookup fAl = some ⟨ocAl, odAl, .func (PySem.W.fnOf "alike" "alike" (defArgs sAlike) (defBody sAlike) (defScope sAlike) .none kVAl dcAl pmAl anAl cdAl ctAl), slAl⟩)
    (cAl : PySem.W.codeIn K cdAl "alike" = true)
    (kAl : PySem.W.keepIn K (.ref fAl) = true)
    (aSg : PySem.W.nsIn K mainGlobals "signs" = some (some (.ref fSg)))
    (lSg : K.lookup fSg = some ⟨ocSg, odSg, .func (PySem.W.fnOf "signs" "signs" (defArgs sSigns) (defBody sSigns) (defScope sSigns) .none kVSg dcSg pmSg anSg cdSg ctSg), slSg⟩)
    (cSg : PySem.W.codeIn K cdSg "signs" = true)
    (kSg : PySem.W.keepIn K (.ref fSg) = true)
    (aIn : PySem.W.nsIn K mainGlobals "is_name" = some (some (.ref fIn)))
    (lIn : K.lookup fIn = some ⟨ocIn, odIn, .func (PySem.W.fnOf "is_name" "is_name" (defArgs sIsName) (defBody sIsName) (defScope sIsName) .none kVIn dcIn pmIn anIn cdIn ctIn), slIn⟩)
    (cIn : PySem.W.codeIn K cdIn "is_name" = true)
    (kIn : PySem.W.keepIn K (.ref fIn) = true)
    (aFt : PySem.W.nsIn K mainGlobals "fits" = some (some (.ref fFt)))
    (lFt : K.lookup fFt = some ⟨ocFt, odFt, .func (PySem.W.fnOf "fits" "fits" (defArgs sFits) (defBody sFits) (defScope sFits) .none kVFt dcFt pmFt anFt cdFt ctFt), slFt⟩)
    (cFt : PySem.W.codeIn K cdFt "fits" = true)
    (kFt : PySem.W.keepIn K (.ref fFt) = true)
    (aHf : PySem.W.nsIn K mainGlobals "has_form" = some (some (.ref fHf)))
    (lHf : K.lookup fHf = some ⟨ocHf, odHf, .func (PySem.W.fnOf "has_form" "has_form" (defArgs sHasForm) (defBody sHasForm) (defScope sHasForm) .none kVHf dcHf pmHf anHf cdHf ctHf), slHf⟩)
    (cHf : PySem.W.codeIn K cdHf "has_form" = true)
    (kHf : PySem.W.keepIn K (.ref fHf) = true)
    (aRi : PySem.W.nsIn K mainGlobals "rows_in" = some (some (.ref fRi)))
    (lRi : K.lookup fRi = some ⟨ocRi, odRi, .func (PySem.W.fnOf "rows_in" "rows_in" (defArgs sRowsIn) (defBody sRowsIn) (defScope sRowsIn) .none kVRi dcRi pmRi anRi cdRi ctRi), slRi⟩)
    (cRi : PySem.W.codeIn K cdRi "rows_in" = true)
    (kRi : PySem.W.keepIn K (.ref fRi) = true)
    (aLk : PySem.W.nsIn K mainGlobals "look_through" = some (some (.ref fLk)))
    (lLk : K.lookup fLk = some ⟨ocLk, odLk, .func (PySem.W.fnOf "look_through" "look_through" (defArgs sLook) (defBody sLook) (defScope sLook) .none kVLk dcLk pmLk anLk cdLk ctLk), slLk⟩)
    (cLk : PySem.W.codeIn K cdLk "look_through" = true)
    (kLk : PySem.W.keepIn K (.ref fLk) = true)
    (aLy : PySem.W.nsIn K mainGlobals "lay_out" = some (some (.ref fLy)))
    (lLy : K.lookup fLy = some ⟨ocLy, odLy, .func (PySem.W.fnOf "lay_out" "lay_out" (defArgs sLay) (defBody sLay) (defScope sLay) .none kVLy dcLy pmLy anLy cdLy ctLy), slLy⟩)
    (cLy : PySem.W.codeIn K cdLy "lay_out" = true)
    (kLy : PySem.W.keepIn K (.ref fLy) = true)
    (aNu : PySem.W.nsIn K mainGlobals "number" = some (some (.ref fNu)))
    (lNu : K.lookup fNu = some ⟨ocNu, odNu, .func (PySem.W.fnOf "number" "number" (defArgs sNumber) (defBody sNumber) (defScope sNumber) .none kVNu dcNu pmNu anNu cdNu ctNu), slNu⟩)
    (cNu : PySem.W.codeIn K cdNu "number" = true)
    (kNu : PySem.W.keepIn K (.ref fNu) = true)
    (aRo : PySem.W.nsIn K mainGlobals "row" = some (some (.ref fRo)))
    (lRo : K.lookup fRo = some ⟨ocRo, odRo, .func (PySem.W.fnOf "row" "row" (defArgs sRow) (defBody sRow) (defScope sRow) .none kVRo dcRo pmRo anRo cdRo ctRo), slRo⟩)
    (cRo : PySem.W.codeIn K cdRo "row" = true)
    (kRo : PySem.W.keepIn K (.ref fRo) = true)
    (aCo : PySem.W.nsIn K mainGlobals "code_of" = some (some (.ref fCo)))
    (lCo : K.lookup fCo = some ⟨ocCo, odCo, .func (PySem.W.fnOf "code_of" "code_of" (defArgs sCodeOf) (defBody sCodeOf) (defScope sCodeOf) .none kVCo dcCo pmCo anCo cdCo ctCo), slCo⟩)
    (cCo : PySem.W.codeIn K cdCo "code_of" = true)
    (kCo : PySem.W.keepIn K (.ref fCo) = true)
    (aRc : PySem.W.nsIn K mainGlobals "row_code" = some (some (.ref fRc)))
    (lRc : K.lookup fRc = some ⟨ocRc, odRc, .func (PySem.W.fnOf "row_code" "row_code" (defArgs sRowC) (defBody sRowC) (defScope sRowC) .none kVRc dcRc pmRc anRc cdRc ctRc), slRc⟩)
    (cRc : PySem.W.codeIn K cdRc "row_code" = true)
    (kRc : PySem.W.keepIn K (.ref fRc) = true)
    (aDc : PySem.W.nsIn K mainGlobals "deed_code" = some (some (.ref fDc)))
    (lDc : K.lookup fDc = some ⟨ocDc, odDc, .func (PySem.W.fnOf "deed_code" "deed_code" (defArgs sDeedC) (defBody sDeedC) (defScope sDeedC) .none kVDc dcDc pmDc anDc cdDc ctDc), slDc⟩)
    (cDc : PySem.W.codeIn K cdDc "deed_code" = true)
    (kDc : PySem.W.keepIn K (.ref fDc) = true)
    (aPc : PySem.W.nsIn K mainGlobals "part_code" = some (some (.ref fPc)))
    (lPc : K.lookup fPc = some ⟨ocPc, odPc, .func (PySem.W.fnOf "part_code" "part_code" (defArgs sPartC) (defBody sPartC) (defScope sPartC) .none kVPc dcPc pmPc anPc cdPc ctPc), slPc⟩)
    (cPc : PySem.W.codeIn K cdPc "part_code" = true)
    (kPc : PySem.W.keepIn K (.ref fPc) = true)
    (aCn : PySem.W.nsIn K mainGlobals "counted" = some (some (.ref fCn)))
    (lCn : K.lookup fCn = some ⟨ocCn, odCn, .func (PySem.W.fnOf "counted" "counted" (defArgs sCounted) (defBody sCounted) (defScope sCounted) .none kVCn dcCn pmCn anCn cdCn ctCn), slCn⟩)
    (cCn : PySem.W.codeIn K cdCn "counted" = true)
    (kCn : PySem.W.keepIn K (.ref fCn) = true)
    (aPp : PySem.W.nsIn K mainGlobals "parts" = some (some (.ref fPp)))
    (lPp : K.lookup fPp = some ⟨ocPp, odPp, .func (PySem.W.fnOf "parts" "parts" (defArgs sParts) (defBody sParts) (defScope sParts) .none kVPp dcPp pmPp anPp cdPp ctPp), slPp⟩)
    (cPp : PySem.W.codeIn K cdPp "parts" = true)
    (kPp : PySem.W.keepIn K (.ref fPp) = true)
    (aPo : PySem.W.nsIn K mainGlobals "program_of" = some (some (.ref fPo)))
    (lPo : K.lookup fPo = some ⟨ocPo, odPo, .func (PySem.W.fnOf "program_of" "program_of" (defArgs sProgOf) (defBody sProgOf) (defScope sProgOf) .none kVPo dcPo pmPo anPo cdPo ctPo), slPo⟩)
    (cPo : PySem.W.codeIn K cdPo "program_of" = true)
    (kPo : PySem.W.keepIn K (.ref fPo) = true)
    (aOt : PySem.W.nsIn K mainGlobals "row_told" = some (some (.ref fOt)))
    (lOt : K.lookup fOt = some ⟨ocOt, odOt, .func (PySem.W.fnOf "row_told" "row_told" (defArgs sRowT) (defBody sRowT) (defScope sRowT) .none kVOt dcOt pmOt anOt cdOt ctOt), slOt⟩)
    (cOt : PySem.W.codeIn K cdOt "row_told" = true)
    (kOt : PySem.W.keepIn K (.ref fOt) = true)
    (aDt : PySem.W.nsIn K mainGlobals "deed_told" = some (some (.ref fDt)))
    (lDt : K.lookup fDt = some ⟨ocDt, odDt, .func (PySem.W.fnOf "deed_told" "deed_told" (defArgs sDeedT) (defBody sDeedT) (defScope sDeedT) .none kVDt dcDt pmDt anDt cdDt ctDt), slDt⟩)
    (cDt : PySem.W.codeIn K cdDt "deed_told" = true)
    (kDt : PySem.W.keepIn K (.ref fDt) = true)
    (aKt : PySem.W.nsIn K mainGlobals "kind_told" = some (some (.ref fKt)))
    (lKt : K.lookup fKt = some ⟨ocKt, odKt, .func (PySem.W.fnOf "kind_told" "kind_told" (defArgs sKindT) (defBody sKindT) (defScope sKindT) .none kVKt dcKt pmKt anKt cdKt ctKt), slKt⟩)
    (cKt : PySem.W.codeIn K cdKt "kind_told" = true)
    (kKt : PySem.W.keepIn K (.ref fKt) = true)
    (aPt : PySem.W.nsIn K mainGlobals "part_told" = some (some (.ref fPt)))
    (lPt : K.lookup fPt = some ⟨ocPt, odPt, .func (PySem.W.fnOf "part_told" "part_told" (defArgs sPartT) (defBody sPartT) (defScope sPartT) .none kVPt dcPt pmPt anPt cdPt ctPt), slPt⟩)
    (cPt : PySem.W.codeIn K cdPt "part_told" = true)
    (kPt : PySem.W.keepIn K (.ref fPt) = true)
    (aIc : PySem.W.nsIn K mainGlobals "is_code" = some (some (.ref fIc)))
    (lIc : K.lookup fIc = some ⟨ocIc, odIc, .func (PySem.W.fnOf "is_code" "is_code" (defArgs sIsCode) (defBody sIsCode) (defScope sIsCode) .none kVIc dcIc pmIc anIc cdIc ctIc), slIc⟩)
    (cIc : PySem.W.codeIn K cdIc "is_code" = true)
    (kIc : PySem.W.keepIn K (.ref fIc) = true)
    (aRe : PySem.W.nsIn K mainGlobals "read_thing" = some (some (.ref fRe)))
    (lRe : K.lookup fRe = some ⟨ocRe, odRe, .func (PySem.W.fnOf "read_thing" "read_thing" (defArgs sRead) (defBody sRead) (defScope sRead) .none kVRe dcRe pmRe anRe cdRe ctRe), slRe⟩)
    (cRe : PySem.W.codeIn K cdRe "read_thing" = true)
    (kRe : PySem.W.keepIn K (.ref fRe) = true)
    (aWh : PySem.W.nsIn K mainGlobals "is_whole" = some (some (.ref fWh)))
    (lWh : K.lookup fWh = some ⟨ocWh, odWh, .func (PySem.W.fnOf "is_whole" "is_whole" (defArgs sWhole) (defBody sWhole) (defScope sWhole) .none kVWh dcWh pmWh anWh cdWh ctWh), slWh⟩)
    (cWh : PySem.W.codeIn K cdWh "is_whole" = true)
    (kWh : PySem.W.keepIn K (.ref fWh) = true)
    (aDu : PySem.W.nsIn K mainGlobals "signs_due" = some (some (.ref fDu)))
    (lDu : K.lookup fDu = some ⟨ocDu, odDu, .func (PySem.W.fnOf "signs_due" "signs_due" (defArgs sDue) (defBody sDue) (defScope sDue) .none kVDu dcDu pmDu anDu cdDu ctDu), slDu⟩)
    (cDu : PySem.W.codeIn K cdDu "signs_due" = true)
    (kDu : PySem.W.keepIn K (.ref fDu) = true)
    (aBa : PySem.W.nsIn K mainGlobals "_law_bag" = some (some (.ref fBa)))
    (lBa : K.lookup fBa = some ⟨ocBa, odBa, .func (PySem.W.fnOf "_law_bag" "_law_bag" (defArgs sBag) (defBody sBag) (defScope sBag) .none kVBa dcBa pmBa anBa cdBa ctBa), slBa⟩)
    (cBa : PySem.W.codeIn K cdBa "_law_bag" = true)
    (kBa : PySem.W.keepIn K (.ref fBa) = true)
    (aTa : PySem.W.nsIn K mainGlobals "_law_take" = some (some (.ref fTa)))
    (lTa : K.lookup fTa = some ⟨ocTa, odTa, .func (PySem.W.fnOf "_law_take" "_law_take" (defArgs sTake) (defBody sTake) (defScope sTake) .none kVTa dcTa pmTa anTa cdTa ctTa), slTa⟩)
    (cTa : PySem.W.codeIn K cdTa "_law_take" = true)
    (kTa : PySem.W.keepIn K (.ref fTa) = true)
    (aTh : PySem.W.nsIn K mainGlobals "_law_thing" = some (some (.ref fTh)))
    (lTh : K.lookup fTh = some ⟨ocTh, odTh, .func (PySem.W.fnOf "_law_thing" "_law_thing" (defArgs sThing) (defBody sThing) (defScope sThing) .none kVTh dcTh pmTh anTh cdTh ctTh), slTh⟩)
    (cTh : PySem.W.codeIn K cdTh "_law_thing" = true)
    (kTh : PySem.W.keepIn K (.ref fTh) = true)
    (aNa : PySem.W.nsIn K mainGlobals "_law_name" = some (some (.ref fNa)))
    (lNa : K.lookup fNa = some ⟨ocNa, odNa, .func (PySem.W.fnOf "_law_name" "_law_name" (defArgs sName) (defBody sName) (defScope sName) .none kVNa dcNa pmNa anNa cdNa ctNa), slNa⟩)
    (cNa : PySem.W.codeIn K cdNa "_law_name" = true)
    (kNa : PySem.W.keepIn K (.ref fNa) = true)
    (aDe : PySem.W.nsIn K mainGlobals "_law_deed" = some (some (.ref fDe)))
    (lDe : K.lookup fDe = some ⟨ocDe, odDe, .func (PySem.W.fnOf "_law_deed" "_law_deed" (defArgs sDeed) (defBody sDeed) (defScope sDeed) .none kVDe dcDe pmDe anDe cdDe ctDe), slDe⟩)
    (cDe : PySem.W.codeIn K cdDe "_law_deed" = true)
    (kDe : PySem.W.keepIn K (.ref fDe) = true)
    (aDs : PySem.W.nsIn K mainGlobals "_law_deeds" = some (some (.ref fDs)))
    (lDs : K.lookup fDs = some ⟨ocDs, odDs, .func (PySem.W.fnOf "_law_deeds" "_law_deeds" (defArgs sDeeds) (defBody sDeeds) (defScope sDeeds) .none kVDs dcDs pmDs anDs cdDs ctDs), slDs⟩)
    (cDs : PySem.W.codeIn K cdDs "_law_deeds" = true)
    (kDs : PySem.W.keepIn K (.ref fDs) = true)
    (aTo : PySem.W.nsIn K mainGlobals "_law_top" = some (some (.ref fTo)))
    (lTo : K.lookup fTo = some ⟨ocTo, odTo, .func (PySem.W.fnOf "_law_top" "_law_top" (defArgs sTop) (defBody sTop) (defScope sTop) .none kVTo dcTo pmTo anTo cdTo ctTo), slTo⟩)
    (cTo : PySem.W.codeIn K cdTo "_law_top" = true)
    (kTo : PySem.W.keepIn K (.ref fTo) = true)
    (aXhx : PySem.W.nsIn K mainGlobals "_law_head" = some (some (.ref fXhx)))
    (lXhx : K.lookup fXhx = some ⟨ocXhx, odXhx, .func (PySem.W.fnOf "_law_head" "_law_head" (defArgs sHeadX) (defBody sHeadX) (defScope sHeadX) .none kVXhx dcXhx pmXhx anXhx cdXhx ctXhx), slXhx⟩)
    (cXhx : PySem.W.codeIn K cdXhx "_law_head" = true)
    (kXhx : PySem.W.keepIn K (.ref fXhx) = true)
    (aXtx : PySem.W.nsIn K mainGlobals "_law_tail" = some (some (.ref fXtx)))
    (lXtx : K.lookup fXtx = some ⟨ocXtx, odXtx, .func (PySem.W.fnOf "_law_tail" "_law_tail" (defArgs sTailX) (defBody sTailX) (defScope sTailX) .none kVXtx dcXtx pmXtx anXtx cdXtx ctXtx), slXtx⟩)
    (cXtx : PySem.W.codeIn K cdXtx "_law_tail" = true)
    (kXtx : PySem.W.keepIn K (.ref fXtx) = true)
    (aXnt : PySem.W.nsIn K mainGlobals "_law_number_text" = some (some (.ref fXnt)))
    (lXnt : K.lookup fXnt = some ⟨ocXnt, odXnt, .func (PySem.W.fnOf "_law_number_text" "_law_number_text" (defArgs sNt16) (defBody sNt16) (defScope sNt16) .none kVXnt dcXnt pmXnt anXnt cdXnt ctXnt), slXnt⟩)
    (cXnt : PySem.W.codeIn K cdXnt "_law_number_text" = true)
    (kXnt : PySem.W.keepIn K (.ref fXnt) = true)
    (aXrt : PySem.W.nsIn K mainGlobals "_law_row_text" = some (some (.ref fXrt)))
    (lXrt : K.lookup fXrt = some ⟨ocXrt, odXrt, .func (PySem.W.fnOf "_law_row_text" "_law_row_text" (defArgs sRowText) (defBody sRowText) (defScope sRowText) .none kVXrt dcXrt pmXrt anXrt cdXrt ctXrt), slXrt⟩)
    (cXrt : PySem.W.codeIn K cdXrt "_law_row_text" = true)
    (kXrt : PySem.W.keepIn K (.ref fXrt) = true)
    (aXlc : PySem.W.nsIn K mainGlobals "_law_code" = some (some (.ref fXlc)))
    (lXlc : K.lookup fXlc = some ⟨ocXlc, odXlc, .func (PySem.W.fnOf "_law_code" "_law_code" (defArgs sLc16) (defBody sLc16) (defScope sLc16) .none kVXlc dcXlc pmXlc anXlc cdXlc ctXlc), slXlc⟩)
    (cXlc : PySem.W.codeIn K cdXlc "_law_code" = true)
    (kXlc : PySem.W.keepIn K (.ref fXlc) = true)
    (aXlp : PySem.W.nsIn K mainGlobals "_law_parts" = some (some (.ref fXlp)))
    (lXlp : K.lookup fXlp = some ⟨ocXlp, odXlp, .func (PySem.W.fnOf "_law_parts" "_law_parts" (defArgs sLParts) (defBody sLParts) (defScope sLParts) .none kVXlp dcXlp pmXlp anXlp cdXlp ctXlp), slXlp⟩)
    (cXlp : PySem.W.codeIn K cdXlp "_law_parts" = true)
    (kXlp : PySem.W.keepIn K (.ref fXlp) = true)
    (aXnu : PySem.W.nsIn K mainGlobals "_law_number" = some (some (.ref fXnu)))
    (lXnu : K.lookup fXnu = some ⟨ocXnu, odXnu, .func (PySem.W.fnOf "_law_number" "_law_number" (defArgs sNu17) (defBody sNu17) (defScope sNu17) .none kVXnu dcXnu pmXnu anXnu cdXnu ctXnu), slXnu⟩)
    (cXnu : PySem.W.codeIn K cdXnu "_law_number" = true)
    (kXnu : PySem.W.keepIn K (.ref fXnu) = true)
    (aXdw : PySem.W.nsIn K mainGlobals "_law_deed_wrong" = some (some (.ref fXdw)))
    (lXdw : K.lookup fXdw = some ⟨ocXdw, odXdw, .func (PySem.W.fnOf "_law_deed_wrong" "_law_deed_wrong" (defArgs sDw17) (defBody sDw17) (defScope sDw17) .none kVXdw dcXdw pmXdw anXdw cdXdw ctXdw), slXdw⟩)
    (cXdw : PySem.W.codeIn K cdXdw "_law_deed_wrong" = true)
    (kXdw : PySem.W.keepIn K (.ref fXdw) = true)
    (aXwr : PySem.W.nsIn K mainGlobals "_law_wrong" = some (some (.ref fXwr)))
    (lXwr : K.lookup fXwr = some ⟨ocXwr, odXwr, .func (PySem.W.fnOf "_law_wrong" "_law_wrong" (defArgs sWr17) (defBody sWr17) (defScope sWr17) .none kVXwr dcXwr pmXwr anXwr cdXwr ctXwr), slXwr⟩)
    (cXwr : PySem.W.codeIn K cdXwr "_law_wrong" = true)
    (kXwr : PySem.W.keepIn K (.ref fXwr) = true)
    (aXbe : PySem.W.nsIn K mainGlobals "_law_bent" = some (some (.ref fXbe)))
    (lXbe : K.lookup fXbe = some ⟨ocXbe, odXbe, .func (PySem.W.fnOf "_law_bent" "_law_bent" (defArgs sBe17) (defBody sBe17) (defScope sBe17) .none kVXbe dcXbe pmXbe anXbe cdXbe ctXbe), slXbe⟩)
    (cXbe : PySem.W.codeIn K cdXbe "_law_bent" = true)
    (kXbe : PySem.W.keepIn K (.ref fXbe) = true)
    (aXto : PySem.W.nsIn K mainGlobals "_law_tail_of" = some (some (.ref fXto)))
    (lXto : K.lookup fXto = some ⟨ocXto, odXto, .func (PySem.W.fnOf "_law_tail_of" "_law_tail_of" (defArgs sTo17) (defBody sTo17) (defScope sTo17) .none kVXto dcXto pmXto anXto cdXto ctXto), slXto⟩)
    (cXto : PySem.W.codeIn K cdXto "_law_tail_of" = true)
    (kXto : PySem.W.keepIn K (.ref fXto) = true)
    (aXrw : PySem.W.nsIn K mainGlobals "_law_raw" = some (some (.ref fXrw)))
    (lXrw : K.lookup fXrw = some ⟨ocXrw, odXrw, .func (PySem.W.fnOf "_law_raw" "_law_raw" (defArgs sRw17) (defBody sRw17) (defScope sRw17) .none kVXrw dcXrw pmXrw anXrw cdXrw ctXrw), slXrw⟩)
    (cXrw : PySem.W.codeIn K cdXrw "_law_raw" = true)
    (kXrw : PySem.W.keepIn K (.ref fXrw) = true)
    (aXtf : PySem.W.nsIn K mainGlobals "_law_two_faults" = some (some (.ref fXtf)))
    (lXtf : K.lookup fXtf = some ⟨ocXtf, odXtf, .func (PySem.W.fnOf "_law_two_faults" "_law_two_faults" (defArgs sTf17) (defBody sTf17) (defScope sTf17) .none kVXtf dcXtf pmXtf anXtf cdXtf ctXtf), slXtf⟩)
    (cXtf : PySem.W.codeIn K cdXtf "_law_two_faults" = true)
    (kXtf : PySem.W.keepIn K (.ref fXtf) = true)
    (aXtl : PySem.W.nsIn K mainGlobals "_law_tall" = some (some (.ref fXtl)))
    (lXtl : K.lookup fXtl = some ⟨ocXtl, odXtl, .func (PySem.W.fnOf "_law_tall" "_law_tall" (defArgs sTl17) (defBody sTl17) (defScope sTl17) .none kVXtl dcXtl pmXtl anXtl cdXtl ctXtl), slXtl⟩)
    (cXtl : PySem.W.codeIn K cdXtl "_law_tall" = true)
    (kXtl : PySem.W.keepIn K (.ref fXtl) = true)
    (aXgd : PySem.W.nsIn K mainGlobals "_law_good" = some (some (.ref fXgd)))
    (lXgd : K.lookup fXgd = some ⟨ocXgd, odXgd, .func (PySem.W.fnOf "_law_good" "_law_good" (defArgs sGood17) (defBody sGood17) (defScope sGood17) .none kVXgd dcXgd pmXgd anXgd cdXgd ctXgd), slXgd⟩)
    (cXgd : PySem.W.codeIn K cdXgd "_law_good" = true)
    (kXgd : PySem.W.keepIn K (.ref fXgd) = true)
    (aLaw : PySem.W.nsIn K mainGlobals "law" = some (some (.ref fLaw)))
    (lLaw : K.lookup fLaw = some ⟨ocLaw, odLaw, .func (PySem.W.fnOf "law" "law" (defArgs sLaw) (defBody sLaw) (defScope sLaw) .none kVLaw dcLaw pmLaw anLaw cdLaw ctLaw), slLaw⟩)
    (cLaw : PySem.W.codeIn K cdLaw "law" = true)
    (kLaw : PySem.W.keepIn K (.ref fLaw) = true)
    (aP : PySem.W.nsIn K mainGlobals "Program" = some (some (.ref CP)))
    (pgP : PySem.W.plainGet K CP Str.empty = true)
    (hdP : PySem.W.hasDictIn K CP = true)
    (poP : PySem.W.plainOver K CP = true)
    (saP : PySem.W.findIn K (.ref CP) "__setattr__" = some (some (.builtin "object.__setattr__")))
    (mkCP : PySem.W.makesIn K CP = true)
    (kcP : PySem.W.keepIn K (.ref CP) = true)
    (nDP : PySem.W.findIn K (.ref CP) "deeds" = some none)
    (nPP : PySem.W.findIn K (.ref CP) "plan" = some none)
    (caP : PySem.W.findIn K (.ref CP) "__class__" = some (some (.builtin "object.__class__")))
    (cmP : PySem.W.mroIn K CP (.type "object") = some true)
    (neP : PySem.W.findIn K (.ref CP) "__ne__" = some (some (.builtin "object.__ne__")))
    (aFm : PySem.W.nsIn K mainGlobals "FORMS" = some (some (.ref dF)))
    (lFm : K.lookup dF = some ⟨.type "dict", none, .dict esF nFm, #[]⟩)
    (litF : PySem.W.KeysLit w.params esF.toList)
    (lowF : (dF == sysModules) = false)
    (aN1 : PySem.W.nsIn K mainGlobals "MANY_NAMES" = some (some (.int 10 tN1)))
    (aN2 : PySem.W.nsIn K mainGlobals "MOST_DEEDS" = some (some (.int 4000 tN2)))
    (aN3 : PySem.W.nsIn K mainGlobals "MOST_FLOORS" = some (some (.int 8 tN3)))
    (kii : PySem.W.kitOne K (.type "int") (.type "int") = some true)
    (kib : PySem.W.kitOne K (.type "int") (.type "bool") = some false)
    (ktt : PySem.W.kitOne K (.type "tuple") (.type "tuple") = some true)
    (kss : PySem.W.kitOne K (.type "str") (.type "str") = some true)
    (fm0 : PySem.W.nsIn K dF "told" = some (some (.str "nt" tf0)))
    (fm1 : PySem.W.nsIn K dF "first" = some (some (.str "nn" tf1)))
    (fm2 : PySem.W.nsIn K dF "second" = some (some (.str "nn" tf2)))
    (fm3 : PySem.W.nsIn K dF "pair" = some (some (.str "nnn" tf3)))
    (fm4 : PySem.W.nsIn K dF "same" = some (some (.str "nnn" tf4)))
    (fm5 : PySem.W.nsIn K dF "while" = some (some (.str "nr" tf5)))
    (fm6 : PySem.W.nsIn K dF "if" = some (some (.str "nrr" tf6)))
    (aPI : PySem.W.findIn K (.ref CP) "__init__" = some (some (.ref fPI)))
    (iPI : PySem.W.isFn K (.ref fPI) = true)
    (lPI : K.lookup fPI = some ⟨ocPI, odPI, .func (PySem.W.fnOf "__init__" "Program.__init__" (defArgs sPInit) (defBody sPInit) (defScope sPInit) .none kVPI dcPI pmPI anPI cdPI ctPI), slPI⟩)
    (cPI : PySem.W.codeIn K cdPI "Program.__init__" = true)
    (kPI : PySem.W.keepIn K (.ref fPI) = true)
    (aPL : PySem.W.findIn K (.ref CP) "__len__" = some (some (.ref fPL)))
    (iPL : PySem.W.isFn K (.ref fPL) = true)
    (lPL : K.lookup fPL = some ⟨ocPL, odPL, .func (PySem.W.fnOf "__len__" "Program.__len__" (defArgs sPLen) (defBody sPLen) (defScope sPLen) .none kVPL dcPL pmPL anPL cdPL ctPL), slPL⟩)
    (cPL : PySem.W.codeIn K cdPL "Program.__len__" = true)
    (kPL : PySem.W.keepIn K (.ref fPL) = true)
    (aPE : PySem.W.findIn K (.ref CP) "__eq__" = some (some (.ref fPE)))
    (iPE : PySem.W.isFn K (.ref fPE) = true)
    (lPE : K.lookup fPE = some ⟨ocPE, odPE, .func (PySem.W.fnOf "__eq__" "Program.__eq__" (defArgs sPEq) (defBody sPEq) (defScope sPEq) .none kVPE dcPE pmPE anPE cdPE ctPE), slPE⟩)
    (cPE : PySem.W.codeIn K cdPE "Program.__eq__" = true)
    (kPE : PySem.W.keepIn K (.ref fPE) = true)
    (aN : PySem.W.nsIn K mainGlobals "TooGreat" = some (some (.ref N)))
    (xN : K.lookup N = some (excClassObj nmN qN N NN bsN [.type "OverflowError", .type "ArithmeticError", .type "Exception", .type "BaseException", .type "object"] true snN subN abN colN ddN m0N m1N m2N m3N m5N "OverflowError.__new__"))
    (ovN : PySem.W.excOver K N [.type "OverflowError", .type "ArithmeticError", .type "Exception", .type "BaseException", .type "object"] = true)
    (saN : PySem.W.findIn K (.ref N) "__setattr__" = some (some (.builtin "object.__setattr__")))
    (exN : PySem.W.subIn K (.ref N) (.type "BaseException") = some true)
    (tyN : PySem.W.typeIn K (.ref N) = some (.type "type"))
    (kN : PySem.W.keepIn K (.ref N) = true)
    (plN : PySem.W.findIn K (.ref N) "bound" = some none)
    (vV : PySem.W.findCls K (.type "OverflowError") (.type "type") "__init__" = some (.val (.builtin "OverflowError.__init__")))
    (iN : PySem.W.findIn K (.ref N) "__init__" = some (some (.ref fN)))
    (tfN : PySem.W.typeIn K (.ref fN) = some (.type "function"))
    (lN : K.lookup fN = some ⟨ocN, odN, .func (PySem.W.fnOf "__init__" "TooGreat.__init__" (defArgs sTg) (defBody sTg) (defScope sTg) .none kVN dcN pmN anN cdN ctN), slN⟩)
    (cN : PySem.W.codeIn K cdN "TooGreat.__init__" = true)
    (kfN : PySem.W.keepIn K (.ref fN) = true)
    (hdN : PySem.W.hasDictIn K N = true)
    (scN : PySem.W.subIn K (.ref N) (.ref N) = some true)
    (aZ : PySem.W.nsIn K mainGlobals "NoProgram" = some (some (.ref NP)))
    (xZ : K.lookup NP = some (excClassObj nmZ qZ NP NZ bsZ [.type "ValueError", .type "Exception", .type "BaseException", .type "object"] true snZ subZ abZ colZ ddZ m0Z m1Z m2Z m3Z m5Z "ValueError.__new__"))
    (ovZ : PySem.W.excOver K NP [.type "ValueError", .type "Exception", .type "BaseException", .type "object"] = true)
    (saZ : PySem.W.findIn K (.ref NP) "__setattr__" = some (some (.builtin "object.__setattr__")))
    (exZ : PySem.W.subIn K (.ref NP) (.type "BaseException") = some true)
    (tyZ : PySem.W.typeIn K (.ref NP) = some (.type "type"))
    (kZ : PySem.W.keepIn K (.ref NP) = true)
    (plZ : PySem.W.findIn K (.ref NP) "place" = some none)
    (vVZ : PySem.W.findCls K (.type "ValueError") (.type "type") "__init__" = some (.val (.builtin "ValueError.__init__")))
    (iZ : PySem.W.findIn K (.ref NP) "__init__" = some (some (.ref fZ)))
    (tfZ : PySem.W.typeIn K (.ref fZ) = some (.type "function"))
    (lZ : K.lookup fZ = some ⟨ocZ, odZ, .func (PySem.W.fnOf "__init__" "NoProgram.__init__" (defArgs sNp) (defBody sNp) (defScope sNp) .none kVZ dcZ pmZ anZ cdZ ctZ), slZ⟩)
    (cZ : PySem.W.codeIn K cdZ "NoProgram.__init__" = true)
    (kfZ : PySem.W.keepIn K (.ref fZ) = true)
    (hdZ : PySem.W.hasDictIn K NP = true)
    (scZ : PySem.W.subIn K (.ref NP) (.ref NP) = some true)
    (kni : PySem.W.kitOne K (.type "NoneType") (.type "int") = some false)
    (kyF : KyL formKs esF.toList)
    (kCi : PySem.W.kitOne K (.ref C) (.type "int") = some false)
    (kCt : PySem.W.kitOne K (.ref C) (.type "tuple") = some false)
    (kbb : PySem.W.kitOne K (.type "bool") (.type "bool") = some true)
    (gaZ : PySem.W.findIn K (.ref NP) "__getattribute__" = some (some (.builtin "BaseException.__getattribute__")))
    (ggZ : PySem.W.findIn K (.ref NP) "__getattr__" = some none)
    (icZ : PySem.W.isClsIn K NP = true)
    (caZ : PySem.W.findIn K (.ref NP) "__class__" = some (some (.builtin "object.__class__")))
    (cmZ : PySem.W.mroIn K NP (.type "object") = some true)
    (oz1 : PySem.W.nsIn K mainGlobals "NoName" = some (some (.ref n1)))
    (oz2 : PySem.W.nsIn K mainGlobals "NoRoom" = some (some (.ref n2)))
    (oz3 : PySem.W.nsIn K mainGlobals "NoSaying" = some (some (.ref n3)))
    (oz4 : PySem.W.nsIn K mainGlobals "NoStep" = some (some (.ref n4)))
    (oz5 : PySem.W.nsIn K mainGlobals "NoText" = some (some (.ref n5)))
    (kaZ : PySem.W.kitAny K (.ref NP) [.ref n1, .ref n2, .ref n3, .ref n4, .ref n5, .ref N] = some false)
    (z_len : PySem.W.nsIn K mainGlobals "len" = some none)
    (z_range : PySem.W.nsIn K mainGlobals "range" = some none)
    (z_isinstance : PySem.W.nsIn K mainGlobals "isinstance" = some none)
    (z_abs : PySem.W.nsIn K mainGlobals "abs" = some none)
    (z_int : PySem.W.nsIn K mainGlobals "int" = some none)
    (z_str : PySem.W.nsIn K mainGlobals "str" = some none)
    (z_max : PySem.W.nsIn K mainGlobals "max" = some none)
    (z_min : PySem.W.nsIn K mainGlobals "min" = some none)
    (z_all : PySem.W.nsIn K mainGlobals "all" = some none)
    (z_bool : PySem.W.nsIn K mainGlobals "bool" = some none)
    (z_tuple : PySem.W.nsIn K mainGlobals "tuple" = some none)
    (z_zip : PySem.W.nsIn K mainGlobals "zip" = some none)
    (z_enumerate : PySem.W.nsIn K mainGlobals "enumerate" = some none)
    (z_list : PySem.W.nsIn K mainGlobals "list" = some none)
    (z_OverflowError : PySem.W.nsIn K mainGlobals "OverflowError" = some none)
    (z_reversed : PySem.W.nsIn K mainGlobals "reversed" = some none)
    (z_ValueError : PySem.W.nsIn K mainGlobals "ValueError" = some none)
    (z_any : PySem.W.nsIn K mainGlobals "any" = some none)
    : ∃ fd : FuncData, (∀ (s : Shared) (v : Value), BindsTo s fd ⟨[v], []⟩ [("_law_script", v)]) ∧ ∀ base : Heap, K.In base → base.Ns mainGlobals mg → FnOk P w K mg base CX0 37 fa fd ["_law_script"] (spLaw K) := by
  have e := hfa.symm.trans (PySem.W.mg_of X G aLaw)
  cases e
  have FEq := fun_mk (st := sEq) lEq cEq kEq
  have bEq := FEq.binds (ps := ["self", "other"]) fun _ _ _ _ _ _ us hl => match us, hl with | [_, _], _ => rfl
  have FSt := fun_mk (st := sStr) lSt cSt kSt
  have bSt := FSt.binds (ps := ["self"]) fun _ _ _ _ _ _ us hl => match us, hl with | [_], _ => rfl
  have FPa := fun_mk (st := sPairs) lPa cPa kPa
  have bPa := FPa.binds (ps := ["first", "second"]) fun _ _ _ _ _ _ us hl => match us, hl with | [_, _], _ => rfl
  have FAl := fun_mk (st := sAlike) lAl cAl kAl
  have bAl := FAl.binds (ps := ["one", "other"]) fun _ _ _ _ _ _ us hl => match us, hl with | [_, _], _ => rfl
  have FSg := fun_mk (st := sSigns) lSg cSg kSg
  have bSg := FSg.binds (ps := ["thing"]) fun _ _ _ _ _ _ us hl => match us, hl with | [_], _ => rfl
  have FIn := fun_mk (st := sIsName) lIn cIn kIn
  have bIn := FIn.binds (ps := ["part"]) fun _ _ _ _ _ _ us hl => match us, hl with | [_], _ => rfl
  have FFt := fun_mk (st := sFits) lFt cFt kFt
  have bFt := FFt.binds (ps := ["part", "sign"]) fun _ _ _ _ _ _ us hl => match us, hl with | [_, _], _ => rfl
  have FHf := fun_mk (st := sHasForm) lHf cHf kHf
  have bHf := FHf.binds (ps := ["deed"]) fun _ _ _ _ _ _ us hl => match us, hl with | [_], _ => rfl
  have FRi := fun_mk (st := sRowsIn) lRi cRi kRi
  have bRi := FRi.binds (ps := ["deed"]) fun _ _ _ _ _ _ us hl => match us, hl with | [_], _ => rfl
  have FLk := fun_mk (st := sLook) lLk cLk kLk
  have bLk := FLk.binds (ps := ["row", "floors", "ends"]) fun _ _ _ _ _ _ us hl => match us, hl with | [_, _, _], _ => rfl
  have FLy := fun_mk (st := sLay) lLy cLy kLy
  have bLy := FLy.binds (ps := ["row", "behind", "ends", "plan"]) fun _ _ _ _ _ _ us hl => match us, hl with | [_, _, _, _], _ => rfl
  have FNu := fun_mk (st := sNumber) lNu cNu kNu
  have bNu := FNu.binds (ps := ["n"]) fun _ _ _ _ _ _ us hl => match us, hl with | [_], _ => rfl
  have FRo := fun_mk (st := sRow) lRo cRo kRo
  have bRo := FRo.binds (ps := ["things"]) fun _ _ _ _ _ _ us hl => match us, hl with | [_], _ => rfl
  have FCo := fun_mk (st := sCodeOf) lCo cCo kCo
  have bCo := FCo.binds (ps := ["program"]) fun _ _ _ _ _ _ us hl => match us, hl with | [_], _ => rfl
  have FRc := fun_mk (st := sRowC) lRc cRc kRc
  have bRc := FRc.binds (ps := ["deeds"]) fun _ _ _ _ _ _ us hl => match us, hl with | [_], _ => rfl
  have FDc := fun_mk (st := sDeedC) lDc cDc kDc
  have bDc := FDc.binds (ps := ["deed"]) fun _ _ _ _ _ _ us hl => match us, hl with | [_], _ => rfl
  have FPc := fun_mk (st := sPartC) lPc cPc kPc
  have bPc := FPc.binds (ps := ["part", "sign"]) fun _ _ _ _ _ _ us hl => match us, hl with | [_, _], _ => rfl
  have FCn := fun_mk (st := sCounted) lCn cCn kCn
  have bCn := FCn.binds (ps := ["thing"]) fun _ _ _ _ _ _ us hl => match us, hl with | [_], _ => rfl
  have FPp := fun_mk (st := sParts) lPp cPp kPp
  have bPp := FPp.binds (ps := ["thing"]) fun _ _ _ _ _ _ us hl => match us, hl with | [_], _ => rfl
  have FPo := fun_mk (st := sProgOf) lPo cPo kPo
  have bPo := FPo.binds (ps := ["thing"]) fun _ _ _ _ _ _ us hl => match us, hl with | [_], _ => rfl
  have FOt := fun_mk (st := sRowT) lOt cOt kOt
  have bOt := FOt.binds (ps := ["thing", "floors"]) fun _ _ _ _ _ _ us hl => match us, hl with | [_, _], _ => rfl
  have FDt := fun_mk (st := sDeedT) lDt cDt kDt
  have bDt := FDt.binds (ps := ["code", "floors"]) fun _ _ _ _ _ _ us hl => match us, hl with | [_, _], _ => rfl
  have FKt := fun_mk (st := sKindT) lKt cKt kKt
  have bKt := FKt.binds (ps := ["told"]) fun _ _ _ _ _ _ us hl => match us, hl with | [_], _ => rfl
  have FPt := fun_mk (st := sPartT) lPt cPt kPt
  have bPt := FPt.binds (ps := ["part", "sign", "floors"]) fun _ _ _ _ _ _ us hl => match us, hl with | [_, _, _], _ => rfl
  have FIc := fun_mk (st := sIsCode) lIc cIc kIc
  have bIc := FIc.binds (ps := ["thing"]) fun _ _ _ _ _ _ us hl => match us, hl with | [_], _ => rfl
  have FRe := fun_mk (st := sRead) lRe cRe kRe
  have bRe := FRe.binds (ps := ["text"]) fun _ _ _ _ _ _ us hl => match us, hl with | [_], _ => rfl
  have FWh := fun_mk (st := sWhole) lWh cWh kWh
  have bWh := FWh.binds (ps := ["levels"]) fun _ _ _ _ _ _ us hl => match us, hl with | [_], _ => rfl
  have FDu := fun_mk (st := sDue) lDu cDu kDu
  have bDu := FDu.binds (ps := ["levels", "begun"]) fun _ _ _ _ _ _ us hl => match us, hl with | [_, _], _ => rfl
  have FBa := fun_mk (st := sBag) lBa cBa kBa
  have bBa := FBa.binds (ps := ["_law_script", "_law_at"]) fun _ _ _ _ _ _ us hl => match us, hl with | [_, _], _ => rfl
  have FTa := fun_mk (st := sTake) lTa cTa kTa
  have bTa := FTa.binds (ps := ["_law_bag_here", "_law_many"]) fun _ _ _ _ _ _ us hl => match us, hl with | [_, _], _ => rfl
  have FTh := fun_mk (st := sThing) lTh cTh kTh
  have bTh := FTh.binds (ps := ["_law_bag_here", "_law_many"]) fun _ _ _ _ _ _ us hl => match us, hl with | [_, _], _ => rfl
  have FNa := fun_mk (st := sName) lNa cNa kNa
  have bNa := FNa.binds (ps := ["_law_bag_here"]) fun _ _ _ _ _ _ us hl => match us, hl with | [_], _ => rfl
  have FDe := fun_mk (st := sDeed) lDe cDe kDe
  have bDe := FDe.binds (ps := ["_law_bag_here", "_law_left", "_law_deep"]) fun _ _ _ _ _ _ us hl => match us, hl with | [_, _, _], _ => rfl
  have FDs := fun_mk (st := sDeeds) lDs cDs kDs
  have bDs := FDs.binds (ps := ["_law_bag_here", "_law_left", "_law_deep"]) fun _ _ _ _ _ _ us hl => match us, hl with | [_, _, _], _ => rfl
  have FTo := fun_mk (st := sTop) lTo cTo kTo
  have bTo := FTo.binds (ps := ["_law_bag_here", "_law_many"]) fun _ _ _ _ _ _ us hl => match us, hl with | [_, _], _ => rfl
  have FXhx := fun_mk (st := sHeadX) lXhx cXhx kXhx
  have bXhx := FXhx.binds (ps := ["_law_text"]) fun _ _ _ _ _ _ us hl => match us, hl with | [_], _ => rfl
  have FXtx := fun_mk (st := sTailX) lXtx cXtx kXtx
  have bXtx := FXtx.binds (ps := ["_law_text"]) fun _ _ _ _ _ _ us hl => match us, hl with | [_], _ => rfl
  have FXnt := fun_mk (st := sNt16) lXnt cXnt kXnt
  have bXnt := FXnt.binds (ps := ["_law_n"]) fun _ _ _ _ _ _ us hl => match us, hl with | [_], _ => rfl
  have FXrt := fun_mk (st := sRowText) lXrt cXrt kXrt
  have bXrt := FXrt.binds (ps := ["_law_texts"]) fun _ _ _ _ _ _ us hl => match us, hl with | [_], _ => rfl
  have FXlc := fun_mk (st := sLc16) lXlc cXlc kXlc
  have bXlc := FXlc.binds (ps := ["_law_deeds_here"]) fun _ _ _ _ _ _ us hl => match us, hl with | [_], _ => rfl
  have FXlp := fun_mk (st := sLParts) lXlp cXlp kXlp
  have bXlp := FXlp.binds (ps := ["_law_text"]) fun _ _ _ _ _ _ us hl => match us, hl with | [_], _ => rfl
  have FXnu := fun_mk (st := sNu17) lXnu cXnu kXnu
  have bXnu := FXnu.binds (ps := ["_law_text"]) fun _ _ _ _ _ _ us hl => match us, hl with | [_], _ => rfl
  have FXdw := fun_mk (st := sDw17) lXdw cXdw kXdw
  have bXdw := FXdw.binds (ps := ["_law_text", "_law_deep"]) fun _ _ _ _ _ _ us hl => match us, hl with | [_, _], _ => rfl
  have FXwr := fun_mk (st := sWr17) lXwr cXwr kXwr
  have bXwr := FXwr.binds (ps := ["_law_text", "_law_deep", "_law_at"]) fun _ _ _ _ _ _ us hl => match us, hl with | [_, _, _], _ => rfl
  have FXbe := fun_mk (st := sBe17) lXbe cXbe kXbe
  have bXbe := FXbe.binds (ps := ["_law_bag_here", "_law_text"]) fun _ _ _ _ _ _ us hl => match us, hl with | [_, _], _ => rfl
  have FXto := fun_mk (st := sTo17) lXto cXto kXto
  have bXto := FXto.binds (ps := ["_law_text", "_law_at"]) fun _ _ _ _ _ _ us hl => match us, hl with | [_, _], _ => rfl
  have FXrw := fun_mk (st := sRw17) lXrw cXrw kXrw
  have bXrw := FXrw.binds (ps := ["_law_kind", "_law_pieces"]) fun _ _ _ _ _ _ us hl => match us, hl with | [_, _], _ => rfl
  have FXtf := fun_mk (st := sTf17) lXtf cXtf kXtf
  have bXtf := FXtf.binds (ps := []) fun _ _ _ _ _ _ us hl => match us, hl with | [], _ => rfl
  have FXtl := fun_mk (st := sTl17) lXtl cXtl kXtl
  have bXtl := FXtl.binds (ps := []) fun _ _ _ _ _ _ us hl => match us, hl with | [], _ => rfl
  have FXgd := fun_mk (st := sGood17) lXgd cXgd kXgd
  have bXgd := FXgd.binds (ps := ["_law_text"]) fun _ _ _ _ _ _ us hl => match us, hl with | [_], _ => rfl
  have FLaw := fun_mk (st := sLaw) lLaw cLaw kLaw
  have bLaw := FLaw.binds (ps := ["_law_script"]) fun _ _ _ _ _ _ us hl => match us, hl with | [_], _ => rfl
  have APa : At K mg "pairs_in" sPairs ["first", "second"] fPa _ := ⟨FPa, PySem.W.mg_of X G aPa, bPa⟩
  have AAl : At K mg "alike" sAlike ["one", "other"] fAl _ := ⟨FAl, PySem.W.mg_of X G aAl, bAl⟩
  have ASg : At K mg "signs" sSigns ["thing"] fSg _ := ⟨FSg, PySem.W.mg_of X G aSg, bSg⟩
  have AIn : At K mg "is_name" sIsName ["part"] fIn _ := ⟨FIn, PySem.W.mg_of X G aIn, bIn⟩
  have AFt : At K mg "fits" sFits ["part", "sign"] fFt _ := ⟨FFt, PySem.W.mg_of X G aFt, bFt⟩
  have AHf : At K mg "has_form" sHasForm ["deed"] fHf _ := ⟨FHf, PySem.W.mg_of X G aHf, bHf⟩
  have ARi : At K mg "rows_in" sRowsIn ["deed"] fRi _ := ⟨FRi, PySem.W.mg_of X G aRi, bRi⟩
  have ALk : At K mg "look_through" sLook ["row", "floors", "ends"] fLk _ := ⟨FLk, PySem.W.mg_of X G aLk, bLk⟩
  have ALy : At K mg "lay_out" sLay ["row", "behind", "ends", "plan"] fLy _ := ⟨FLy, PySem.W.mg_of X G aLy, bLy⟩
  have ANu : At K mg "number" sNumber ["n"] fNu _ := ⟨FNu, PySem.W.mg_of X G aNu, bNu⟩
  have ARo : At K mg "row" sRow ["things"] fRo _ := ⟨FRo, PySem.W.mg_of X G aRo, bRo⟩
  have ACo : At K mg "code_of" sCodeOf ["program"] fCo _ := ⟨FCo, PySem.W.mg_of X G aCo, bCo⟩
  have ARc : At K mg "row_code" sRowC ["deeds"] fRc _ := ⟨FRc, PySem.W.mg_of X G aRc, bRc⟩
  have ADc : At K mg "deed_code" sDeedC ["deed"] fDc _ := ⟨FDc, PySem.W.mg_of X G aDc, bDc⟩
  have APc : At K mg "part_code" sPartC ["part", "sign"] fPc _ := ⟨FPc, PySem.W.mg_of X G aPc, bPc⟩
  have ACn : At K mg "counted" sCounted ["thing"] fCn _ := ⟨FCn, PySem.W.mg_of X G aCn, bCn⟩
  have APp : At K mg "parts" sParts ["thing"] fPp _ := ⟨FPp, PySem.W.mg_of X G aPp, bPp⟩
  have APo : At K mg "program_of" sProgOf ["thing"] fPo _ := ⟨FPo, PySem.W.mg_of X G aPo, bPo⟩
  have AOt : At K mg "row_told" sRowT ["thing", "floors"] fOt _ := ⟨FOt, PySem.W.mg_of X G aOt, bOt⟩
  have ADt : At K mg "deed_told" sDeedT ["code", "floors"] fDt _ := ⟨FDt, PySem.W.mg_of X G aDt, bDt⟩
  have AKt : At K mg "kind_told" sKindT ["told"] fKt _ := ⟨FKt, PySem.W.mg_of X G aKt, bKt⟩
  have APt : At K mg "part_told" sPartT ["part", "sign", "floors"] fPt _ := ⟨FPt, PySem.W.mg_of X G aPt, bPt⟩
  have AIc : At K mg "is_code" sIsCode ["thing"] fIc _ := ⟨FIc, PySem.W.mg_of X G aIc, bIc⟩
  have ARe : At K mg "read_thing" sRead ["text"] fRe _ := ⟨FRe, PySem.W.mg_of X G aRe, bRe⟩
  have AWh : At K mg "is_whole" sWhole ["levels"] fWh _ := ⟨FWh, PySem.W.mg_of X G aWh, bWh⟩
  have ADu : At K mg "signs_due" sDue ["levels", "begun"] fDu _ := ⟨FDu, PySem.W.mg_of X G aDu, bDu⟩
  have ABa : At K mg "_law_bag" sBag ["_law_script", "_law_at"] fBa _ := ⟨FBa, PySem.W.mg_of X G aBa, bBa⟩
  have ATa : At K mg "_law_take" sTake ["_law_bag_here", "_law_many"] fTa _ := ⟨FTa, PySem.W.mg_of X G aTa, bTa⟩
  have ATh : At K mg "_law_thing" sThing ["_law_bag_here", "_law_many"] fTh _ := ⟨FTh, PySem.W.mg_of X G aTh, bTh⟩
  have ANa : At K mg "_law_name" sName ["_law_bag_here"] fNa _ := ⟨FNa, PySem.W.mg_of X G aNa, bNa⟩
  have ADe : At K mg "_law_deed" sDeed ["_law_bag_here", "_law_left", "_law_deep"] fDe _ := ⟨FDe, PySem.W.mg_of X G aDe, bDe⟩
  have ADs : At K mg "_law_deeds" sDeeds ["_law_bag_here", "_law_left", "_law_deep"] fDs _ := ⟨FDs, PySem.W.mg_of X G aDs, bDs⟩
  have ATo : At K mg "_law_top" sTop ["_law_bag_here", "_law_many"] fTo _ := ⟨FTo, PySem.W.mg_of X G aTo, bTo⟩
  have AXhx : At K mg "_law_head" sHeadX ["_law_text"] fXhx _ := ⟨FXhx, PySem.W.mg_of X G aXhx, bXhx⟩
  have AXtx : At K mg "_law_tail" sTailX ["_law_text"] fXtx _ := ⟨FXtx, PySem.W.mg_of X G aXtx, bXtx⟩
  have AXnt : At K mg "_law_number_text" sNt16 ["_law_n"] fXnt _ := ⟨FXnt, PySem.W.mg_of X G aXnt, bXnt⟩
  have AXrt : At K mg "_law_row_text" sRowText ["_law_texts"] fXrt _ := ⟨FXrt, PySem.W.mg_of X G aXrt, bXrt⟩
  have AXlc : At K mg "_law_code" sLc16 ["_law_deeds_here"] fXlc _ := ⟨FXlc, PySem.W.mg_of X G aXlc, bXlc⟩
  have AXlp : At K mg "_law_parts" sLParts ["_law_text"] fXlp _ := ⟨FXlp, PySem.W.mg_of X G aXlp, bXlp⟩
  have AXnu : At K mg "_law_number" sNu17 ["_law_text"] fXnu _ := ⟨FXnu, PySem.W.mg_of X G aXnu, bXnu⟩
  have AXdw : At K mg "_law_deed_wrong" sDw17 ["_law_text", "_law_deep"] fXdw _ := ⟨FXdw, PySem.W.mg_of X G aXdw, bXdw⟩
  have AXwr : At K mg "_law_wrong" sWr17 ["_law_text", "_law_deep", "_law_at"] fXwr _ := ⟨FXwr, PySem.W.mg_of X G aXwr, bXwr⟩
  have AXbe : At K mg "_law_bent" sBe17 ["_law_bag_here", "_law_text"] fXbe _ := ⟨FXbe, PySem.W.mg_of X G aXbe, bXbe⟩
  have AXto : At K mg "_law_tail_of" sTo17 ["_law_text", "_law_at"] fXto _ := ⟨FXto, PySem.W.mg_of X G aXto, bXto⟩
  have AXrw : At K mg "_law_raw" sRw17 ["_law_kind", "_law_pieces"] fXrw _ := ⟨FXrw, PySem.W.mg_of X G aXrw, bXrw⟩
  have AXtf : At K mg "_law_two_faults" sTf17 [] fXtf _ := ⟨FXtf, PySem.W.mg_of X G aXtf, bXtf⟩
  have AXtl : At K mg "_law_tall" sTl17 [] fXtl _ := ⟨FXtl, PySem.W.mg_of X G aXtl, bXtl⟩
  have AXgd : At K mg "_law_good" sGood17 ["_law_text"] fXgd _ := ⟨FXgd, PySem.W.mg_of X G aXgd, bXgd⟩
  have DI : FunD K "__init__" "Thing.__init__" (defArgs sInit) (defBody sInit) (defScope sInit) [.non, .non] [] fI _ := ⟨⟨oI, odI, .ref TI, kVI, dcI, pmI, anI, cdI, ctI, slI, rfl, lI, cI, .inr ⟨by simp, TI, _, [.none, .none], nT, rfl, lT, rfl, .cons rfl (.cons rfl .nil)⟩, .inl rfl⟩, kI⟩
  have b0 := DI.binds1 (ps := ["self", "first", "second"]) 1 0 (by simp) rfl fun T kV doc pm an cdv ct us its h1 h2 => by
    match us, its, h1, h2 with
    | [a], [b, c], _, _ => exact ⟨_, rfl, rfl⟩
  have b3 := DI.binds1 (ps := ["self", "first", "second"]) 3 2 (by simp) rfl fun T kV doc pm an cdv ct us its h1 h2 => by
    match us, its, h1, h2 with
    | [a, b, c], [d, e], _, _ => exact ⟨_, rfl, rfl⟩
  obtain ⟨ds3, hv3, hb3⟩ := b3
  cases hv3
  have T : Txt K mg C := ⟨⟨pg, hd, po, sa⟩, nF, nS, nZ, PySem.W.mg_of X G aC, ⟨tM, PySem.W.mg_of X G aM⟩, PySem.W.mg_none_of X G z_len, PySem.W.mg_none_of X G z_range, PySem.W.mg_none_of X G z_isinstance, ca, cn, ct, cm, neC⟩
  have B : Blt mg := ⟨PySem.W.mg_none_of X G z_len, PySem.W.mg_none_of X G z_range, PySem.W.mg_none_of X G z_abs, PySem.W.mg_none_of X G z_int, PySem.W.mg_none_of X G z_str, PySem.W.mg_none_of X G z_max, PySem.W.mg_none_of X G z_min, PySem.W.mg_none_of X G z_all⟩
  have ml := PySem.W.mg_none_of X G z_list
  have frm : FrmC K w mg := ⟨⟨dF, esF, nFm, PySem.W.mg_of X G aFm, ⟨lFm, litF, lowF⟩, fun kf hkf => by
    simp only [forms, List.mem_cons, List.not_mem_nil, or_false] at hkf
    rcases hkf with rfl | rfl | rfl | rfl | rfl | rfl | rfl
    · exact ⟨_, fm0⟩
    · exact ⟨_, fm1⟩
    · exact ⟨_, fm2⟩
    · exact ⟨_, fm3⟩
    · exact ⟨_, fm4⟩
    · exact ⟨_, fm5⟩
    · exact ⟨_, fm6⟩⟩, ⟨tN1, PySem.W.mg_of X G aN1⟩, ⟨tN2, PySem.W.mg_of X G aN2⟩, ⟨tN3, PySem.W.mg_of X G aN3⟩, (PySem.W.mg_none_of X G z_bool), (PySem.W.mg_none_of X G z_tuple), (PySem.W.mg_none_of X G z_zip), (PySem.W.mg_none_of X G z_enumerate), kii, kib, ktt, kss⟩
  have TP : TxtP K mg CP := ⟨⟨pgP, hdP, poP, saP⟩, nDP, nPP, PySem.W.mg_of X G aP, caP, cn, ct, cmP, neP⟩
  have FPI := fun_mk (st := sPInit) lPI cPI kPI
  have FPL := fun_mk (st := sPLen) lPL cPL kPL
  have FPE := fun_mk (st := sPEq) lPE cPE kPE
  have bPI := FPI.binds (ps := ["self", "deeds"]) fun _ _ _ _ _ _ us hl => match us, hl with | [_, _], _ => rfl
  have bPL := FPL.binds (ps := ["self"]) fun _ _ _ _ _ _ us hl => match us, hl with | [_], _ => rfl
  have bPE := FPE.binds (ps := ["self", "other"]) fun _ _ _ _ _ _ us hl => match us, hl with | [_, _], _ => rfl
  have fok : FoK K w mg := FoK.of (PySem.W.mg_of X G aFm) ⟨lFm, litF, lowF⟩ (fun kf hkf => by
    simp only [forms, List.mem_cons, List.not_mem_nil, or_false] at hkf
    rcases hkf with rfl | rfl | rfl | rfl | rfl | rfl | rfl
    · exact ⟨_, fm0⟩
    · exact ⟨_, fm1⟩
    · exact ⟨_, fm2⟩
    · exact ⟨_, fm3⟩
    · exact ⟨_, fm4⟩
    · exact ⟨_, fm5⟩
    · exact ⟨_, fm6⟩) kyF
  refine ⟨PySem.W.fnOf "law" "law" (defArgs sLaw) (defBody sLaw) (defScope sLaw) .none kVLaw dcLaw pmLaw anLaw cdLaw ctLaw, fun s v => .of_eq rfl, fun base _ _ => ?_⟩
  have GI : FnOk P w K mg base CX0 2 fI _ ["self", "first", "second"] (spInit C) := ok_init DI T APa
  have M : Maker P w K mg base C fI _ := ⟨⟨mkC, aI, iI, kc⟩, GI, T.mgC, hb3, b0⟩
  have SE : Spc P w K mg base C "__eq__" 2 ["self", "other"] (spEqT C) := ⟨fEq, _, ⟨aEq, iEq⟩, ok_eq FEq T AAl, bEq⟩
  have SS : Spc P w K mg base C "__str__" 2 ["self"] (spStr C) := ⟨fSt, _, ⟨aSt, iSt⟩, ok_str FSt T ASg, bSt⟩
  have dIN : Def P w K mg base "is_name" 1 ["part"] spIsName := ⟨fIn, _, AIn.mgf, kIn, ok_isName FIn B T frm, bIn⟩
  have dFt : Def P w K mg base "fits" 2 ["part", "sign"] (spFits K C) := ⟨fFt, _, PySem.W.mg_of X G aFt, kFt, ok_fits FFt B T frm dIN, bFt⟩
  have dHF : Def P w K mg base "has_form" 3 ["deed"] (spHasForm K C) := ⟨fHf, _, PySem.W.mg_of X G aHf, kHf, ok_hasForm FHf B T frm dFt, bHf⟩
  have dRI : Def P w K mg base "rows_in" 1 ["deed"] (spRowsIn K C) := ⟨fRi, _, ARi.mgf, kRi, ok_rowsIn FRi frm, bRi⟩
  have dLk : Def P w K mg base "look_through" 13 ["row", "floors", "ends"] (spLook K C 9) := ⟨fLk, _, ALk.mgf, kLk, ok_look FLk ALk.mgf bLk B T frm dHF dRI 9, bLk⟩
  have dLy : Def P w K mg base "lay_out" 11 ["row", "behind", "ends", "plan"] (spLay K C 9) := ⟨fLy, _, ALy.mgf, kLy, ok_lay FLy ALy.mgf bLy B frm dRI 9, bLy⟩
  have MP : MakerP P w K mg base C CP fPI _ := ⟨⟨mkCP, aPI, iPI, kcP⟩, ok_pinit FPI B T frm TP dLk dLy, TP.mgP, bPI⟩
  have FN := fun_mk (st := sTg) lN cN kfN
  have bN := FN.binds (ps := ["self", "bound"]) fun _ _ _ _ _ _ us hl => match us, hl with | [_, _], _ => rfl
  have gO : GexO K N := ⟨PySem.F.excBase_OverflowError, PySem.F.store_OverflowError, ⟨nmN, qN, NN, bsN, _, snN, subN, abN, colN, ddN, m0N, m1N, m2N, m3N, m5N, xN, fun _ => rfl⟩, ovN, saN, exN, tyN, kN⟩
  have tgC : TgC K mg N := ⟨PySem.W.mg_of X G aN, gO, plN, PySem.W.mg_none_of X G z_OverflowError, vV⟩
  have NM : TgM P w K mg base N fN _ := ⟨tgC, iN, tfN, ok_tg FN tgC, bN⟩
  have MXN : MakerN P w K mg base C fI N _ := ⟨⟨mkC, aI, iI, kc⟩, ok_initN DI T APa NM, T.mgC, hb3⟩
  have exm : PySem.W.exmOne K (.ref N) (.ref N) = some true := PySem.W.exm_ref exN hdN tyN scN
  have FZ := fun_mk (st := sNp) lZ cZ kfZ
  have bZ := FZ.binds (ps := ["self", "place"]) fun _ _ _ _ _ _ us hl => match us, hl with | [_, _], _ => rfl
  have gV : GexV K NP := ⟨PySem.F.excBase_ValueError, PySem.F.store_ValueError, ⟨nmZ, qZ, NZ, bsZ, _, snZ, subZ, abZ, colZ, ddZ, m0Z, m1Z, m2Z, m3Z, m5Z, xZ, fun _ => rfl⟩, ovZ, saZ, exZ, tyZ, kZ⟩
  have npC : NpC K mg NP := ⟨PySem.W.mg_of X G aZ, gV, plZ, PySem.W.mg_none_of X G z_ValueError, vVZ⟩
  have ZM : NpM P w K mg base NP fZ _ := ⟨npC, iZ, tfZ, ok_np FZ npC, bZ⟩
  have exZZ : PySem.W.exmOne K (.ref NP) (.ref NP) = some true := PySem.W.exm_ref exZ hdZ tyZ scZ
  have DNu : Def P w K mg base "number" 4 ["n"] (spNumber C) := ⟨fNu, _, ANu.mgf, kNu, ok_number FNu T M, bNu⟩
  have DRo : Def P w K mg base "row" 4 ["things"] (spRow C) := ⟨fRo, _, ARo.mgf, kRo, ok_row FRo T (PySem.W.mg_none_of X G z_reversed) M, bRo⟩
  have DRc : Def P w K mg base "row_code" 32 ["deeds"] (spRowC K C 9) := ⟨fRc, _, ARc.mgf, kRc, ok_codes FRc FDc FPc ml frm fok DNu DRo ARc.mgf bRc ADc.mgf bDc APc.mgf bPc 9, bRc⟩
  have DCo : Def P w K mg base "code_of" 33 ["program"] (spCodeOf K C CP) := ⟨fCo, _, ACo.mgf, kCo, ok_codeOf FCo TP DRc, bCo⟩
  have DCn : Def P w K mg base "counted" 1 ["thing"] (spCounted C) := ⟨fCn, _, ACn.mgf, kCn, ok_counted FCn T, bCn⟩
  have DPp : Def P w K mg base "parts" 1 ["thing"] (spParts C) := ⟨fPp, _, APp.mgf, kPp, ok_parts FPp T, bPp⟩
  have DKt : Def P w K mg base "kind_told" 2 ["told"] (spKindT C) := ⟨fKt, _, AKt.mgf, kKt, ok_kindT FKt B ml fok DCn, bKt⟩
  have DOt : Def P w K mg base "row_told" 30 ["thing", "floors"] (spRowT K C 9) := ⟨fOt, _, AOt.mgf, kOt, ok_tolds FOt FDt FPt B frm DCn DPp DKt AOt.mgf bOt ADt.mgf bDt APt.mgf bPt 9, bOt⟩
  have gPo := ok_progOf (P := P) (w := w) (base := base) FPo T MP DOt
  have DPo : Def P w K mg base "program_of" 34 ["thing"] (spProgOf K C CP) := ⟨fPo, _, APo.mgf, kPo, gPo, bPo⟩
  have dINW : Def P w K mg base "is_name" 1 ["part"] spIsNameW := ⟨fIn, _, AIn.mgf, kIn, ok_isNameW FIn B T frm kni, bIn⟩
  have dFtW : Def P w K mg base "fits" 2 ["part", "sign"] (spFitsW K C) := ⟨fFt, _, PySem.W.mg_of X G aFt, kFt, ok_fitsW FFt B T frm dINW, bFt⟩
  have dHFW : Def P w K mg base "has_form" 3 ["deed"] (spHasFormW K C) := ⟨fHf, _, PySem.W.mg_of X G aHf, kHf, ok_hasFormW FHf B T frm dFtW, bHf⟩
  have dRIW : Def P w K mg base "rows_in" 1 ["deed"] (spRowsInW K C) := ⟨fRi, _, ARi.mgf, kRi, ok_rowsInW FRi frm, bRi⟩
  have gLkW := ok_lookW (P := P) (w := w) (base := base) FLk ALk.mgf bLk B T frm ZM dHFW dRIW 9
  have MPW : MakerPW P w K mg base C CP NP fPI _ := ⟨⟨mkCP, aPI, iPI, kcP⟩, ok_pinitW FPI B T frm TP ZM gLkW ALk.mgf kLk bLk dLy, TP.mgP, bPI⟩
  have DCnW : Def P w K mg base "counted" 1 ["thing"] (spCountW C) := ⟨fCn, _, ACn.mgf, kCn, ok_countW FCn T, bCn⟩
  have DKtW : Def P w K mg base "kind_told" 2 ["told"] (spKindW C) := ⟨fKt, _, AKt.mgf, kKt, ok_kindW FKt B ml fok DCnW, bKt⟩
  have DOtW : Def P w K mg base "row_told" 30 ["thing", "floors"] (spRwT K C 9) := ⟨fOt, _, AOt.mgf, kOt, ok_toldsW FOt FDt FPt B frm DCnW DPp DKtW AOt.mgf bOt ADt.mgf bDt APt.mgf bPt 9, bOt⟩
  have gPoW := ok_progW (P := P) (w := w) (base := base) FPo T ZM MPW DOtW
  have DTk : Def P w K mg base "_law_take" 1 ["_law_bag_here", "_law_many"] spTake := ⟨fTa, _, ATa.mgf, kTa, ok_take FTa, bTa⟩
  have DTh : Def P w K mg base "_law_thing" 4 ["_law_bag_here", "_law_many"] (spThing C) := ⟨fTh, _, ATh.mgf, kTh, ok_thing FTh B M ATa, bTh⟩
  have DNm : Def P w K mg base "_law_name" 2 ["_law_bag_here"] spName := ⟨fNa, _, ANa.mgf, kNa, ok_name FNa DTk, bNa⟩
  have DDs : Def P w K mg base "_law_deeds" 14 ["_law_bag_here", "_law_left", "_law_deep"] (spDeeds K C 5) := ⟨fDs, _, ADs.mgf, kDs, ok_deeds FDs FDe B frm DTk DNm DTh ADs.mgf bDs ADe.mgf bDe 5, bDs⟩
  have DTo : Def P w K mg base "_law_top" 15 ["_law_bag_here", "_law_many"] (spTop K C) := ⟨fTo, _, ATo.mgf, kTo, ok_top FTo DDs, bTo⟩
  have DRe : Def P w K mg base "read_thing" 4 ["text"] (spRead C) := ⟨fRe, _, ARe.mgf, kRe, ok_read FRe T (PySem.W.mg_none_of X G z_enumerate) M AWh ADu, bRe⟩
  have mtu := PySem.W.mg_none_of X G z_tuple
  have gLkP := ok_lookP (P := P) (w := w) (base := base) FLk ALk.mgf bLk B T frm ZM dHFW dRIW 9
  have MPP : MakerPP P w K mg base C CP NP fPI _ := ⟨⟨mkCP, aPI, iPI, kcP⟩, ok_pinitP FPI B T frm TP ZM gLkP ALk.mgf kLk bLk dLy, TP.mgP, bPI⟩
  have gPoP := ok_progP (P := P) (w := w) (base := base) FPo T ZM MPP DOtW
  have RP : RfP K mg NP := ⟨npC, ⟨gaZ, ggZ, exZ, hdZ⟩, ⟨icZ, gaZ, ggZ, exZ, caZ, cn, ct, cmZ⟩, exZZ, ⟨n1, n2, n3, n4, n5, N, PySem.W.mg_of X G oz1, PySem.W.mg_of X G oz2, PySem.W.mg_of X G oz3, PySem.W.mg_of X G oz4, PySem.W.mg_of X G oz5, PySem.W.mg_of X G aN, kaZ⟩⟩
  have DIw : Def P w K mg base "is_code" 35 ["thing"] (spIsCodeW C) := ⟨fIc, _, AIc.mgf, kIc, ok_isCodeW FIc npC.mgN exZZ gPoW APo.mgf kPo bPo, bIc⟩
  have DHx : Def P w K mg base "_law_head" 1 ["_law_text"] spHeadX := ⟨fXhx, _, AXhx.mgf, kXhx, ok_headX FXhx, bXhx⟩
  have DHs : Def P w K mg base "_law_head" 1 ["_law_text"] spHeadS := ⟨fXhx, _, AXhx.mgf, kXhx, ok_headS FXhx, bXhx⟩
  have DTx : Def P w K mg base "_law_tail" 2 ["_law_text"] spTailX := ⟨fXtx, _, AXtx.mgf, kXtx, ok_tailX FXtx B DHx, bXtx⟩
  have DNt : Def P w K mg base "_law_number_text" 1 ["_law_n"] spNt := ⟨fXnt, _, AXnt.mgf, kXnt, ok_nt FXnt, bXnt⟩
  have DRt : Def P w K mg base "_law_row_text" 1 ["_law_texts"] (spRowText K) := ⟨fXrt, _, AXrt.mgf, kXrt, ok_rowText FXrt B, bXrt⟩
  have DLc : Def P w K mg base "_law_code" 21 ["_law_deeds_here"] (spLc16 K C 16) := ⟨fXlc, _, AXlc.mgf, kXlc, ok_lc16 FXlc AXlc.mgf bXlc B T mtu kCi kCt SS DNt DRt 16, bXlc⟩
  have DLp : Def P w K mg base "_law_parts" 3 ["_law_text"] spLParts := ⟨fXlp, _, AXlp.mgf, kXlp, ok_lparts FXlp DHx DTx, bXlp⟩
  have DNu17 : Def P w K mg base "_law_number" 2 ["_law_text"] spNu17 := ⟨fXnu, _, AXnu.mgf, kXnu, ok_nu17 FXnu B DNt, bXnu⟩
  have DDw : Def P w K mg base "_law_deed_wrong" 4 ["_law_text", "_law_deep"] spDw17 := ⟨fXdw, _, AXdw.mgf, kXdw, ok_dw17 FXdw B (PySem.W.mg_none_of X G z_any) DLp DNu17, bXdw⟩
  have DWr : Def P w K mg base "_law_wrong" 14 ["_law_text", "_law_deep", "_law_at"] (spWr17 9) := ⟨fXwr, _, AXwr.mgf, kXwr, ok_wr17 FXwr AXwr.mgf bXwr B DLp DDw 9, bXwr⟩
  have DTs : Def P w K mg base "_law_tail_of" 2 ["_law_text", "_law_at"] spTailS := ⟨fXto, _, AXto.mgf, kXto, ok_tailS FXto B DHs, bXto⟩
  have DBe : Def P w K mg base "_law_bent" 3 ["_law_bag_here", "_law_text"] spBe17 := ⟨fXbe, _, AXbe.mgf, kXbe, ok_be17 FXbe B DTk DNt DHx DHs DTx DTs, bXbe⟩
  have DRw : Def P w K mg base "_law_raw" 2 ["_law_kind", "_law_pieces"] spRw17 := ⟨fXrw, _, AXrw.mgf, kXrw, ok_rw17 FXrw DNt DRt, bXrw⟩
  have gTf := ok_tf17 (P := P) (w := w) (base := base) (K := K) FXtf B DNt DRw DRt
  have gTl := ok_tl17 (P := P) (w := w) (base := base) (K := K) FXtl B DRw DRt
  have DGd : Def P w K mg base "_law_good" 36 ["_law_text"] spGood17 := ⟨fXgd, _, AXgd.mgf, kXgd, ok_good17 FXgd B (PySem.W.mg_none_of X G z_bool) kbb kib T TP RP SS DRe DWr DIw DCo gPoP APo.mgf kPo bPo, bXgd⟩
  exact ok_law FLaw B SS ⟨fBa, _, ABa.mgf, kBa, ok_bag FBa B, bBa⟩ DTk DTh DTo DLc DBe DGd gTf AXtf.mgf kXtf bXtf gTl AXtl.mgf kXtl bXtl
end Js
set_option Elab.async false
set_option linter.all false
set_option maxRecDepth 100000
set_option maxHeartbeats 0
namespace Js
open PySem PySem.Spec PyProof.Rows L2
theorem kyl_of {P : Params} : ∀ {l : List DictEntry} {ks : List Str}, l.map He.keyOf = He.keysIn P ks → KyL ks l
  | [], [], _ => trivial
  | [], _ :: _, h => by cases h
  | _ :: _, [], h => by cases h
  | e :: r, k :: ks, h => by
    have h1 : He.keyOf e :: r.map He.keyOf = some (k, PyData.keyHash P k) :: He.keysIn P ks := h
    injection h1 with h2 h3
    refine ⟨?_, kyl_of h3⟩
    unfold He.keyOf at h2
    split at h2
    · rename_i x t q
      have h4 := Option.some.inj h2
      obtain ⟨h5, h6⟩ := Prod.mk.inj h4
      exact ⟨t, by rw [q, h5]⟩
    · cases h2
theorem hfacts {P : Program} {w : World} {K : PySem.W.Frag} {h : Heap} {mg : Str → Option Value} {fa : Addr} (X : K.In h) (G : h.Ns mainGlobals mg) (hfa : mg "law" = some (.ref fa)) (cT : He.SaysT [] hfn hts w K) (cX : hexs K = true)
    : ∃ fd : FuncData, (∀ (s : Shared) (v : Value), BindsTo s fd ⟨[v], []⟩ [("_law_script", v)]) ∧ ∀ base : Heap, K.In base → base.Ns mainGlobals mg → FnOk P w K mg base CX0 37 fa fd ["_law_script"] (spLaw K) := by
  have cD := cT.d
  have cE : (hex.all fun f => f K) = true := cX
  have aC : PySem.W.nsIn K mainGlobals "Thing" = some (some (.ref (He.ga K "Thing"))) := of_decide_eq_true (ex_at cE 0 rfl)
  have pg : PySem.W.plainGet K (He.ga K "Thing") Str.empty = true := of_decide_eq_true (ex_at cE 1 rfl)
  have hd : PySem.W.hasDictIn K (He.ga K "Thing") = true := of_decide_eq_true (ex_at cE 2 rfl)
  have po : PySem.W.plainOver K (He.ga K "Thing") = true := of_decide_eq_true (ex_at cE 3 rfl)
  have sa : PySem.W.findIn K (.ref (He.ga K "Thing")) "__setattr__" = some (some (.builtin "object.__setattr__")) := of_decide_eq_true (ex_at cE 4 rfl)
  have mkC : PySem.W.makesIn K (He.ga K "Thing") = true := of_decide_eq_true (ex_at cE 5 rfl)
  have kc : PySem.W.keepIn K (.ref (He.ga K "Thing")) = true := of_decide_eq_true (ex_at cE 6 rfl)
  have nF : PySem.W.findIn K (.ref (He.ga K "Thing")) "first" = some none := of_decide_eq_true (ex_at cE 7 rfl)
  have nS : PySem.W.findIn K (.ref (He.ga K "Thing")) "second" = some none := of_decide_eq_true (ex_at cE 8 rfl)
  have nZ : PySem.W.findIn K (.ref (He.ga K "Thing")) "size" = some none := of_decide_eq_true (ex_at cE 9 rfl)
  have ca : PySem.W.findIn K (.ref (He.ga K "Thing")) "__class__" = some (some (.builtin "object.__class__")) := of_decide_eq_true (ex_at cE 10 rfl)
  have cn : PySem.W.specialIn K (.builtin "object.__class__") "__get__" = some (some (.builtin "getset_descriptor.__get__")) := of_decide_eq_true (ex_at cE 11 rfl)
  have ct : PySem.W.takesIn K (.builtin "object.__class__") = some true := of_decide_eq_true (ex_at cE 12 rfl)
  have cm : PySem.W.mroIn K (He.ga K "Thing") (.type "object") = some true := of_decide_eq_true (ex_at cE 13 rfl)
  have neC : PySem.W.findIn K (.ref (He.ga K "Thing")) "__ne__" = some (some (.builtin "object.__ne__")) := of_decide_eq_true (ex_at cE 14 rfl)
  obtain ⟨_, aM⟩ := int_raw (ex_at cE 15 rfl)
  have aI : PySem.W.findIn K (.ref (He.ga K "Thing")) "__init__" = some (some (.ref (He.ma K (He.ga K "Thing") "__init__"))) := of_decide_eq_true (ex_at cE 16 rfl)
  have iI : PySem.W.isFn K (.ref (He.ma K (He.ga K "Thing") "__init__")) = true := of_decide_eq_true (ex_at cE 17 rfl)
  obtain ⟨_, _, _, _, _, _, _, _, _, _, _, _, its_lT, _, _, lI, cI, lT, vv⟩ := fn_rawD cD 0 ("Thing", some "__init__") "__init__" "Thing.__init__" sInit (.non) [.non] rfl
  obtain ⟨l_lT⟩ := its_lT
  change Vals _ l_lT at vv
  obtain _ | ⟨h_lT0, v_lT0⟩ := vv
  obtain rfl := h_lT0
  obtain _ | ⟨h_lT1, v_lT1⟩ := v_lT0
  obtain rfl := h_lT1
  cases v_lT1
  have kI : PySem.W.keepIn K (.ref (He.ma K (He.ga K "Thing") "__init__")) = true := of_decide_eq_true (ex_at cE 18 rfl)
  have aEq : PySem.W.findIn K (.ref (He.ga K "Thing")) "__eq__" = some (some (.ref (He.ma K (He.ga K "Thing") "__eq__"))) := of_decide_eq_true (ex_at cE 19 rfl)
  have iEq : PySem.W.isFn K (.ref (He.ma K (He.ga K "Thing") "__eq__")) = true := of_decide_eq_true (ex_at cE 20 rfl)
  obtain ⟨_, _, _, _, _, _, _, _, _, lEq, cEq⟩ := fn_raw cD 1 ("Thing", some "__eq__") "__eq__" "Thing.__eq__" sEq rfl
  have kEq : PySem.W.keepIn K (.ref (He.ma K (He.ga K "Thing") "__eq__")) = true := of_decide_eq_true (ex_at cE 21 rfl)
  have aSt : PySem.W.findIn K (.ref (He.ga K "Thing")) "__str__" = some (some (.ref (He.ma K (He.ga K "Thing") "__str__"))) := of_decide_eq_true (ex_at cE 22 rfl)
  have iSt : PySem.W.isFn K (.ref (He.ma K (He.ga K "Thing") "__str__")) = true := of_decide_eq_true (ex_at cE 23 rfl)
  obtain ⟨_, _, _, _, _, _, _, _, _, lSt, cSt⟩ := fn_raw cD 2 ("Thing", some "__str__") "__str__" "Thing.__str__" sStr rfl
  have kSt : PySem.W.keepIn K (.ref (He.ma K (He.ga K "Thing") "__str__")) = true := of_decide_eq_true (ex_at cE 24 rfl)
  have aPa : PySem.W.nsIn K mainGlobals "pairs_in" = some (some (.ref (He.ga K "pairs_in"))) := of_decide_eq_true (ex_at cE 25 rfl)
  obtain ⟨_, _, _, _, _, _, _, _, _, lPa, cPa⟩ := fn_raw cD 3 ("pairs_in", none) "pairs_in" "pairs_in" sPairs rfl
  have kPa : PySem.W.keepIn K (.ref (He.ga K "pairs_in")) = true := of_decide_eq_true (ex_at cE 26 rfl)
  have aAl : PySem.W.nsIn K mainGlobals "alike" = some (some (.ref (He.ga K "alike"))) := of_decide_eq_true (ex_at cE 27 rfl)
  obtain ⟨_, _, _, _, _, _, _, _, _, lAl, cAl⟩ := fn_raw cD 4 ("alike", none) "alike" "alike" sAlike rfl
  have kAl : PySem.W.keepIn K (.ref (He.ga K "alike")) = true := of_decide_eq_true (ex_at cE 28 rfl)
  have aSg : PySem.W.nsIn K mainGlobals "signs" = some (some (.ref (He.ga K "signs"))) := of_decide_eq_true (ex_at cE 29 rfl)
  obtain ⟨_, _, _, _, _, _, _, _, _, lSg, cSg⟩ := fn_raw cD 5 ("signs", none) "signs" "signs" sSigns rfl
  have kSg : PySem.W.keepIn K (.ref (He.ga K "signs")) = true := of_decide_eq_true (ex_at cE 30 rfl)
  have aIn : PySem.W.nsIn K mainGlobals "is_name" = some (some (.ref (He.ga K "is_name"))) := of_decide_eq_true (ex_at cE 31 rfl)
  obtain ⟨_, _, _, _, _, _, _, _, _, lIn, cIn⟩ := fn_raw cD 6 ("is_name", none) "is_name" "is_name" sIsName rfl
  have kIn : PySem.W.keepIn K (.ref (He.ga K "is_name")) = true := of_decide_eq_true (ex_at cE 32 rfl)
  have aFt : PySem.W.nsIn K mainGlobals "fits" = some (some (.ref (He.ga K "fits"))) := of_decide_eq_true (ex_at cE 33 rfl)
  obtain ⟨_, _, _, _, _, _, _, _, _, lFt, cFt⟩ := fn_raw cD 7 ("fits", none) "fits" "fits" sFits rfl
  have kFt : PySem.W.keepIn K (.ref (He.ga K "fits")) = true := of_decide_eq_true (ex_at cE 34 rfl)
  have aHf : PySem.W.nsIn K mainGlobals "has_form" = some (some (.ref (He.ga K "has_form"))) := of_decide_eq_true (ex_at cE 35 rfl)
  obtain ⟨_, _, _, _, _, _, _, _, _, lHf, cHf⟩ := fn_raw cD 8 ("has_form", none) "has_form" "has_form" sHasForm rfl
  have kHf : PySem.W.keepIn K (.ref (He.ga K "has_form")) = true := of_decide_eq_true (ex_at cE 36 rfl)
  have aRi : PySem.W.nsIn K mainGlobals "rows_in" = some (some (.ref (He.ga K "rows_in"))) := of_decide_eq_true (ex_at cE 37 rfl)
  obtain ⟨_, _, _, _, _, _, _, _, _, lRi, cRi⟩ := fn_raw cD 9 ("rows_in", none) "rows_in" "rows_in" sRowsIn rfl
  have kRi : PySem.W.keepIn K (.ref (He.ga K "rows_in")) = true := of_decide_eq_true (ex_at cE 38 rfl)
  have aLk : PySem.W.nsIn K mainGlobals "look_through" = some (some (.ref (He.ga K "look_through"))) := of_decide_eq_true (ex_at cE 39 rfl)
  obtain ⟨_, _, _, _, _, _, _, _, _, lLk, cLk⟩ := fn_raw cD 10 ("look_through", none) "look_through" "look_through" sLook rfl
  have kLk : PySem.W.keepIn K (.ref (He.ga K "look_through")) = true := of_decide_eq_true (ex_at cE 40 rfl)
  have aLy : PySem.W.nsIn K mainGlobals "lay_out" = some (some (.ref (He.ga K "lay_out"))) := of_decide_eq_true (ex_at cE 41 rfl)
  obtain ⟨_, _, _, _, _, _, _, _, _, lLy, cLy⟩ := fn_raw cD 11 ("lay_out", none) "lay_out" "lay_out" sLay rfl
  have kLy : PySem.W.keepIn K (.ref (He.ga K "lay_out")) = true := of_decide_eq_true (ex_at cE 42 rfl)
  have aNu : PySem.W.nsIn K mainGlobals "number" = some (some (.ref (He.ga K "number"))) := of_decide_eq_true (ex_at cE 43 rfl)
  obtain ⟨_, _, _, _, _, _, _, _, _, lNu, cNu⟩ := fn_raw cD 12 ("number", none) "number" "number" sNumber rfl
  have kNu : PySem.W.keepIn K (.ref (He.ga K "number")) = true := of_decide_eq_true (ex_at cE 44 rfl)
  have aRo : PySem.W.nsIn K mainGlobals "row" = some (some (.ref (He.ga K "row"))) := of_decide_eq_true (ex_at cE 45 rfl)
  obtain ⟨_, _, _, _, _, _, _, _, _, lRo, cRo⟩ := fn_raw cD 13 ("row", none) "row" "row" sRow rfl
  have kRo : PySem.W.keepIn K (.ref (He.ga K "row")) = true := of_decide_eq_true (ex_at cE 46 rfl)
  have aCo : PySem.W.nsIn K mainGlobals "code_of" = some (some (.ref (He.ga K "code_of"))) := of_decide_eq_true (ex_at cE 47 rfl)
  obtain ⟨_, _, _, _, _, _, _, _, _, lCo, cCo⟩ := fn_raw cD 14 ("code_of", none) "code_of" "code_of" sCodeOf rfl
  have kCo : PySem.W.keepIn K (.ref (He.ga K "code_of")) = true := of_decide_eq_true (ex_at cE 48 rfl)
  have aRc : PySem.W.nsIn K mainGlobals "row_code" = some (some (.ref (He.ga K "row_code"))) := of_decide_eq_true (ex_at cE 49 rfl)
  obtain ⟨_, _, _, _, _, _, _, _, _, lRc, cRc⟩ := fn_raw cD 15 ("row_code", none) "row_code" "row_code" sRowC rfl
  have kRc : PySem.W.keepIn K (.ref (He.ga K "row_code")) = true := of_decide_eq_true (ex_at cE 50 rfl)
  have aDc : PySem.W.nsIn K mainGlobals "deed_code" = some (some (.ref (He.ga K "deed_code"))) := of_decide_eq_true (ex_at cE 51 rfl)
  obtain ⟨_, _, _, _, _, _, _, _, _, lDc, cDc⟩ := fn_raw cD 16 ("deed_code", none) "deed_code" "deed_code" sDeedC rfl
  have kDc : PySem.W.keepIn K (.ref (He.ga K "deed_code")) = true := of_decide_eq_true (ex_at cE 52 rfl)
  have aPc : PySem.W.nsIn K mainGlobals "part_code" = some (some (.ref (He.ga K "part_code"))) := of_decide_eq_true (ex_at cE 53 rfl)
  obtain ⟨_, _, _, _, _, _, _, _, _, lPc, cPc⟩ := fn_raw cD 17 ("part_code", none) "part_code" "part_code" sPartC rfl
  have kPc : PySem.W.keepIn K (.ref (He.ga K "part_code")) = true := of_decide_eq_true (ex_at cE 54 rfl)
  have aCn : PySem.W.nsIn K mainGlobals "counted" = some (some (.ref (He.ga K "counted"))) := of_decide_eq_true (ex_at cE 55 rfl)
  obtain ⟨_, _, _, _, _, _, _, _, _, lCn, cCn⟩ := fn_raw cD 18 ("counted", none) "counted" "counted" sCounted rfl
  have kCn : PySem.W.keepIn K (.ref (He.ga K "counted")) = true := of_decide_eq_true (ex_at cE 56 rfl)
  have aPp : PySem.W.nsIn K mainGlobals "parts" = some (some (.ref (He.ga K "parts"))) := of_decide_eq_true (ex_at cE 57 rfl)
  obtain ⟨_, _, _, _, _, _, _, _, _, lPp, cPp⟩ := fn_raw cD 19 ("parts", none) "parts" "parts" sParts rfl
  have kPp : PySem.W.keepIn K (.ref (He.ga K "parts")) = true := of_decide_eq_true (ex_at cE 58 rfl)
  have aPo : PySem.W.nsIn K mainGlobals "program_of" = some (some (.ref (He.ga K "program_of"))) := of_decide_eq_true (ex_at cE 59 rfl)
  obtain ⟨_, _, _, _, _, _, _, _, _, lPo, cPo⟩ := fn_raw cD 20 ("program_of", none) "program_of" "program_of" sProgOf rfl
  have kPo : PySem.W.keepIn K (.ref (He.ga K "program_of")) = true := of_decide_eq_true (ex_at cE 60 rfl)
  have aOt : PySem.W.nsIn K mainGlobals "row_told" = some (some (.ref (He.ga K "row_told"))) := of_decide_eq_true (ex_at cE 61 rfl)
  obtain ⟨_, _, _, _, _, _, _, _, _, lOt, cOt⟩ := fn_raw cD 21 ("row_told", none) "row_told" "row_told" sRowT rfl
  have kOt : PySem.W.keepIn K (.ref (He.ga K "row_told")) = true := of_decide_eq_true (ex_at cE 62 rfl)
  have aDt : PySem.W.nsIn K mainGlobals "deed_told" = some (some (.ref (He.ga K "deed_told"))) := of_decide_eq_true (ex_at cE 63 rfl)
  obtain ⟨_, _, _, _, _, _, _, _, _, lDt, cDt⟩ := fn_raw cD 22 ("deed_told", none) "deed_told" "deed_told" sDeedT rfl
  have kDt : PySem.W.keepIn K (.ref (He.ga K "deed_told")) = true := of_decide_eq_true (ex_at cE 64 rfl)
  have aKt : PySem.W.nsIn K mainGlobals "kind_told" = some (some (.ref (He.ga K "kind_told"))) := of_decide_eq_true (ex_at cE 65 rfl)
  obtain ⟨_, _, _, _, _, _, _, _, _, lKt, cKt⟩ := fn_raw cD 23 ("kind_told", none) "kind_told" "kind_told" sKindT rfl
  have kKt : PySem.W.keepIn K (.ref (He.ga K "kind_told")) = true := of_decide_eq_true (ex_at cE 66 rfl)
  have aPt : PySem.W.nsIn K mainGlobals "part_told" = some (some (.ref (He.ga K "part_told"))) := of_decide_eq_true (ex_at cE 67 rfl)
  obtain ⟨_, _, _, _, _, _, _, _, _, lPt, cPt⟩ := fn_raw cD 24 ("part_told", none) "part_told" "part_told" sPartT rfl
  have kPt : PySem.W.keepIn K (.ref (He.ga K "part_told")) = true := of_decide_eq_true (ex_at cE 68 rfl)
  have aIc : PySem.W.nsIn K mainGlobals "is_code" = some (some (.ref (He.ga K "is_code"))) := of_decide_eq_true (ex_at cE 69 rfl)
  obtain ⟨_, _, _, _, _, _, _, _, _, lIc, cIc⟩ := fn_raw cD 25 ("is_code", none) "is_code" "is_code" sIsCode rfl
  have kIc : PySem.W.keepIn K (.ref (He.ga K "is_code")) = true := of_decide_eq_true (ex_at cE 70 rfl)
  have aRe : PySem.W.nsIn K mainGlobals "read_thing" = some (some (.ref (He.ga K "read_thing"))) := of_decide_eq_true (ex_at cE 71 rfl)
  obtain ⟨_, _, _, _, _, _, _, _, _, lRe, cRe⟩ := fn_raw cD 26 ("read_thing", none) "read_thing" "read_thing" sRead rfl
  have kRe : PySem.W.keepIn K (.ref (He.ga K "read_thing")) = true := of_decide_eq_true (ex_at cE 72 rfl)
  have aWh : PySem.W.nsIn K mainGlobals "is_whole" = some (some (.ref (He.ga K "is_whole"))) := of_decide_eq_true (ex_at cE 73 rfl)
  obtain ⟨_, _, _, _, _, _, _, _, _, lWh, cWh⟩ := fn_raw cD 27 ("is_whole", none) "is_whole" "is_whole" sWhole rfl
  have kWh : PySem.W.keepIn K (.ref (He.ga K "is_whole")) = true := of_decide_eq_true (ex_at cE 74 rfl)
  have aDu : PySem.W.nsIn K mainGlobals "signs_due" = some (some (.ref (He.ga K "signs_due"))) := of_decide_eq_true (ex_at cE 75 rfl)
  obtain ⟨_, _, _, _, _, _, _, _, _, lDu, cDu⟩ := fn_raw cD 28 ("signs_due", none) "signs_due" "signs_due" sDue rfl
  have kDu : PySem.W.keepIn K (.ref (He.ga K "signs_due")) = true := of_decide_eq_true (ex_at cE 76 rfl)
  have aBa : PySem.W.nsIn K mainGlobals "_law_bag" = some (some (.ref (He.ga K "_law_bag"))) := of_decide_eq_true (ex_at cE 77 rfl)
  obtain ⟨_, _, _, _, _, _, _, _, _, lBa, cBa⟩ := fn_raw cD 29 ("_law_bag", none) "_law_bag" "_law_bag" sBag rfl
  have kBa : PySem.W.keepIn K (.ref (He.ga K "_law_bag")) = true := of_decide_eq_true (ex_at cE 78 rfl)
  have aTa : PySem.W.nsIn K mainGlobals "_law_take" = some (some (.ref (He.ga K "_law_take"))) := of_decide_eq_true (ex_at cE 79 rfl)
  obtain ⟨_, _, _, _, _, _, _, _, _, lTa, cTa⟩ := fn_raw cD 30 ("_law_take", none) "_law_take" "_law_take" sTake rfl
  have kTa : PySem.W.keepIn K (.ref (He.ga K "_law_take")) = true := of_decide_eq_true (ex_at cE 80 rfl)
  have aTh : PySem.W.nsIn K mainGlobals "_law_thing" = some (some (.ref (He.ga K "_law_thing"))) := of_decide_eq_true (ex_at cE 81 rfl)
  obtain ⟨_, _, _, _, _, _, _, _, _, lTh, cTh⟩ := fn_raw cD 31 ("_law_thing", none) "_law_thing" "_law_thing" sThing rfl
  have kTh : PySem.W.keepIn K (.ref (He.ga K "_law_thing")) = true := of_decide_eq_true (ex_at cE 82 rfl)
  have aNa : PySem.W.nsIn K mainGlobals "_law_name" = some (some (.ref (He.ga K "_law_name"))) := of_decide_eq_true (ex_at cE 83 rfl)
  obtain ⟨_, _, _, _, _, _, _, _, _, lNa, cNa⟩ := fn_raw cD 32 ("_law_name", none) "_law_name" "_law_name" sName rfl
  have kNa : PySem.W.keepIn K (.ref (He.ga K "_law_name")) = true := of_decide_eq_true (ex_at cE 84 rfl)
  have aDe : PySem.W.nsIn K mainGlobals "_law_deed" = some (some (.ref (He.ga K "_law_deed"))) := of_decide_eq_true (ex_at cE 85 rfl)
  obtain ⟨_, _, _, _, _, _, _, _, _, lDe, cDe⟩ := fn_raw cD 33 ("_law_deed", none) "_law_deed" "_law_deed" sDeed rfl
  have kDe : PySem.W.keepIn K (.ref (He.ga K "_law_deed")) = true := of_decide_eq_true (ex_at cE 86 rfl)
  have aDs : PySem.W.nsIn K mainGlobals "_law_deeds" = some (some (.ref (He.ga K "_law_deeds"))) := of_decide_eq_true (ex_at cE 87 rfl)
  obtain ⟨_, _, _, _, _, _, _, _, _, lDs, cDs⟩ := fn_raw cD 34 ("_law_deeds", none) "_law_deeds" "_law_deeds" sDeeds rfl
  have kDs : PySem.W.keepIn K (.ref (He.ga K "_law_deeds")) = true := of_decide_eq_true (ex_at cE 88 rfl)
  have aTo : PySem.W.nsIn K mainGlobals "_law_top" = some (some (.ref (He.ga K "_law_top"))) := of_decide_eq_true (ex_at cE 89 rfl)
  obtain ⟨_, _, _, _, _, _, _, _, _, lTo, cTo⟩ := fn_raw cD 35 ("_law_top", none) "_law_top" "_law_top" sTop rfl
  have kTo : PySem.W.keepIn K (.ref (He.ga K "_law_top")) = true := of_decide_eq_true (ex_at cE 90 rfl)
  have aXhx : PySem.W.nsIn K mainGlobals "_law_head" = some (some (.ref (He.ga K "_law_head"))) := of_decide_eq_true (ex_at cE 91 rfl)
  obtain ⟨_, _, _, _, _, _, _, _, _, lXhx, cXhx⟩ := fn_raw cD 36 ("_law_head", none) "_law_head" "_law_head" sHeadX rfl
  have kXhx : PySem.W.keepIn K (.ref (He.ga K "_law_head")) = true := of_decide_eq_true (ex_at cE 92 rfl)
  have aXtx : PySem.W.nsIn K mainGlobals "_law_tail" = some (some (.ref (He.ga K "_law_tail"))) := of_decide_eq_true (ex_at cE 93 rfl)
  obtain ⟨_, _, _, _, _, _, _, _, _, lXtx, cXtx⟩ := fn_raw cD 37 ("_law_tail", none) "_law_tail" "_law_tail" sTailX rfl
  have kXtx : PySem.W.keepIn K (.ref (He.ga K "_law_tail")) = true := of_decide_eq_true (ex_at cE 94 rfl)
  have aXnt : PySem.W.nsIn K mainGlobals "_law_number_text" = some (some (.ref (He.ga K "_law_number_text"))) := of_decide_eq_true (ex_at cE 95 rfl)
  obtain ⟨_, _, _, _, _, _, _, _, _, lXnt, cXnt⟩ := fn_raw cD 38 ("_law_number_text", none) "_law_number_text" "_law_number_text" sNt16 rfl
  have kXnt : PySem.W.keepIn K (.ref (He.ga K "_law_number_text")) = true := of_decide_eq_true (ex_at cE 96 rfl)
  have aXrt : PySem.W.nsIn K mainGlobals "_law_row_text" = some (some (.ref (He.ga K "_law_row_text"))) := of_decide_eq_true (ex_at cE 97 rfl)
  obtain ⟨_, _, _, _, _, _, _, _, _, lXrt, cXrt⟩ := fn_raw cD 39 ("_law_row_text", none) "_law_row_text" "_law_row_text" sRowText rfl
  have kXrt : PySem.W.keepIn K (.ref (He.ga K "_law_row_text")) = true := of_decide_eq_true (ex_at cE 98 rfl)
  have aXlc : PySem.W.nsIn K mainGlobals "_law_code" = some (some (.ref (He.ga K "_law_code"))) := of_decide_eq_true (ex_at cE 99 rfl)
  obtain ⟨_, _, _, _, _, _, _, _, _, lXlc, cXlc⟩ := fn_raw cD 40 ("_law_code", none) "_law_code" "_law_code" sLc16 rfl
  have kXlc : PySem.W.keepIn K (.ref (He.ga K "_law_code")) = true := of_decide_eq_true (ex_at cE 100 rfl)
  have aXlp : PySem.W.nsIn K mainGlobals "_law_parts" = some (some (.ref (He.ga K "_law_parts"))) := of_decide_eq_true (ex_at cE 101 rfl)
  obtain ⟨_, _, _, _, _, _, _, _, _, lXlp, cXlp⟩ := fn_raw cD 41 ("_law_parts", none) "_law_parts" "_law_parts" sLParts rfl
  have kXlp : PySem.W.keepIn K (.ref (He.ga K "_law_parts")) = true := of_decide_eq_true (ex_at cE 102 rfl)
  have aXnu : PySem.W.nsIn K mainGlobals "_law_number" = some (some (.ref (He.ga K "_law_number"))) := of_decide_eq_true (ex_at cE 103 rfl)
  obtain ⟨_, _, _, _, _, _, _, _, _, lXnu, cXnu⟩ := fn_raw cD 42 ("_law_number", none) "_law_number" "_law_number" sNu17 rfl
  have kXnu : PySem.W.keepIn K (.ref (He.ga K "_law_number")) = true := of_decide_eq_true (ex_at cE 104 rfl)
  have aXdw : PySem.W.nsIn K mainGlobals "_law_deed_wrong" = some (some (.ref (He.ga K "_law_deed_wrong"))) := of_decide_eq_true (ex_at cE 105 rfl)
  obtain ⟨_, _, _, _, _, _, _, _, _, lXdw, cXdw⟩ := fn_raw cD 43 ("_law_deed_wrong", none) "_law_deed_wrong" "_law_deed_wrong" sDw17 rfl
  have kXdw : PySem.W.keepIn K (.ref (He.ga K "_law_deed_wrong")) = true := of_decide_eq_true (ex_at cE 106 rfl)
  have aXwr : PySem.W.nsIn K mainGlobals "_law_wrong" = some (some (.ref (He.ga K "_law_wrong"))) := of_decide_eq_true (ex_at cE 107 rfl)
  obtain ⟨_, _, _, _, _, _, _, _, _, lXwr, cXwr⟩ := fn_raw cD 44 ("_law_wrong", none) "_law_wrong" "_law_wrong" sWr17 rfl
  have kXwr : PySem.W.keepIn K (.ref (He.ga K "_law_wrong")) = true := of_decide_eq_true (ex_at cE 108 rfl)
  have aXbe : PySem.W.nsIn K mainGlobals "_law_bent" = some (some (.ref (He.ga K "_law_bent"))) := of_decide_eq_true (ex_at cE 109 rfl)
  obtain ⟨_, _, _, _, _, _, _, _, _, lXbe, cXbe⟩ := fn_raw cD 45 ("_law_bent", none) "_law_bent" "_law_bent" sBe17 rfl
  have kXbe : PySem.W.keepIn K (.ref (He.ga K "_law_bent")) = true := of_decide_eq_true (ex_at cE 110 rfl)
  have aXto : PySem.W.nsIn K mainGlobals "_law_tail_of" = some (some (.ref (He.ga K "_law_tail_of"))) := of_decide_eq_true (ex_at cE 111 rfl)
  obtain ⟨_, _, _, _, _, _, _, _, _, lXto, cXto⟩ := fn_raw cD 46 ("_law_tail_of", none) "_law_tail_of" "_law_tail_of" sTo17 rfl
  have kXto : PySem.W.keepIn K (.ref (He.ga K "_law_tail_of")) = true := of_decide_eq_true (ex_at cE 112 rfl)
  have aXrw : PySem.W.nsIn K mainGlobals "_law_raw" = some (some (.ref (He.ga K "_law_raw"))) := of_decide_eq_true (ex_at cE 113 rfl)
  obtain ⟨_, _, _, _, _, _, _, _, _, lXrw, cXrw⟩ := fn_raw cD 47 ("_law_raw", none) "_law_raw" "_law_raw" sRw17 rfl
  have kXrw : PySem.W.keepIn K (.ref (He.ga K "_law_raw")) = true := of_decide_eq_true (ex_at cE 114 rfl)
  have aXtf : PySem.W.nsIn K mainGlobals "_law_two_faults" = some (some (.ref (He.ga K "_law_two_faults"))) := of_decide_eq_true (ex_at cE 115 rfl)
  obtain ⟨_, _, _, _, _, _, _, _, _, lXtf, cXtf⟩ := fn_raw cD 48 ("_law_two_faults", none) "_law_two_faults" "_law_two_faults" sTf17 rfl
  have kXtf : PySem.W.keepIn K (.ref (He.ga K "_law_two_faults")) = true := of_decide_eq_true (ex_at cE 116 rfl)
  have aXtl : PySem.W.nsIn K mainGlobals "_law_tall" = some (some (.ref (He.ga K "_law_tall"))) := of_decide_eq_true (ex_at cE 117 rfl)
  obtain ⟨_, _, _, _, _, _, _, _, _, lXtl, cXtl⟩ := fn_raw cD 49 ("_law_tall", none) "_law_tall" "_law_tall" sTl17 rfl
  have kXtl : PySem.W.keepIn K (.ref (He.ga K "_law_tall")) = true := of_decide_eq_true (ex_at cE 118 rfl)
  have aXgd : PySem.W.nsIn K mainGlobals "_law_good" = some (some (.ref (He.ga K "_law_good"))) := of_decide_eq_true (ex_at cE 119 rfl)
  obtain ⟨_, _, _, _, _, _, _, _, _, lXgd, cXgd⟩ := fn_raw cD 50 ("_law_good", none) "_law_good" "_law_good" sGood17 rfl
  have kXgd : PySem.W.keepIn K (.ref (He.ga K "_law_good")) = true := of_decide_eq_true (ex_at cE 120 rfl)
  have aLaw : PySem.W.nsIn K mainGlobals "law" = some (some (.ref (He.ga K "law"))) := of_decide_eq_true (ex_at cE 121 rfl)
  obtain ⟨_, _, _, _, _, _, _, _, _, lLaw, cLaw⟩ := fn_raw cD 51 ("law", none) "law" "law" sLaw rfl
  have kLaw : PySem.W.keepIn K (.ref (He.ga K "law")) = true := of_decide_eq_true (ex_at cE 122 rfl)
  have aP : PySem.W.nsIn K mainGlobals "Program" = some (some (.ref (He.ga K "Program"))) := of_decide_eq_true (ex_at cE 123 rfl)
  have pgP : PySem.W.plainGet K (He.ga K "Program") Str.empty = true := of_decide_eq_true (ex_at cE 124 rfl)
  have hdP : PySem.W.hasDictIn K (He.ga K "Program") = true := of_decide_eq_true (ex_at cE 125 rfl)
  have poP : PySem.W.plainOver K (He.ga K "Program") = true := of_decide_eq_true (ex_at cE 126 rfl)
  have saP : PySem.W.findIn K (.ref (He.ga K "Program")) "__setattr__" = some (some (.builtin "object.__setattr__")) := of_decide_eq_true (ex_at cE 127 rfl)
  have mkCP : PySem.W.makesIn K (He.ga K "Program") = true := of_decide_eq_true (ex_at cE 128 rfl)
  have kcP : PySem.W.keepIn K (.ref (He.ga K "Program")) = true := of_decide_eq_true (ex_at cE 129 rfl)
  have nDP : PySem.W.findIn K (.ref (He.ga K "Program")) "deeds" = some none := of_decide_eq_true (ex_at cE 130 rfl)
  have nPP : PySem.W.findIn K (.ref (He.ga K "Program")) "plan" = some none := of_decide_eq_true (ex_at cE 131 rfl)
  have caP : PySem.W.findIn K (.ref (He.ga K "Program")) "__class__" = some (some (.builtin "object.__class__")) := of_decide_eq_true (ex_at cE 132 rfl)
  have cmP : PySem.W.mroIn K (He.ga K "Program") (.type "object") = some true := of_decide_eq_true (ex_at cE 133 rfl)
  have neP : PySem.W.findIn K (.ref (He.ga K "Program")) "__ne__" = some (some (.builtin "object.__ne__")) := of_decide_eq_true (ex_at cE 134 rfl)
  have aFm : PySem.W.nsIn K mainGlobals "FORMS" = some (some (.ref (He.ga K "FORMS"))) := of_decide_eq_true (ex_at cE 135 rfl)
  obtain ⟨_, _, ⟨lFm, litF, lowF⟩, ky_lFm⟩ := tab_keys cT 0 (t := (fun K => He.ga K "FORMS", ["told", "first", "second", "pair", "same", "while", "if"])) rfl
  have kyF := kyl_of ky_lFm
  obtain ⟨_, aN1⟩ := int_raw (ex_at cE 136 rfl)
  obtain ⟨_, aN2⟩ := int_raw (ex_at cE 137 rfl)
  obtain ⟨_, aN3⟩ := int_raw (ex_at cE 138 rfl)
  have kii : PySem.W.kitOne K (.type "int") (.type "int") = some true := of_decide_eq_true (ex_at cE 139 rfl)
  have kib : PySem.W.kitOne K (.type "int") (.type "bool") = some false := of_decide_eq_true (ex_at cE 140 rfl)
  have ktt : PySem.W.kitOne K (.type "tuple") (.type "tuple") = some true := of_decide_eq_true (ex_at cE 141 rfl)
  have kss : PySem.W.kitOne K (.type "str") (.type "str") = some true := of_decide_eq_true (ex_at cE 142 rfl)
  obtain ⟨_, fm0⟩ := str_raw (ex_at cE 143 rfl)
  obtain ⟨_, fm1⟩ := str_raw (ex_at cE 144 rfl)
  obtain ⟨_, fm2⟩ := str_raw (ex_at cE 145 rfl)
  obtain ⟨_, fm3⟩ := str_raw (ex_at cE 146 rfl)
  obtain ⟨_, fm4⟩ := str_raw (ex_at cE 147 rfl)
  obtain ⟨_, fm5⟩ := str_raw (ex_at cE 148 rfl)
  obtain ⟨_, fm6⟩ := str_raw (ex_at cE 149 rfl)
  have aPI : PySem.W.findIn K (.ref (He.ga K "Program")) "__init__" = some (some (.ref (He.ma K (He.ga K "Program") "__init__"))) := of_decide_eq_true (ex_at cE 150 rfl)
  have iPI : PySem.W.isFn K (.ref (He.ma K (He.ga K "Program") "__init__")) = true := of_decide_eq_true (ex_at cE 151 rfl)
  obtain ⟨_, _, _, _, _, _, _, _, _, lPI, cPI⟩ := fn_raw cD 52 ("Program", some "__init__") "__init__" "Program.__init__" sPInit rfl
  have kPI : PySem.W.keepIn K (.ref (He.ma K (He.ga K "Program") "__init__")) = true := of_decide_eq_true (ex_at cE 152 rfl)
  have aPL : PySem.W.findIn K (.ref (He.ga K "Program")) "__len__" = some (some (.ref (He.ma K (He.ga K "Program") "__len__"))) := of_decide_eq_true (ex_at cE 153 rfl)
  have iPL : PySem.W.isFn K (.ref (He.ma K (He.ga K "Program") "__len__")) = true := of_decide_eq_true (ex_at cE 154 rfl)
  obtain ⟨_, _, _, _, _, _, _, _, _, lPL, cPL⟩ := fn_raw cD 53 ("Program", some "__len__") "__len__" "Program.__len__" sPLen rfl
  have kPL : PySem.W.keepIn K (.ref (He.ma K (He.ga K "Program") "__len__")) = true := of_decide_eq_true (ex_at cE 155 rfl)
  have aPE : PySem.W.findIn K (.ref (He.ga K "Program")) "__eq__" = some (some (.ref (He.ma K (He.ga K "Program") "__eq__"))) := of_decide_eq_true (ex_at cE 156 rfl)
  have iPE : PySem.W.isFn K (.ref (He.ma K (He.ga K "Program") "__eq__")) = true := of_decide_eq_true (ex_at cE 157 rfl)
  obtain ⟨_, _, _, _, _, _, _, _, _, lPE, cPE⟩ := fn_raw cD 54 ("Program", some "__eq__") "__eq__" "Program.__eq__" sPEq rfl
  have kPE : PySem.W.keepIn K (.ref (He.ma K (He.ga K "Program") "__eq__")) = true := of_decide_eq_true (ex_at cE 158 rfl)
  have aN : PySem.W.nsIn K mainGlobals "TooGreat" = some (some (.ref (He.ga K "TooGreat"))) := of_decide_eq_true (ex_at cE 159 rfl)
  obtain ⟨_, _, _, _, _, _, _, _, _, _, _, _, _, _, xN⟩ := exc_raw (ex_at cE 160 rfl)
  have ovN : PySem.W.excOver K (He.ga K "TooGreat") [.type "OverflowError", .type "ArithmeticError", .type "Exception", .type "BaseException", .type "object"] = true := of_decide_eq_true (ex_at cE 161 rfl)
  have saN : PySem.W.findIn K (.ref (He.ga K "TooGreat")) "__setattr__" = some (some (.builtin "object.__setattr__")) := of_decide_eq_true (ex_at cE 162 rfl)
  have exN : PySem.W.subIn K (.ref (He.ga K "TooGreat")) (.type "BaseException") = some true := of_decide_eq_true (ex_at cE 163 rfl)
  have tyN : PySem.W.typeIn K (.ref (He.ga K "TooGreat")) = some (.type "type") := of_decide_eq_true (ex_at cE 164 rfl)
  have kN : PySem.W.keepIn K (.ref (He.ga K "TooGreat")) = true := of_decide_eq_true (ex_at cE 165 rfl)
  have plN : PySem.W.findIn K (.ref (He.ga K "TooGreat")) "bound" = some none := of_decide_eq_true (ex_at cE 166 rfl)
  have vV : PySem.W.findCls K (.type "OverflowError") (.type "type") "__init__" = some (.val (.builtin "OverflowError.__init__")) := by first | rfl | decide +kernel
  have iN : PySem.W.findIn K (.ref (He.ga K "TooGreat")) "__init__" = some (some (.ref (He.ma K (He.ga K "TooGreat") "__init__"))) := of_decide_eq_true (ex_at cE 167 rfl)
  have tfN : PySem.W.typeIn K (.ref (He.ma K (He.ga K "TooGreat") "__init__")) = some (.type "function") := of_decide_eq_true (ex_at cE 168 rfl)
  obtain ⟨_, _, _, _, _, _, _, _, _, lN, cN⟩ := fn_raw cD 55 ("TooGreat", some "__init__") "__init__" "TooGreat.__init__" sTg rfl
  have kfN : PySem.W.keepIn K (.ref (He.ma K (He.ga K "TooGreat") "__init__")) = true := of_decide_eq_true (ex_at cE 169 rfl)
  have hdN : PySem.W.hasDictIn K (He.ga K "TooGreat") = true := of_decide_eq_true (ex_at cE 170 rfl)
  have scN : PySem.W.subIn K (.ref (He.ga K "TooGreat")) (.ref (He.ga K "TooGreat")) = some true := of_decide_eq_true (ex_at cE 171 rfl)
  have aZ : PySem.W.nsIn K mainGlobals "NoProgram" = some (some (.ref (He.ga K "NoProgram"))) := of_decide_eq_true (ex_at cE 172 rfl)
  obtain ⟨_, _, _, _, _, _, _, _, _, _, _, _, _, _, xZ⟩ := exc_raw (ex_at cE 173 rfl)
  have ovZ : PySem.W.excOver K (He.ga K "NoProgram") [.type "ValueError", .type "Exception", .type "BaseException", .type "object"] = true := of_decide_eq_true (ex_at cE 174 rfl)
  have saZ : PySem.W.findIn K (.ref (He.ga K "NoProgram")) "__setattr__" = some (some (.builtin "object.__setattr__")) := of_decide_eq_true (ex_at cE 175 rfl)
  have exZ : PySem.W.subIn K (.ref (He.ga K "NoProgram")) (.type "BaseException") = some true := of_decide_eq_true (ex_at cE 176 rfl)
  have tyZ : PySem.W.typeIn K (.ref (He.ga K "NoProgram")) = some (.type "type") := of_decide_eq_true (ex_at cE 177 rfl)
  have kZ : PySem.W.keepIn K (.ref (He.ga K "NoProgram")) = true := of_decide_eq_true (ex_at cE 178 rfl)
  have plZ : PySem.W.findIn K (.ref (He.ga K "NoProgram")) "place" = some none := of_decide_eq_true (ex_at cE 179 rfl)
  have vVZ : PySem.W.findCls K (.type "ValueError") (.type "type") "__init__" = some (.val (.builtin "ValueError.__init__")) := by first | rfl | decide +kernel
  have iZ : PySem.W.findIn K (.ref (He.ga K "NoProgram")) "__init__" = some (some (.ref (He.ma K (He.ga K "NoProgram") "__init__"))) := of_decide_eq_true (ex_at cE 180 rfl)
  have tfZ : PySem.W.typeIn K (.ref (He.ma K (He.ga K "NoProgram") "__init__")) = some (.type "function") := of_decide_eq_true (ex_at cE 181 rfl)
  obtain ⟨_, _, _, _, _, _, _, _, _, lZ, cZ⟩ := fn_raw cD 56 ("NoProgram", some "__init__") "__init__" "NoProgram.__init__" sNp rfl
  have kfZ : PySem.W.keepIn K (.ref (He.ma K (He.ga K "NoProgram") "__init__")) = true := of_decide_eq_true (ex_at cE 182 rfl)
  have hdZ : PySem.W.hasDictIn K (He.ga K "NoProgram") = true := of_decide_eq_true (ex_at cE 183 rfl)
  have scZ : PySem.W.subIn K (.ref (He.ga K "NoProgram")) (.ref (He.ga K "NoProgram")) = some true := of_decide_eq_true (ex_at cE 184 rfl)
  have kni : PySem.W.kitOne K (.type "NoneType") (.type "int") = some false := of_decide_eq_true (ex_at cE 185 rfl)
  have kCi : PySem.W.kitOne K (.ref (He.ga K "Thing")) (.type "int") = some false := of_decide_eq_true (ex_at cE 186 rfl)
  have kCt : PySem.W.kitOne K (.ref (He.ga K "Thing")) (.type "tuple") = some false := of_decide_eq_true (ex_at cE 187 rfl)
  have kbb : PySem.W.kitOne K (.type "bool") (.type "bool") = some true := of_decide_eq_true (ex_at cE 188 rfl)
  have gaZ : PySem.W.findIn K (.ref (He.ga K "NoProgram")) "__getattribute__" = some (some (.builtin "BaseException.__getattribute__")) := of_decide_eq_true (ex_at cE 189 rfl)
  have ggZ : PySem.W.findIn K (.ref (He.ga K "NoProgram")) "__getattr__" = some none := of_decide_eq_true (ex_at cE 190 rfl)
  have icZ : PySem.W.isClsIn K (He.ga K "NoProgram") = true := of_decide_eq_true (ex_at cE 191 rfl)
  have caZ : PySem.W.findIn K (.ref (He.ga K "NoProgram")) "__class__" = some (some (.builtin "object.__class__")) := of_decide_eq_true (ex_at cE 192 rfl)
  have cmZ : PySem.W.mroIn K (He.ga K "NoProgram") (.type "object") = some true := of_decide_eq_true (ex_at cE 193 rfl)
  have oz1 : PySem.W.nsIn K mainGlobals "NoName" = some (some (.ref (He.ga K "NoName"))) := of_decide_eq_true (ex_at cE 194 rfl)
  have oz2 : PySem.W.nsIn K mainGlobals "NoRoom" = some (some (.ref (He.ga K "NoRoom"))) := of_decide_eq_true (ex_at cE 195 rfl)
  have oz3 : PySem.W.nsIn K mainGlobals "NoSaying" = some (some (.ref (He.ga K "NoSaying"))) := of_decide_eq_true (ex_at cE 196 rfl)
  have oz4 : PySem.W.nsIn K mainGlobals "NoStep" = some (some (.ref (He.ga K "NoStep"))) := of_decide_eq_true (ex_at cE 197 rfl)
  have oz5 : PySem.W.nsIn K mainGlobals "NoText" = some (some (.ref (He.ga K "NoText"))) := of_decide_eq_true (ex_at cE 198 rfl)
  have kaZ : PySem.W.kitAny K (.ref (He.ga K "NoProgram")) [.ref (He.ga K "NoName"), .ref (He.ga K "NoRoom"), .ref (He.ga K "NoSaying"), .ref (He.ga K "NoStep"), .ref (He.ga K "NoText"), .ref (He.ga K "TooGreat")] = some false := of_decide_eq_true (ex_at cE 199 rfl)
  have z_len : PySem.W.nsIn K mainGlobals "len" = some none := of_decide_eq_true (ex_at cE 200 rfl)
  have z_range : PySem.W.nsIn K mainGlobals "range" = some none := of_decide_eq_true (ex_at cE 201 rfl)
  have z_isinstance : PySem.W.nsIn K mainGlobals "isinstance" = some none := of_decide_eq_true (ex_at cE 202 rfl)
  have z_abs : PySem.W.nsIn K mainGlobals "abs" = some none := of_decide_eq_true (ex_at cE 203 rfl)
  have z_int : PySem.W.nsIn K mainGlobals "int" = some none := of_decide_eq_true (ex_at cE 204 rfl)
  have z_str : PySem.W.nsIn K mainGlobals "str" = some none := of_decide_eq_true (ex_at cE 205 rfl)
  have z_max : PySem.W.nsIn K mainGlobals "max" = some none := of_decide_eq_true (ex_at cE 206 rfl)
  have z_min : PySem.W.nsIn K mainGlobals "min" = some none := of_decide_eq_true (ex_at cE 207 rfl)
  have z_all : PySem.W.nsIn K mainGlobals "all" = some none := of_decide_eq_true (ex_at cE 208 rfl)
  have z_bool : PySem.W.nsIn K mainGlobals "bool" = some none := of_decide_eq_true (ex_at cE 209 rfl)
  have z_tuple : PySem.W.nsIn K mainGlobals "tuple" = some none := of_decide_eq_true (ex_at cE 210 rfl)
  have z_zip : PySem.W.nsIn K mainGlobals "zip" = some none := of_decide_eq_true (ex_at cE 211 rfl)
  have z_enumerate : PySem.W.nsIn K mainGlobals "enumerate" = some none := of_decide_eq_true (ex_at cE 212 rfl)
  have z_list : PySem.W.nsIn K mainGlobals "list" = some none := of_decide_eq_true (ex_at cE 213 rfl)
  have z_OverflowError : PySem.W.nsIn K mainGlobals "OverflowError" = some none := of_decide_eq_true (ex_at cE 214 rfl)
  have z_reversed : PySem.W.nsIn K mainGlobals "reversed" = some none := of_decide_eq_true (ex_at cE 215 rfl)
  have z_ValueError : PySem.W.nsIn K mainGlobals "ValueError" = some none := of_decide_eq_true (ex_at cE 216 rfl)
  have z_any : PySem.W.nsIn K mainGlobals "any" = some none := of_decide_eq_true (ex_at cE 217 rfl)
  exact all_mk X G hfa aC pg hd po sa mkC kc nF nS nZ ca cn ct cm neC aM aI iI lI cI kI lT aEq iEq lEq cEq kEq aSt iSt lSt cSt kSt aPa lPa cPa kPa aAl lAl cAl kAl aSg lSg cSg kSg aIn lIn cIn kIn aFt lFt cFt kFt aHf lHf cHf kHf aRi lRi cRi kRi aLk lLk cLk kLk aLy lLy cLy kLy aNu lNu cNu kNu aRo lRo cRo kRo aCo lCo cCo kCo aRc lRc cRc kRc aDc lDc cDc kDc aPc lPc cPc kPc aCn lCn cCn kCn aPp lPp cPp kPp aPo lPo cPo kPo aOt lOt cOt kOt aDt lDt cDt kDt aKt lKt cKt kKt aPt lPt cPt kPt aIc lIc cIc kIc aRe lRe cRe kRe aWh lWh cWh kWh aDu lDu cDu kDu aBa lBa cBa kBa aTa lTa cTa kTa aTh lTh cTh kTh aNa lNa cNa kNa aDe lDe cDe kDe aDs lDs cDs kDs aTo lTo cTo kTo aXhx lXhx cXhx kXhx aXtx lXtx cXtx kXtx aXnt lXnt cXnt kXnt aXrt lXrt cXrt kXrt aXlc lXlc cXlc kXlc aXlp lXlp cXlp kXlp aXnu lXnu cXnu kXnu aXdw lXdw cXdw kXdw aXwr lXwr cXwr kXwr aXbe lXbe cXbe kXbe aXto lXto cXto kXto aXrw lXrw cXrw kXrw aXtf lXtf cXtf kXtf aXtl lXtl cXtl kXtl aXgd lXgd cXgd kXgd aLaw lLaw cLaw kLaw aP pgP hdP poP saP mkCP kcP nDP nPP caP cmP neP aFm lFm litF lowF aN1 aN2 aN3 kii kib ktt kss fm0 fm1 fm2 fm3 fm4 fm5 fm6 aPI iPI lPI cPI kPI aPL iPL lPL cPL kPL aPE iPE lPE cPE kPE aN xN ovN saN exN tyN kN plN vV iN tfN lN cN kfN hdN scN aZ xZ ovZ saZ exZ tyZ kZ plZ vVZ iZ tfZ lZ cZ kfZ hdZ scZ kni kyF kCi kCt kbb gaZ ggZ icZ caZ cmZ oz1 oz2 oz3 oz4 oz5 kaZ z_len z_range z_isinstance z_abs z_int z_str z_max z_min z_all z_bool z_tuple z_zip z_enumerate z_list z_OverflowError z_reversed z_ValueError z_any
end Js
open PySem PySem.W PySem.Calls PyProof.Rows in
set_option maxRecDepth 100000 in
set_option maxHeartbeats 0 in
theorem PySem.Challenge.cw_judgeslip_k17_no_codes_holds : PySem.Challenge.rw_judgeslip_k17_no_codes.Holds := by
  w_on; o_law
  refine HandSHeadRun.head_any (r := OpenLaw.row PySem.Challenge.rw_judgeslip_k17_no_codes) (q := view (OpenLaw.row PySem.Challenge.rw_judgeslip_k17_no_codes).prog [73]) (H := Js.hkX) (ob := Js.hob) (M := 20000) (loose := Js.hnames) (d := HandSHeadRun.topDef (OpenLaw.row PySem.Challenge.rw_judgeslip_k17_no_codes).prog 73) (kwd := []) Js.hob_eq
    Js.hfe Js.hff Js.hrun Js.hfd Js.hfp (by kernel_rfl) (by rfl) (by first | assumption | decide +kernel) Js.hfo Js.hfb ?hw ?hc
  case hw => w_witness2
  case hc =>
    refine L2.walk_ofE (l := PySem.Challenge.rw_judgeslip_k17_no_codes) (n := 63) (k := 37) (x := "_law_script") (CX := L2.CX0) rfl (by decide) (by kernel_rfl) ⟨rfl, by decide, by decide⟩ ?F (fun _ _ _ _ z => z)
    intro w mg fa h Y G hmg0
    obtain ⟨K, KX, cT, cX⟩ := Y
    have hmg : mg ("law" : PySem.Str) = some (.ref fa) := by
      have e : (HandSHeadRun.topDef (OpenLaw.row PySem.Challenge.rw_judgeslip_k17_no_codes).prog 73).name = ("law" : PySem.Str) := by kernel_rfl
      rw [← e]
      exact hmg0
    obtain ⟨fd, hb, hF⟩ := Js.hfacts (P := (PySem.Challenge.rw_judgeslip_k17_no_codes).prog) (w := w) KX G hmg cT cX
    exact ⟨K, fd, Js.spLaw K, KX, hb, fun H a ns hl _ hS => ⟨a, ns, rfl, hS, hl, fun _ => rfl⟩, hF⟩
