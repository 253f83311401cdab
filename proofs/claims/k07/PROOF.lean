import PyProof.Rows.All
import Wide.All
import OpenK.AllK
import Wide.FinOn
import PyProof.EqAt
import PyProof.EqKinds
import PyProof.TupleCall
import HandS.ForMost
import HandS.ForExc
import HandS.IsInst
import HandS.NoneIn
import HandS.Defaults
import HandS.MakeKw
import HandS.OwnEq
import HandS.Walk
import HandS.Rev
import HandS.FStr
import HandS.More
import KE.KCallOwn
import HandS.Conv
import KE.KStateDown
import HandS.Base
import HandS.Call
import HandS.Ends
import HandS.Exc
import HandS.Words
import HandS.WordsExc
import HandS.Head0
import HandS.Head1
import HandS.Head2
import HandS.HeadEnd
import HandS.HeadHook1
import HandS.HeadHook2
import HandS.HeadHook3
import HandS.HeadHook4
import KE.KExcLine
import HandS.ExcIs
import PyProof.NeKinds
import HandS.Zip
import HandS.Zip0
import KE.GoesZip
import KE.GoesMore
import HandS.TryOnly
import HandS.ExcInit
import HandS.ExcField
import HandS.ExcOwn
import KE.KExcIs
import KE.KExcInit
import PyProof.ExcBaseAll.OverflowError
import PyProof.ExcBaseAll.ValueError
import HandS.HotCalls
import HandS.ExcInitHot
import HandS.Replace
import PyProof.Rows.EqNone
import HandS.Records
import HandS.TupAny
import HandS.TupMul
import HandS.Style
import HandS.Text
import HandS.Small
import HandS.AnyAll
import PySem.Challenge.RW_judgeslip_k07_no_programs
set_option Elab.async false
set_option linter.all false
set_option maxRecDepth 100000
set_option maxHeartbeats 2000000
namespace L2
open PySem PySem.Spec PyProof.Rows
section
variable {X : Cx} {CX : CXT} {n : Nat} {C f : Addr} {fd : FuncData} {ps : List Str} {sp : Sp} {E : XK} {pins : List (Addr × Obj)} {σ : St} {H : Hp} {s : Shared}
theorem run_fnA {A : Around} {Q : VK} {us : List Value} {vs : List V} (F : FnOk X.prog X.w X.K X.mg X.base CX n f fd ps sp) (hr : Room n A) (e0 : Env0 X.prog X.w X.K X.mg X.base A X.stack s H) (hb : Binds X.K fd ps []) (hx : Passes CX X E)
    (I : Inv X pins σ H s) (r : Vals vs us) (h : sp vs H Q E) : wpAny (model X.prog X.w) A (call (.ref f) us) (EP X pins σ Q) X.xe s := by
  have hl : (us ++ []).length = ps.length := by rw [List.append_nil, ← r.length]; exact F.len _ _ _ _ h
  have hb' := hb s us I.kIn hl
  rw [List.append_nil] at hb'
  refine wpAny_call (codeAny_mono (F.run A X.stack s H ⟨us, []⟩ us vs Q E hr e0 hb' r h) fun r s' hq => ?_)
  cases r with
  | error e => exact hx pins σ H s e s' I hq
  | ok fl =>
    cases fl with
    | ret u => exact I.after hq
    | next => exact False.elim hq
    | brk => exact False.elim hq
    | cont => exact False.elim hq
theorem inst_of {a dx : Addr} {fs : List (Str × V)} (I : Inv X pins σ H s) (ha : H a = some (.ins C dx fs)) : ∃ od, PySem.W.InstAt s.heap a (PySem.W.instObj C dx) C (some od) := by
  obtain ⟨mA, J, _⟩ := ins_get I.hok ha
  obtain ⟨od, J, _⟩ := J.look
  exact ⟨od, J⟩
structure Own (K : PySem.W.Frag) (C : Addr) (name : Str) (f : Addr) : Prop where
  at_ : PySem.W.findIn K (.ref C) name = some (some (.ref f))
  fn : PySem.W.isFn K (.ref f) = true
def rLenOwn (C : Addr) (sp : Sp) (E : XK) : List V → Hp → VK → Prop := fun xs H Q => ∃ a dx fs, xs = [V.ref a] ∧ H a = some (.ins C dx fs) ∧ sp [.ref a] H (fun z H' => ∃ i : Int, z = .int i ∧ (0 ≤ i ∧ i < 2 ^ 63) ∧ Q (.int i) H') E
theorem call_lenOwn (o : Own X.K C "__len__" f) (F : FnOk X.prog X.w X.K X.mg X.base CX n f fd ps sp) (hb : Binds X.K fd ps []) (hr : Room (n + 1) X.A) (hx : Passes CX X E) : CallR X (.builtin "len") (rLenOwn C sp E) := by
  intro pins s σ H xs us Q I r h
  obtain ⟨a, dx, fs, rfl, ha, q⟩ := h
  obtain ⟨u, rfl, ru⟩ := vals1 r
  cases (show u = Value.ref a from ru)
  obtain ⟨od, J⟩ := inst_of I ha
  obtain ⟨m, hF⟩ := I.fr
  refine PySem.W.len_K hF I.ok.mod.kin J o.at_ o.fn (wpAny_mono (run_fnA (us := [.ref a]) (vs := [.ref a]) F hr.in1 I.env0.in1 hb hx I (.cons rfl .nil) q) (fun w s' z => ?_) fun _ _ x => x)
  obtain ⟨z', H', I', rz, i, ei, hi, qz⟩ := z
  subst ei
  obtain ⟨t, e⟩ := (show ∃ t, w = Value.int i t from rz)
  cases e
  exact ⟨hi, .int i, H', I'.tok _, ⟨_, rfl⟩, qz⟩
end
end L2
set_option Elab.async false
set_option linter.all false
set_option maxRecDepth 100000
set_option maxHeartbeats 2000000
namespace L2
open PySem PySem.Spec PyProof.Rows
abbrev Tells := V → V → Bool → Hp → Prop
def EqT (X : Cx) (n : Nat) (D : Tells) : Prop :=
  ∀ (A : Around) (pins : List (Addr × Obj)) (s : Shared) (σ : St) (H : Hp) (x y : V) (u v : Value) (r : Bool), Sub X n A → Inv X pins σ H s → RelV x u → RelV y v → D x y r H →
    wpAny (model X.prog X.w) A (eqBool u v) (fun r' s' => r' = r ∧ ∃ H', Inv X pins σ H' s' ∧ Same H H') X.xe s
def gSlice (to : TE) (tl th : TO) : TG := fun v σ H Q => to σ H fun o H1 => tl σ H1 fun l H2 => th σ H2 fun u H3 => ∃ (p q : Addr) (xs ys : List V) (a c : Int), o = .ref p ∧ v = .ref q ∧ l = some a ∧ u = some c ∧ H3 p = some (.lst xs) ∧ H3 q = some (.lst ys) ∧ p ≠ q ∧
  0 ≤ a ∧ a ≤ c ∧ c ≤ xs.length ∧ xs.length + ys.length ≤ sizeLine ∧ Q σ (upd H3 p (.lst (xs.take a.toNat ++ ys ++ xs.drop c.toNat)))
theorem pg_slice {X : Cx} {o : Expr} {lo hi : Option Expr} {to : TE} {tl th : TO} {p2 pos : Pos} (ho : PE X o to) (hl : PO X lo tl) (hu : PO X hi th)
    (ha : ∀ v, assign (.Subscript o (.Slice lo hi none p2) pos) X.env v = (do
      let ov ← holding [v] (eval o X.env)
      let iv ← holding [v, ov] (eval (.Slice lo hi none p2) X.env)
      standAt pos
      holding [v, ov, iv] (setItem ov iv v)
      release [iv, v, ov] []) := by intro _; rfl) : PG X (.Subscript o (.Slice lo hi none p2) pos) (gSlice to tl th) := by
  refine ⟨fun pins s σ H v u Q I r h => ?_⟩
  rw [ha]
  refine wpAny_bind (wpAny_holding (thn (ho.run pins s σ H _ I h) fun ov s1 ⟨x, H1, I1, r1, q1⟩ => ?_))
  refine wpAny_bind (wpAny_holding (wpAny_Slice (thn (hl.run pins s1 σ H1 _ I1 q1) fun vl s2 ⟨l, H2, I2, pl, q2⟩ => thn (hu.run pins s2 σ H2 _ I2 q2) fun vu s3 ⟨m, H3, I3, pu, q3⟩ => ?_)))
  rw [evalPart_none]
  refine wpAny_pure ?_
  have I4 : Inv X pins σ H3 { s3 with heap := s3.heap.push { cls := .type "slice", data := .fields #[vl, vu, .none] } } := I3.kept (t' := s3.toks) fun b ob q => Heap.get?_push_of_some _ q
  obtain ⟨p, q, xs, ys, a, c, rfl, rfl, rfl, rfl, hp, hq, hne, h0, hac, hc, hz, k⟩ := q3
  cases (show ov = Value.ref p from r1)
  cases (show u = Value.ref q from r)
  refine wpAny_bind (wpAny_standAt (wpAny_bind (wpAny_holding ?_)))
  have ra : RelV (.int a) vl := by cases pl; exact ⟨_, rfl⟩
  have rc : RelV (.int c) vu := by cases pu; exact ⟨_, rfl⟩
  exact set_slice I4 hp hq hne (Heap.IsSliceOf.new ..) ra rc h0 hac hc hz fun s' I5 => wpAny_release ⟨σ, _, I5, k⟩
end L2
set_option Elab.async false
set_option linter.all false
set_option maxRecDepth 100000
set_option maxHeartbeats 2000000
namespace L2
open PySem PySem.Spec PyProof.Rows
end L2
set_option Elab.async false
set_option linter.all false
set_option maxRecDepth 100000
set_option maxHeartbeats 2000000
namespace Js
open PySem L2
inductive Tr where
  | nil
  | pr (l r : Tr)
  deriving DecidableEq
namespace Tr
def size : Tr → Nat
  | nil => 0
  | pr l r => 1 + l.size + r.size
def codes : Tr → List Nat
  | nil => [46]
  | pr l r => 40 :: (l.codes ++ (r.codes ++ [41]))
def text (t : Tr) : Str := ⟨t.codes.toArray⟩
theorem size_nil {t : Tr} (h : t.size = 0) : t = nil := by
  cases t with
  | nil => rfl
  | pr l r => simp [size] at h
theorem small_eq {t u : Tr} (h : t.size = u.size) (h1 : t.size ≤ 1) : t = u := by
  cases t with
  | nil => exact (size_nil h.symm).symm
  | pr l r =>
    cases u with
    | nil => simp [size] at h
    | pr l' r' =>
      simp only [size] at h h1
      have e1 := size_nil (t := l) (by omega)
      have e2 := size_nil (t := r) (by omega)
      have e3 := size_nil (t := l') (by omega)
      have e4 := size_nil (t := r') (by omega)
      rw [e1, e2, e3, e4]
def head : Tr → Tr
  | nil => nil
  | pr l _ => l
def tail : Tr → Tr
  | nil => nil
  | pr _ r => r
end Tr
open Tr (small_eq)
theorem n_fs : ¬ (("first" : Str) = "second") := by decide +kernel
theorem n_fz : ¬ (("first" : Str) = "size") := by decide +kernel
theorem n_sz : ¬ (("second" : Str) = "size") := by decide +kernel
def tf (f s : V) (n : Int) : List (Str × V) := putF "size" (.int n) (putF "second" s (putF "first" f []))
theorem tf_first (f s : V) (n : Int) : (tf f s n).lookup ("first" : Str) = some f := by
  unfold tf
  rw [lookup_putF, if_neg n_fz, lookup_putF, if_neg n_fs, lookup_putF, if_pos rfl]
theorem tf_second (f s : V) (n : Int) : (tf f s n).lookup ("second" : Str) = some s := by
  unfold tf
  rw [lookup_putF, if_neg n_sz, lookup_putF, if_pos rfl]
theorem tf_size (f s : V) (n : Int) : (tf f s n).lookup ("size" : Str) = some (.int n) := by
  unfold tf
  rw [lookup_putF, if_pos rfl]
inductive Th (C : Addr) (H : Hp) : Addr → Tr → Prop where
  | nil {a dx : Addr} (h : H a = some (.ins C dx (tf .non .non 0))) : Th C H a .nil
  | pr {a dx b c : Addr} {l r : Tr} (h : H a = some (.ins C dx (tf (.ref b) (.ref c) ((Tr.pr l r).size : Nat)))) (hl : Th C H b l) (hr : Th C H c r) : Th C H a (.pr l r)
def KT (H H' : Hp) : Prop := ∀ a o, H a = some o → (∀ xs, o ≠ HO.lst xs) → H' a = some o
theorem KT.of {H H' : Hp} (s : Same H H') : KT H H' := fun _ _ h _ => s _ _ h
theorem KT.refl (H : Hp) : KT H H := fun _ _ h _ => h
theorem KT.trans {H H1 H2 : Hp} (a : KT H H1) (b : KT H1 H2) : KT H H2 := fun x o h n => b x o (a x o h n) n
theorem KT.lst {H : Hp} {p : Addr} {o : HO} {xs : List V} (hp : H p = some (.lst xs)) : KT H (upd H p o) := fun a u h n => by
  rw [upd_ne]
  · exact h
  · intro e
    subst e
    exact n _ (Option.some.inj (h.symm.trans hp))
theorem KT.new {H : Hp} {p : Addr} {o : HO} (hp : H p = none) : KT H (upd H p o) := fun a u h n => by
  rw [upd_ne (ne_of_none h hp)]
  exact h
theorem _root_.L2.Same.new {H : Hp} {p : Addr} {o : HO} (hp : H p = none) : Same H (upd H p o) := fun a u h => by
  rw [upd_ne (ne_of_none h hp)]
  exact h
theorem _root_.L2.Same.set {H0 H : Hp} {p : Addr} {o : HO} (s : Same H0 H) (hp : H0 p = none) : Same H0 (upd H p o) := fun a u h => by
  rw [upd_ne (ne_of_none h hp)]
  exact s _ _ h
theorem Th.kt {C : Addr} {H H' : Hp} (k : KT H H') {a : Addr} {t : Tr} (h : Th C H a t) : Th C H' a t := by
  induction h with
  | nil h => exact .nil (k _ _ h (fun _ e => nomatch e))
  | pr h _ _ ih1 ih2 => exact .pr (k _ _ h (fun _ e => nomatch e)) ih1 ih2
theorem Th.same {C : Addr} {H H' : Hp} (s : Same H H') {a : Addr} {t : Tr} (h : Th C H a t) : Th C H' a t := h.kt (KT.of s)
theorem Th.obj {C : Addr} {H : Hp} {a : Addr} {t : Tr} (h : Th C H a t) : ∃ dx f s, H a = some (.ins C dx (tf f s (t.size : Nat))) := by
  cases h with
  | nil h => exact ⟨_, _, _, h⟩
  | pr h _ _ => exact ⟨_, _, _, h⟩
theorem tf_ref_inj {C dx dx' : Addr} {f s f' s' : V} {n n' : Int} (h : HO.ins C dx (tf f s n) = HO.ins C dx' (tf f' s' n')) : f = f' ∧ s = s' ∧ n = n' := by
  injection h with _ _ h3
  have e1 := congrArg (List.lookup ("first" : Str)) h3
  have e2 := congrArg (List.lookup ("second" : Str)) h3
  have e3 := congrArg (List.lookup ("size" : Str)) h3
  rw [tf_first, tf_first] at e1
  rw [tf_second, tf_second] at e2
  rw [tf_size, tf_size] at e3
  exact ⟨Option.some.inj e1, Option.some.inj e2, V.int.inj (Option.some.inj e3)⟩
theorem Th.inj {C : Addr} {H : Hp} {a : Addr} {t u : Tr} (h : Th C H a t) (h' : Th C H a u) : t = u := by
  induction h generalizing u with
  | nil h =>
    cases h' with
    | nil _ => rfl
    | pr h' _ _ =>
      have e := Option.some.inj (h.symm.trans h')
      exact V.noConfusion (tf_ref_inj e).1
  | pr h _ _ ih1 ih2 =>
    cases h' with
    | nil h' =>
      have e := Option.some.inj (h.symm.trans h')
      exact V.noConfusion (tf_ref_inj e).1
    | pr h' h1 h2 =>
      have e := tf_ref_inj (Option.some.inj (h.symm.trans h'))
      have e1 := V.ref.inj e.1
      have e2 := V.ref.inj e.2.1
      subst e1 e2
      rw [ih1 h1, ih2 h2]
theorem Th.pair {C : Addr} {H : Hp} {a : Addr} {l r : Tr} (h : Th C H a (.pr l r)) : ∃ dx b c, H a = some (.ins C dx (tf (.ref b) (.ref c) ((Tr.pr l r).size : Nat))) ∧ Th C H b l ∧ Th C H c r := by
  cases h with
  | pr h hl hr => exact ⟨_, _, _, h, hl, hr⟩
theorem last_rev {α : Type} (v : α) (r : List α) : (v :: r).reverse[(v :: r).reverse.length - 1]? = some v := by
  rw [List.reverse_cons, List.length_append, List.length_reverse]
  show (r.reverse ++ [v])[r.length + 1 - 1]? = some v
  rw [Nat.add_sub_cancel, List.getElem?_append_right (by rw [List.length_reverse]; exact Nat.le_refl _), List.length_reverse, Nat.sub_self]
  rfl
theorem drop_rev {α : Type} (v : α) (r : List α) : (v :: r).reverse.dropLast = r.reverse := by
  rw [List.reverse_cons, List.dropLast_concat]
theorem push_rev {α : Type} (v : α) (r : List α) : r.reverse ++ [v] = (v :: r).reverse := by
  rw [List.reverse_cons]
def PrAt (C : Addr) (H : Hp) (v : V) (p : Tr × Tr) : Prop := ∃ q a b, v = .ref q ∧ H q = some (.tup [.ref a, .ref b]) ∧ Th C H a p.1 ∧ Th C H b p.2
theorem PrAt.kt {C : Addr} {H H' : Hp} (k : KT H H') {v : V} {p : Tr × Tr} (h : PrAt C H v p) : PrAt C H' v p := by
  obtain ⟨q, a, b, e, hq, h1, h2⟩ := h
  exact ⟨q, a, b, e, k _ _ hq (fun _ e => nomatch e), h1.kt k, h2.kt k⟩
theorem prs_kt {C : Addr} {H H' : Hp} (k : KT H H') : ∀ {rs : List V} {ps : List (Tr × Tr)}, Paired (PrAt C H) rs ps → Paired (PrAt C H') rs ps
  | _, _, .nil => .nil
  | _, _, .cons h t => .cons (h.kt k) (prs_kt k t)
def pm (ps : List (Tr × Tr)) : Nat := (ps.map fun p => 2 * p.1.size + 1).sum
theorem pm_cons (p : Tr × Tr) (ps : List (Tr × Tr)) : pm (p :: ps) = 2 * p.1.size + 1 + pm ps := by simp [pm]
theorem pm_len : ∀ ps : List (Tr × Tr), ps.length ≤ pm ps
  | [] => Nat.zero_le _
  | p :: ps => by
    have := pm_len ps
    rw [pm_cons, List.length_cons]
    omega
def WtAt (C : Addr) (H : Hp) (v : V) (o : Option Tr) : Prop := (v = .non ∧ o = none) ∨ ∃ a t, v = .ref a ∧ o = some t ∧ Th C H a t
theorem WtAt.kt {C : Addr} {H H' : Hp} (k : KT H H') {v : V} {o : Option Tr} (h : WtAt C H v o) : WtAt C H' v o := by
  rcases h with h | ⟨a, t, e1, e2, h⟩
  · exact .inl h
  · exact .inr ⟨a, t, e1, e2, h.kt k⟩
theorem line4 : 100000 < sizeLine := by rw [sizeLine_eq]; decide
end Js
set_option Elab.async false
set_option linter.all false
set_option maxRecDepth 100000
set_option maxHeartbeats 2000000
namespace Js
open PySem L2
def top (i : Nat) : Stmt := PySem.Challenge.pw_judgeslip_k07_no_programs.main.body.getD i (.Pass ⟨0, 0, 0, 0⟩)
abbrev sInit : Stmt := inClass (top 11) 0
abbrev sEq : Stmt := inClass (top 11) 4
abbrev sPairs : Stmt := top 12
abbrev sAlike : Stmt := top 13
structure Txt (K : PySem.W.Frag) (mg : Str → Option Value) (C : Addr) : Prop where
  cl : Cls K C
  nF : NoAttr K C "first"
  nS : NoAttr K C "second"
  nZ : NoAttr K C "size"
  mgC : mg "Thing" = some (.ref C)
  mgM : ∃ t, mg "MOST_PAIRS" = some (.int 4000 t)
  len : mg "len" = none
  range : mg "range" = none
  isi : mg "isinstance" = none
  ca : PySem.W.findIn K (.ref C) "__class__" = some (some (.builtin "object.__class__"))
  cn : PySem.W.specialIn K (.builtin "object.__class__") "__get__" = some (some (.builtin "getset_descriptor.__get__"))
  ct : PySem.W.takesIn K (.builtin "object.__class__") = some true
  cm : PySem.W.mroIn K C (.type "object") = some true
  ne : PySem.W.findIn K (.ref C) "__ne__" = some (some (.builtin "object.__ne__"))
structure At (K : PySem.W.Frag) (mg : Str → Option Value) (x : Str) (st : Stmt) (ps : List Str) (f : Addr) (fd : FuncData) : Prop where
  F : Fun K x x st f fd
  mgf : mg x = some (.ref f)
  b : Binds K fd ps []
def PairsOf (C : Addr) (H : Hp) (x y : V) (n : Nat) : Prop := (x = .non ∧ y = .non ∧ n = 0) ∨ ∃ a b t u, x = .ref a ∧ y = .ref b ∧ Th C H a t ∧ Th C H b u ∧ n = 1 + t.size + u.size
def spPairs (C : Addr) : Sp := fun vs H Q _ => ∃ x y n, vs = [x, y] ∧ PairsOf C H x y n ∧ Q (.int (n : Nat)) H
def spInit (C : Addr) : Sp := fun vs H Q _ => ∃ (p dx : Addr) (x y : V) (n : Nat), vs = [.ref p, x, y] ∧ H p = some (.ins C dx []) ∧ PairsOf C H x y n ∧ n ≤ 4000 ∧ Q .non (upd H p (.ins C dx (tf x y (n : Nat))))
def spEqT (C : Addr) : Sp := fun vs H Q _ => ∃ a b t u, vs = [.ref a, .ref b] ∧ Th C H a t ∧ Th C H b u ∧ t.size ≤ 4000 ∧ ∀ H', Same H H' → Q (.bl (decide (t = u))) H'
theorem mk_pr {C a b : Addr} {H : Hp} {t u : Tr} {Q : VK} {E : XK} (ha : Th C H a t) (hb : Th C H b u) (hz : 1 + t.size + u.size ≤ 4000) (k : ∀ x H', Same H H' → H x = none → Th C H' x (.pr t u) → Q (.ref x) H') :
    ∀ x dx, H x = none → H dx = none → dx ≠ x → spInit C (.ref x :: ([.ref a, .ref b] ++ [])) (upd (upd H dx (.own x)) x (.ins C dx [])) (fun v H3 => v = .non ∧ Q (.ref x) H3) E := by
  intro x dx nx ndx ne
  have s0 : Same H (upd (upd H dx (.own x)) x (.ins C dx [])) := fun b o e => by
    rw [upd_ne (ne_of_none e nx), upd_ne (ne_of_none e ndx)]
    exact e
  refine ⟨x, dx, _, _, 1 + t.size + u.size, rfl, upd_same, .inr ⟨a, b, t, u, rfl, rfl, ha.same s0, hb.same s0, rfl⟩, hz, rfl, ?_⟩
  rw [upd_upd]
  have s1 : Same H (upd (upd H dx (.own x)) x (.ins C dx (tf (.ref a) (.ref b) ((1 + t.size + u.size : Nat) : Int)))) := fun b o e => by
    rw [upd_ne (ne_of_none e nx), upd_ne (ne_of_none e ndx)]
    exact e
  exact k x _ s1 nx (.pr upd_same (ha.same s1) (hb.same s1))
theorem mk_nil {C : Addr} {H : Hp} {Q : VK} {E : XK} (k : ∀ x H', Same H H' → H x = none → Th C H' x .nil → Q (.ref x) H') :
    ∀ x dx, H x = none → H dx = none → dx ≠ x → spInit C (.ref x :: ([] ++ [.non, .non])) (upd (upd H dx (.own x)) x (.ins C dx [])) (fun v H3 => v = .non ∧ Q (.ref x) H3) E := by
  intro x dx nx ndx ne
  refine ⟨x, dx, _, _, 0, rfl, upd_same, .inl ⟨rfl, rfl, rfl⟩, by decide, rfl, ?_⟩
  rw [upd_upd]
  have s1 : Same H (upd (upd H dx (.own x)) x (.ins C dx (tf .non .non ((0 : Nat) : Int)))) := fun b o e => by
    rw [upd_ne (ne_of_none e nx), upd_ne (ne_of_none e ndx)]
    exact e
  exact k x _ s1 nx (.nil upd_same)
section
variable {P : Program} {w : World} {K : PySem.W.Frag} {mg : Str → Option Value} {base : Heap} {C : Addr}
theorem scP : FnScope ["first", "second"] ["first", "second"] (defScope sPairs) := ⟨rfl, rfl, rfl, by decide +kernel, rfl, by decide +kernel, by decide +kernel⟩
theorem ok_pairs {f : Addr} {fd : FuncData} (F : Fun K "pairs_in" "pairs_in" sPairs f fd) (T : Txt K mg C) : FnOk P w K mg base CX0 1 f fd ["first", "second"] (spPairs C) := by
  refine F.ok scP (fun vs H Q E h => ?_) (fun cdv A outer s H vs Q E hr h => ?_)
  · obtain ⟨x, y, n, rfl, _⟩ := h
    rfl
  · obtain ⟨x, y, n, rfl, hp, k⟩ := h
    refine ⟨_, pss_cons (ps_if (PW.pt (pw_and (pt_cmp (pc_isN (pv 0))) (pw_and1 (pt_cmp (pc_isN (pv 1)))))) (pss_one (ps_ret pe_int)) pss_nil)
      (pss_one (ps_ret (pe_op op_add (pe_op op_add pe_int (pe_fld (pv 0) rfl)) (pe_fld (pv 1) rfl)))), ?_⟩
    rcases hp with ⟨rfl, rfl, rfl⟩ | ⟨a, b, t, u, rfl, rfl, ha, hb, rfl⟩
    · refine ⟨_, rfl, _, rfl, ?_⟩
      refine iteT ⟨_, rfl, _, rfl, ?_⟩
      exact iteT k
    · refine ⟨_, rfl, _, rfl, ?_⟩
      refine iteF ?_
      refine iteF ?_
      obtain ⟨dx, f1, s1, h1⟩ := ha.obj
      obtain ⟨dy, f2, s2, h2⟩ := hb.obj
      refine ⟨_, rfl, _, _, _, _, _, rfl, h1, T.cl, T.nZ, tf_size _ _ _, _, _, rfl, rfl, _, rfl, _, _, _, _, _, rfl, h2, T.cl, T.nZ, tf_size _ _ _, _, _, rfl, rfl, ?_⟩
      have e : ((1 : Int) + (t.size : Nat) + (u.size : Nat)) = ((1 + t.size + u.size : Nat) : Int) := by omega
      show Q (V.int ((1 : Int) + (t.size : Nat) + (u.size : Nat))) H
      rw [e]
      exact k
theorem scI : FnScope ["self", "first", "second", "size"] ["self", "first", "second"] (defScope sInit) := ⟨rfl, rfl, rfl, by decide +kernel, rfl, by decide +kernel, by decide +kernel⟩
theorem ok_init {f fP : Addr} {fd fdP : FuncData} (F : FunD K "__init__" "Thing.__init__" (defArgs sInit) (defBody sInit) (defScope sInit) [.non, .non] [] f fd) (T : Txt K mg C) (AP : At K mg "pairs_in" sPairs ["first", "second"] fP fdP) : FnOk P w K mg base CX0 2 f fd ["self", "first", "second"] (spInit C) := by
  have GP : FnOk P w K mg base CX0 1 fP fdP ["first", "second"] (spPairs C) := ok_pairs AP.F T
  obtain ⟨tm, mgM⟩ := T.mgM
  refine F.ok scI (fun vs H Q E h => ?_) (fun cdv A outer s H vs Q E hr h => ?_)
  · obtain ⟨p, dx, x, y, n, rfl, _⟩ := h
    rfl
  · obtain ⟨p, dx, x, y, n, rfl, hp, hxy, hn, k⟩ := h
    refine ⟨_, PSs.nox (pss_cons (ps_set (i := 3) scI.nd rfl (Or.inl rfl) (pe_call GP hr rfl AP.mgf AP.F.kp AP.b .nil pass0 (pa_cons (pv 1) (pa_cons (pv 2) pa_nil))))
      (pss_cons (ps_if (pt_cmpR op_gt (pv 3) (pe_glob (v := .int 4000) rfl mgM ⟨_, rfl⟩) (nomark _)) (pss_one ps_never) pss_nil)
      (pss_cons (ps_fld (pv 0) (pv 1) rfl) (pss_cons (ps_fld (pv 0) (pv 2) rfl) (pss_one (ps_fld (pv 0) (pv 3) rfl)))))), ?_⟩
    refine ⟨_, rfl, _, rfl, x, y, n, rfl, hxy, ?_⟩
    refine ⟨_, rfl, _, _, rfl, rfl, _, rfl, ?_⟩
    have ed : decide ((4000 : Int) < (n : Nat)) = false := decide_eq_false (by omega)
    rw [ed]
    refine iteF ?_
    refine ⟨_, rfl, _, rfl, p, C, dx, [], rfl, hp, T.cl, T.nF, (by show 0 < 1000; decide), ?_⟩
    refine ⟨_, rfl, _, rfl, p, C, dx, _, rfl, upd_same, T.cl, T.nS, Nat.lt_of_le_of_lt (length_putF _ _ _) (by show 0 + 1 < 1000; decide), ?_⟩
    refine ⟨_, rfl, _, rfl, p, C, dx, _, rfl, upd_same, T.cl, T.nZ, ?_, ?_⟩
    · have h1 := length_putF "first" x []
      have h2 := length_putF "second" y (putF "first" x [])
      simp only [List.length_nil] at h1
      omega
    · show Q .non (upd (upd (upd H p _) p _) p (.ins C dx (tf x y (n : Nat))))
      rw [upd_upd, upd_upd]
      exact k
end
end Js
set_option Elab.async false
set_option linter.all false
set_option maxRecDepth 100000
set_option maxHeartbeats 2000000
namespace Js
open PySem PySem.Spec PyProof.Rows L2
def intB (K : PySem.W.Frag) (d : Addr) (x : Str) (n : Int) : Bool := match PySem.W.nsIn K d x with
  | some (some (.int j _)) => decide (j = n)
  | _ => false
theorem int_raw {K : PySem.W.Frag} {d : Addr} {x : Str} {n : Int} (h : intB K d x n = true) : ∃ t, PySem.W.nsIn K d x = some (some (.int n t)) := by
  unfold intB at h
  split at h
  · rename_i j t e
    rw [← of_decide_eq_true h]
    exact ⟨t, e⟩
  · cases h
def strB (K : PySem.W.Frag) (d : Addr) (x z : Str) : Bool := match PySem.W.nsIn K d x with
  | some (some (.str y _)) => decide (y = z)
  | _ => false
theorem str_raw {K : PySem.W.Frag} {d : Addr} {x z : Str} (h : strB K d x z = true) : ∃ t, PySem.W.nsIn K d x = some (some (.str z t)) := by
  unfold strB at h
  split at h
  · rename_i j t e
    rw [← of_decide_eq_true h]
    exact ⟨t, e⟩
  · cases h
def excB (K : PySem.W.Frag) (C : Addr) (bm : List Value) (newId : String) : Bool := match K.lookup C with
  | some ⟨.type "type", _, .cls cd, sl⟩ => (match cd.mro, sl.toList with
    | .ref C' :: bm', [_, _, _, _, some (.builtin n), _] => C' == C && n == newId && !cd.hasDel && decide (bm' = bm) && cd.hasDict
    | _, _ => false)
  | _ => false
theorem exc_raw {K : PySem.W.Frag} {C : Addr} {bm : List Value} {newId : String} (q : excB K C bm newId = true) : ∃ nm qn N bs sn sub ab col dd k0 k1 k2 k3 k5,
    K.lookup C = some (excClassObj nm qn C N bs bm true sn sub ab col dd k0 k1 k2 k3 k5 newId) := by
  unfold excB at q
  split at q
  · rename_i dd cd sl ho
    split at q
    · rename_i C' bm' k0 k1 k2 k3 n k5 hm hs
      simp only [Bool.and_eq_true, beq_iff_eq, Bool.not_eq_true', decide_eq_true_eq] at q
      obtain ⟨⟨⟨⟨rfl, rfl⟩, hdel⟩, rfl⟩, hd⟩ := q
      obtain ⟨nm, bs, mro, ns, qn, hdd, sn, sub, ab, col, del⟩ := cd
      dsimp only at hm hdel hd
      subst hm hdel hd
      have hsl : sl = #[k0, k1, k2, k3, some (.builtin n), k5] := by
        obtain ⟨l⟩ := sl
        simp only at hs
        rw [hs]
      subst hsl
      exact ⟨nm, qn, ns, bs, sn, sub, ab, col, dd, k0, k1, k2, k3, k5, ho⟩
    · cases q
  · cases q
section
variable {fa : List He.Fa} {fn : List He.DefD} {K : PySem.W.Frag}
theorem fn_one (c : He.SaysD fa fn K) (i : Nat) {d : He.DefD} (h : fn[i]? = some d) : He.fnW K d.at_ = d.val ∧ d.ok K = true := by
  have c2 := (He.ba (show ((fa.all fun f => f.ok K) && fn.all fun d => d.ok K) = true from congrArg (fun z : He.AlD => z.1) c)).2
  have e : fn.map (fun d => He.fnW K d.at_) = fn.map He.DefD.val := congrArg (fun z : He.AlD => z.2) c
  have e2 : (fn.map fun d => He.fnW K d.at_)[i]? = (fn.map He.DefD.val)[i]? := by rw [e]
  rw [List.getElem?_map, List.getElem?_map, h] at e2
  exact ⟨Option.some.inj e2, List.all_eq_true.mp c2 d (List.mem_of_getElem? h)⟩
theorem fn_any (c : He.SaysD fa fn K) (i : Nat) {p : Str × Option Str} {name qual : Str} {st : Stmt} {dl : List He.Dv} (h : fn[i]? = some ⟨p, name, qual, defArgs st, defBody st, defScope st, dl, []⟩) :
    ∃ oc od osl dV kV dc pm an cd ct, K.lookup (He.fAd K p) = some ⟨oc, od, .func (PySem.W.fnOf name qual (defArgs st) (defBody st) (defScope st) dV kV dc pm an cd ct), osl⟩ ∧ PySem.W.codeIn K cd qual = true ∧ He.dflB K dV (dl.map (He.Dv.v K)) = true := by
  obtain ⟨e, c1⟩ := fn_one c i h
  obtain ⟨kp, c2⟩ := He.ba c1
  unfold He.fnW at e
  dsimp only at e c2
  cases q : K.lookup (He.fAd K p) with
  | none =>
    rw [q] at c2
    cases c2
  | some o =>
    obtain ⟨oc, od, dt, osl⟩ := o
    rw [q] at c2 e
    cases dt with
    | func fd =>
      obtain ⟨n1, n2, n3, n4, n5, n6, n7, n8, n9, n10, n11, n12, n13, n14, n15⟩ := fd
      have e2 : (some (n1, n2, n3, n4, n5, n6, n7, n15) : He.FnW) = some (name, qual, defArgs st, .stmts (defBody st), defScope st, mainGlobals, [], builtinsNs) := e
      simp only [Option.some.injEq, Prod.mk.injEq] at e2
      obtain ⟨h1, h2, h3, h4, h5, h6, h7, h8⟩ := e2
      subst h1 h2 h3 h4 h5 h6 h7 h8
      have c3 : (PySem.W.codeIn K n13 n2 && (He.dflB K n8 (dl.map (He.Dv.v K)) && He.kwdB K n9 [])) = true := c2
      obtain ⟨k1, k2⟩ := He.ba c3
      obtain ⟨k3, k4⟩ := He.ba k2
      exact ⟨oc, od, osl, n8, n9, n10, n11, n12, n13, n14, rfl, k1, k3⟩
    | _ => cases c2
theorem fn_raw (c : He.SaysD fa fn K) (i : Nat) (p : Str × Option Str) (name qual : Str) (st : Stmt) (h : fn[i]? = some ⟨p, name, qual, defArgs st, defBody st, defScope st, [], []⟩) :
    ∃ oc od osl kV dc pm an cd ct, K.lookup (He.fAd K p) = some ⟨oc, od, .func (PySem.W.fnOf name qual (defArgs st) (defBody st) (defScope st) .none kV dc pm an cd ct), osl⟩ ∧ PySem.W.codeIn K cd qual = true := by
  obtain ⟨oc, od, osl, dV, kV, dc, pm, an, cd, ct, e, h1, h2⟩ := fn_any c i h
  cases dV with
  | none => exact ⟨oc, od, osl, kV, dc, pm, an, cd, ct, e, h1⟩
  | _ => cases h2
theorem fn_rawD (c : He.SaysD fa fn K) (i : Nat) (p : Str × Option Str) (name qual : Str) (st : Stmt) (v : He.Dv) (vs : List He.Dv) (h : fn[i]? = some ⟨p, name, qual, defArgs st, defBody st, defScope st, v :: vs, []⟩) :
    ∃ oc od osl T kV dc pm an cd ct ot odt its nt slt, K.lookup (He.fAd K p) = some ⟨oc, od, .func (PySem.W.fnOf name qual (defArgs st) (defBody st) (defScope st) (.ref T) kV dc pm an cd ct), osl⟩ ∧ PySem.W.codeIn K cd qual = true ∧
      K.lookup T = some ⟨ot, odt, .seq its nt, slt⟩ ∧ Vals ((v :: vs).map (He.Dv.v K)) its.toList := by
  obtain ⟨oc, od, osl, dV, kV, dc, pm, an, cd, ct, e, h1, h2⟩ := fn_any c i h
  cases dV with
  | ref T =>
    have h3 : (match K.lookup T with
      | some ⟨_, _, .seq its _, _⟩ => He.relAll ((v :: vs).map (He.Dv.v K)) its.toList
      | _ => false) = true := h2
    cases q : K.lookup T with
    | none =>
      rw [q] at h3
      cases h3
    | some o =>
      obtain ⟨ot, odt, dt, slt⟩ := o
      rw [q] at h3
      cases dt with
      | seq its n => exact ⟨oc, od, osl, T, kV, dc, pm, an, cd, ct, ot, odt, its, n, slt, e, h1, q, He.relAll_ok h3⟩
      | _ => cases h3
  | _ => cases h2
end
theorem tab_keys {fa : List He.Fa} {fn : List He.DefD} {ts : List He.Tab} {w : World} {K : PySem.W.Frag} (c : He.SaysT fa fn ts w K) (i : Nat) {t : He.Tab} (h : ts[i]? = some t) : ∃ es n, KDict K w (t.1 K) es n ∧ es.toList.map He.keyOf = He.keysIn w.params t.2 := by
  obtain ⟨es, n, d⟩ := c.tab i h
  refine ⟨es, n, d, ?_⟩
  have e : ts.map (fun t => He.dicW K (t.1 K)) = ts.map fun t => some (He.keysIn w.params t.2) := congrArg (fun z : He.AlT => z.2) c
  have e2 : (ts.map fun t => He.dicW K (t.1 K))[i]? = (ts.map fun t => some (He.keysIn w.params t.2))[i]? := by rw [e]
  rw [List.getElem?_map, List.getElem?_map, h] at e2
  have e3 : He.dicW K (t.1 K) = some (He.keysIn w.params t.2) := Option.some.inj e2
  unfold He.dicW at e3
  rw [d.at_] at e3
  dsimp only at e3
  split at e3
  · exact Option.some.inj e3
  · cases e3
section
variable (as : List Addr) (fn : List He.DefD) (ts : List He.Tab) (ex : PySem.W.Frag → Bool)
def hookC : PySem.W.Hook where
  α := He.AlT × Bool
  obs := fun s => (He.obsT [] fn ts (He.frG s.heap.get? as), ex (He.frG s.heap.get? as))
  val := fun w => (He.valT fn ts w, true)
  says := fun w h => ∃ K : PySem.W.Frag, K.In h ∧ He.SaysT [] fn ts w K ∧ ex K = true
  of := fun _ _ e => ⟨_, He.frG_in, congrArg (fun z : He.AlT × Bool => z.1) e, congrArg (fun z : He.AlT × Bool => z.2) e⟩
  keeps := fun _ _ _ ⟨K, hK, c⟩ k => ⟨K, PySem.W.Frag.In.keeps hK k, c⟩
def obC (s : PySem.W.SharedT) : He.AlT × Bool := (He.obsT [] fn ts (He.frG (HandSHeadRun.getT s) as), ex (He.frG (HandSHeadRun.getT s) as))
theorem obC_eq (s : PySem.W.SharedT) : obC as fn ts ex s = (hookC as fn ts ex).obs s.abs := by
  have e : HandSHeadRun.getT s = s.abs.heap.get? := funext (HandSHeadRun.getT_eq s)
  unfold obC
  rw [e]
  rfl
end
theorem run_join {r : PySem.W.OpenRow} {q : Program} {as : List Addr} {fn : List He.DefD} {ts : List He.Tab} {ex : PySem.W.Frag → Bool} {M : Nat} {loose : List Str} {w : World} (h0 : HandSHeadRun.RunEq r q PySem.W.Hook.none (fun _ => ()) M loose w)
    (h1 : ∀ os : OsState, (HandSHeadRun.endF (HandSHeadRun.stepQ (HandSHeadRun.denQ HandSHeadRun.tabQ) r.prog w) M r.prog w os).map (fun s => He.obsT [] fn ts (He.frG (HandSHeadRun.getT s) as)) = some (He.valT fn ts w))
    (h2 : ∀ os : OsState, (HandSHeadRun.endF (HandSHeadRun.stepQ (HandSHeadRun.denQ HandSHeadRun.tabQ) r.prog w) M r.prog w os).map (fun s => ex (He.frG (HandSHeadRun.getT s) as)) = some true) :
    HandSHeadRun.RunEq r q (hookC as fn ts ex) (obC as fn ts ex) M loose w := by
  intro os
  have a0 := h0 os
  have a1 := h1 os
  have a2 := h2 os
  revert a0 a1 a2
  generalize HandSHeadRun.endF (HandSHeadRun.stepQ (HandSHeadRun.denQ HandSHeadRun.tabQ) r.prog w) M r.prog w os = o
  intro a0 a1 a2
  cases o with
  | none => cases a1
  | some s =>
    have b0 := Option.some.inj a0
    have b1 : He.obsT [] fn ts (He.frG (HandSHeadRun.getT s) as) = He.valT fn ts w := Option.some.inj a1
    have b2 : ex (He.frG (HandSHeadRun.getT s) as) = true := Option.some.inj a2
    obtain ⟨c1, c2⟩ := Prod.mk.inj b0
    obtain ⟨c2, _⟩ := Prod.mk.inj c2
    show some (_, _, (He.obsT [] fn ts (He.frG (HandSHeadRun.getT s) as), ex (He.frG (HandSHeadRun.getT s) as))) = some (true, _, (He.valT fn ts w, true))
    rw [b1, b2, c1, c2]
theorem ex_at {K : PySem.W.Frag} {l : List (PySem.W.Frag → Bool)} (h : (l.all fun f => f K) = true) (i : Nat) {f : PySem.W.Frag → Bool} (e : l[i]? = some f) : f K = true := List.all_eq_true.mp h f (List.mem_of_getElem? e)
end Js
set_option Elab.async false
set_option linter.all false
set_option maxRecDepth 100000
set_option maxHeartbeats 0
namespace Js
open PySem PySem.Spec PyProof.Rows L2
def hnm0 : List Str := ["_wall", "NoText", "NoProgram", "NoStep", "TooGreat", "NoRoom", "NoName", "NoSaying", "MOST_PAIRS", "Thing", "pairs_in", "alike", "signs", "MANY_NAMES", "MOST_DEEDS", "MOST_FLOORS", "LETTERS", "FORMS", "Program", "is_name", "fits", "has_form", "names_in", "rows_in", "look_through", "lay_out", "row_words", "deed_words", "_law_bag", "_law_take"]
def hnm1 : List Str := ["_law_thing", "_law_name", "_law_deed", "_law_deeds", "_law_top", "_law_rows", "_law_many", "_law_is_name", "_law_form", "_law_wrong", "_law_odd", "_law_bent", "_law_nested", "_law_good"]
def hnames : List Str := hnm0 ++ hnm1
def hfn0 : List He.DefD := [
  ⟨("Thing", some "__init__"), "__init__", "Thing.__init__", defArgs (inClass (top 11) 0), defBody (inClass (top 11) 0), defScope (inClass (top 11) 0), [.non, .non], []⟩,
  ⟨("Thing", some "__eq__"), "__eq__", "Thing.__eq__", defArgs (inClass (top 11) 4), defBody (inClass (top 11) 4), defScope (inClass (top 11) 4), [], []⟩,
  ⟨("pairs_in", none), "pairs_in", "pairs_in", defArgs (top 12), defBody (top 12), defScope (top 12), [], []⟩,
  ⟨("alike", none), "alike", "alike", defArgs (top 13), defBody (top 13), defScope (top 13), [], []⟩,
  ⟨("is_name", none), "is_name", "is_name", defArgs (top 22), defBody (top 22), defScope (top 22), [], []⟩,
  ⟨("fits", none), "fits", "fits", defArgs (top 23), defBody (top 23), defScope (top 23), [], []⟩,
  ⟨("has_form", none), "has_form", "has_form", defArgs (top 24), defBody (top 24), defScope (top 24), [], []⟩,
  ⟨("rows_in", none), "rows_in", "rows_in", defArgs (top 26), defBody (top 26), defScope (top 26), [], []⟩,
  ⟨("look_through", none), "look_through", "look_through", defArgs (top 27), defBody (top 27), defScope (top 27), [], []⟩,
  ⟨("lay_out", none), "lay_out", "lay_out", defArgs (top 28), defBody (top 28), defScope (top 28), [], []⟩,
  ⟨("_law_bag", none), "_law_bag", "_law_bag", defArgs (top 32), defBody (top 32), defScope (top 32), [], []⟩,
  ⟨("_law_take", none), "_law_take", "_law_take", defArgs (top 33), defBody (top 33), defScope (top 33), [], []⟩,
  ⟨("_law_thing", none), "_law_thing", "_law_thing", defArgs (top 34), defBody (top 34), defScope (top 34), [], []⟩,
  ⟨("_law_name", none), "_law_name", "_law_name", defArgs (top 35), defBody (top 35), defScope (top 35), [], []⟩,
  ⟨("_law_deed", none), "_law_deed", "_law_deed", defArgs (top 36), defBody (top 36), defScope (top 36), [], []⟩,
  ⟨("_law_deeds", none), "_law_deeds", "_law_deeds", defArgs (top 37), defBody (top 37), defScope (top 37), [], []⟩,
  ⟨("_law_top", none), "_law_top", "_law_top", defArgs (top 38), defBody (top 38), defScope (top 38), [], []⟩,
  ⟨("_law_rows", none), "_law_rows", "_law_rows", defArgs (top 39), defBody (top 39), defScope (top 39), [], []⟩,
  ⟨("_law_is_name", none), "_law_is_name", "_law_is_name", defArgs (top 41), defBody (top 41), defScope (top 41), [], []⟩,
  ⟨("_law_form", none), "_law_form", "_law_form", defArgs (top 42), defBody (top 42), defScope (top 42), [], []⟩]
def hfn1 : List He.DefD := [
  ⟨("_law_wrong", none), "_law_wrong", "_law_wrong", defArgs (top 43), defBody (top 43), defScope (top 43), [], []⟩,
  ⟨("_law_odd", none), "_law_odd", "_law_odd", defArgs (top 44), defBody (top 44), defScope (top 44), [], []⟩,
  ⟨("_law_bent", none), "_law_bent", "_law_bent", defArgs (top 45), defBody (top 45), defScope (top 45), [], []⟩,
  ⟨("_law_nested", none), "_law_nested", "_law_nested", defArgs (top 46), defBody (top 46), defScope (top 46), [], []⟩,
  ⟨("_law_good", none), "_law_good", "_law_good", defArgs (top 47), defBody (top 47), defScope (top 47), [], []⟩,
  ⟨("law", none), "law", "law", defArgs (top 48), defBody (top 48), defScope (top 48), [], []⟩,
  ⟨("Program", some "__init__"), "__init__", "Program.__init__", defArgs (inClass (top 21) 0), defBody (inClass (top 21) 0), defScope (inClass (top 21) 0), [], []⟩,
  ⟨("Program", some "__len__"), "__len__", "Program.__len__", defArgs (inClass (top 21) 2), defBody (inClass (top 21) 2), defScope (inClass (top 21) 2), [], []⟩,
  ⟨("Program", some "__eq__"), "__eq__", "Program.__eq__", defArgs (inClass (top 21) 3), defBody (inClass (top 21) 3), defScope (inClass (top 21) 3), [], []⟩,
  ⟨("NoProgram", some "__init__"), "__init__", "NoProgram.__init__", defArgs (inClass (top 3) 0), defBody (inClass (top 3) 0), defScope (inClass (top 3) 0), [], []⟩]
def hfn : List He.DefD := hfn0 ++ hfn1
def hts : List He.Tab := [(fun K => He.ga K "FORMS", ["told", "first", "second", "pair", "same", "while", "if"])]
def hex0 : List (PySem.W.Frag → Bool) := [
  fun K => decide (PySem.W.nsIn K mainGlobals "Thing" = some (some (.ref (He.ga K "Thing")))),
  fun K => decide (PySem.W.plainGet K (He.ga K "Thing") Str.empty = true),
  fun K => decide (PySem.W.hasDictIn K (He.ga K "Thing") = true),
  fun K => decide (PySem.W.plainOver K (He.ga K "Thing") = true),
  fun K => decide (PySem.W.findIn K (.ref (He.ga K "Thing")) "__setattr__" = some (some (.builtin "object.__setattr__"))),
  fun K => decide (PySem.W.makesIn K (He.ga K "Thing") = true),
  fun K => decide (PySem.W.keepIn K (.ref (He.ga K "Thing")) = true),
  fun K => decide (PySem.W.findIn K (.ref (He.ga K "Thing")) "first" = some none),
  fun K => decide (PySem.W.findIn K (.ref (He.ga K "Thing")) "second" = some none),
  fun K => decide (PySem.W.findIn K (.ref (He.ga K "Thing")) "size" = some none),
  fun K => decide (PySem.W.findIn K (.ref (He.ga K "Thing")) "__class__" = some (some (.builtin "object.__class__"))),
  fun K => decide (PySem.W.specialIn K (.builtin "object.__class__") "__get__" = some (some (.builtin "getset_descriptor.__get__"))),
  fun K => decide (PySem.W.takesIn K (.builtin "object.__class__") = some true),
  fun K => decide (PySem.W.mroIn K (He.ga K "Thing") (.type "object") = some true),
  fun K => decide (PySem.W.findIn K (.ref (He.ga K "Thing")) "__ne__" = some (some (.builtin "object.__ne__"))),
  fun K => intB K mainGlobals "MOST_PAIRS" 4000,
  fun K => decide (PySem.W.findIn K (.ref (He.ga K "Thing")) "__init__" = some (some (.ref (He.ma K (He.ga K "Thing") "__init__")))),
  fun K => decide (PySem.W.isFn K (.ref (He.ma K (He.ga K "Thing") "__init__")) = true),
  fun K => decide (PySem.W.keepIn K (.ref (He.ma K (He.ga K "Thing") "__init__")) = true),
  fun K => decide (PySem.W.findIn K (.ref (He.ga K "Thing")) "__eq__" = some (some (.ref (He.ma K (He.ga K "Thing") "__eq__"))))]
def hex1 : List (PySem.W.Frag → Bool) := [
  fun K => decide (PySem.W.isFn K (.ref (He.ma K (He.ga K "Thing") "__eq__")) = true),
  fun K => decide (PySem.W.keepIn K (.ref (He.ma K (He.ga K "Thing") "__eq__")) = true),
  fun K => decide (PySem.W.nsIn K mainGlobals "pairs_in" = some (some (.ref (He.ga K "pairs_in")))),
  fun K => decide (PySem.W.keepIn K (.ref (He.ga K "pairs_in")) = true),
  fun K => decide (PySem.W.nsIn K mainGlobals "alike" = some (some (.ref (He.ga K "alike")))),
  fun K => decide (PySem.W.keepIn K (.ref (He.ga K "alike")) = true),
  fun K => decide (PySem.W.nsIn K mainGlobals "is_name" = some (some (.ref (He.ga K "is_name")))),
  fun K => decide (PySem.W.keepIn K (.ref (He.ga K "is_name")) = true),
  fun K => decide (PySem.W.nsIn K mainGlobals "fits" = some (some (.ref (He.ga K "fits")))),
  fun K => decide (PySem.W.keepIn K (.ref (He.ga K "fits")) = true),
  fun K => decide (PySem.W.nsIn K mainGlobals "has_form" = some (some (.ref (He.ga K "has_form")))),
  fun K => decide (PySem.W.keepIn K (.ref (He.ga K "has_form")) = true),
  fun K => decide (PySem.W.nsIn K mainGlobals "rows_in" = some (some (.ref (He.ga K "rows_in")))),
  fun K => decide (PySem.W.keepIn K (.ref (He.ga K "rows_in")) = true),
  fun K => decide (PySem.W.nsIn K mainGlobals "look_through" = some (some (.ref (He.ga K "look_through")))),
  fun K => decide (PySem.W.keepIn K (.ref (He.ga K "look_through")) = true),
  fun K => decide (PySem.W.nsIn K mainGlobals "lay_out" = some (some (.ref (He.ga K "lay_out")))),
  fun K => decide (PySem.W.keepIn K (.ref (He.ga K "lay_out")) = true),
  fun K => decide (PySem.W.nsIn K mainGlobals "_law_bag" = some (some (.ref (He.ga K "_law_bag")))),
  fun K => decide (PySem.W.keepIn K (.ref (He.ga K "_law_bag")) = true)]
def hex2 : List (PySem.W.Frag → Bool) := [
  fun K => decide (PySem.W.nsIn K mainGlobals "_law_take" = some (some (.ref (He.ga K "_law_take")))),
  fun K => decide (PySem.W.keepIn K (.ref (He.ga K "_law_take")) = true),
  fun K => decide (PySem.W.nsIn K mainGlobals "_law_thing" = some (some (.ref (He.ga K "_law_thing")))),
  fun K => decide (PySem.W.keepIn K (.ref (He.ga K "_law_thing")) = true),
  fun K => decide (PySem.W.nsIn K mainGlobals "_law_name" = some (some (.ref (He.ga K "_law_name")))),
  fun K => decide (PySem.W.keepIn K (.ref (He.ga K "_law_name")) = true),
  fun K => decide (PySem.W.nsIn K mainGlobals "_law_deed" = some (some (.ref (He.ga K "_law_deed")))),
  fun K => decide (PySem.W.keepIn K (.ref (He.ga K "_law_deed")) = true),
  fun K => decide (PySem.W.nsIn K mainGlobals "_law_deeds" = some (some (.ref (He.ga K "_law_deeds")))),
  fun K => decide (PySem.W.keepIn K (.ref (He.ga K "_law_deeds")) = true),
  fun K => decide (PySem.W.nsIn K mainGlobals "_law_top" = some (some (.ref (He.ga K "_law_top")))),
  fun K => decide (PySem.W.keepIn K (.ref (He.ga K "_law_top")) = true),
  fun K => decide (PySem.W.nsIn K mainGlobals "_law_rows" = some (some (.ref (He.ga K "_law_rows")))),
  fun K => decide (PySem.W.keepIn K (.ref (He.ga K "_law_rows")) = true),
  fun K => decide (PySem.W.nsIn K mainGlobals "_law_is_name" = some (some (.ref (He.ga K "_law_is_name")))),
  fun K => decide (PySem.W.keepIn K (.ref (He.ga K "_law_is_name")) = true),
  fun K => decide (PySem.W.nsIn K mainGlobals "_law_form" = some (some (.ref (He.ga K "_law_form")))),
  fun K => decide (PySem.W.keepIn K (.ref (He.ga K "_law_form")) = true),
  fun K => decide (PySem.W.nsIn K mainGlobals "_law_wrong" = some (some (.ref (He.ga K "_law_wrong")))),
  fun K => decide (PySem.W.keepIn K (.ref (He.ga K "_law_wrong")) = true)]
def hex3 : List (PySem.W.Frag → Bool) := [
  fun K => decide (PySem.W.nsIn K mainGlobals "_law_odd" = some (some (.ref (He.ga K "_law_odd")))),
  fun K => decide (PySem.W.keepIn K (.ref (He.ga K "_law_odd")) = true),
  fun K => decide (PySem.W.nsIn K mainGlobals "_law_bent" = some (some (.ref (He.ga K "_law_bent")))),
  fun K => decide (PySem.W.keepIn K (.ref (He.ga K "_law_bent")) = true),
  fun K => decide (PySem.W.nsIn K mainGlobals "_law_nested" = some (some (.ref (He.ga K "_law_nested")))),
  fun K => decide (PySem.W.keepIn K (.ref (He.ga K "_law_nested")) = true),
  fun K => decide (PySem.W.nsIn K mainGlobals "_law_good" = some (some (.ref (He.ga K "_law_good")))),
  fun K => decide (PySem.W.keepIn K (.ref (He.ga K "_law_good")) = true),
  fun K => decide (PySem.W.nsIn K mainGlobals "law" = some (some (.ref (He.ga K "law")))),
  fun K => decide (PySem.W.keepIn K (.ref (He.ga K "law")) = true),
  fun K => decide (PySem.W.nsIn K mainGlobals "Program" = some (some (.ref (He.ga K "Program")))),
  fun K => decide (PySem.W.plainGet K (He.ga K "Program") Str.empty = true),
  fun K => decide (PySem.W.hasDictIn K (He.ga K "Program") = true),
  fun K => decide (PySem.W.plainOver K (He.ga K "Program") = true),
  fun K => decide (PySem.W.findIn K (.ref (He.ga K "Program")) "__setattr__" = some (some (.builtin "object.__setattr__"))),
  fun K => decide (PySem.W.makesIn K (He.ga K "Program") = true),
  fun K => decide (PySem.W.keepIn K (.ref (He.ga K "Program")) = true),
  fun K => decide (PySem.W.findIn K (.ref (He.ga K "Program")) "deeds" = some none),
  fun K => decide (PySem.W.findIn K (.ref (He.ga K "Program")) "plan" = some none),
  fun K => decide (PySem.W.findIn K (.ref (He.ga K "Program")) "__class__" = some (some (.builtin "object.__class__")))]
def hex4 : List (PySem.W.Frag → Bool) := [
  fun K => decide (PySem.W.mroIn K (He.ga K "Program") (.type "object") = some true),
  fun K => decide (PySem.W.findIn K (.ref (He.ga K "Program")) "__ne__" = some (some (.builtin "object.__ne__"))),
  fun K => decide (PySem.W.nsIn K mainGlobals "FORMS" = some (some (.ref (He.ga K "FORMS")))),
  fun K => intB K mainGlobals "MANY_NAMES" 10,
  fun K => intB K mainGlobals "MOST_DEEDS" 4000,
  fun K => intB K mainGlobals "MOST_FLOORS" 8,
  fun K => decide (PySem.W.kitOne K (.type "int") (.type "int") = some true),
  fun K => decide (PySem.W.kitOne K (.type "int") (.type "bool") = some false),
  fun K => decide (PySem.W.kitOne K (.type "tuple") (.type "tuple") = some true),
  fun K => decide (PySem.W.kitOne K (.type "str") (.type "str") = some true),
  fun K => strB K (He.ga K "FORMS") "told" "nt",
  fun K => strB K (He.ga K "FORMS") "first" "nn",
  fun K => strB K (He.ga K "FORMS") "second" "nn",
  fun K => strB K (He.ga K "FORMS") "pair" "nnn",
  fun K => strB K (He.ga K "FORMS") "same" "nnn",
  fun K => strB K (He.ga K "FORMS") "while" "nr",
  fun K => strB K (He.ga K "FORMS") "if" "nrr",
  fun K => decide (PySem.W.findIn K (.ref (He.ga K "Program")) "__init__" = some (some (.ref (He.ma K (He.ga K "Program") "__init__")))),
  fun K => decide (PySem.W.isFn K (.ref (He.ma K (He.ga K "Program") "__init__")) = true),
  fun K => decide (PySem.W.keepIn K (.ref (He.ma K (He.ga K "Program") "__init__")) = true)]
def hex5 : List (PySem.W.Frag → Bool) := [
  fun K => decide (PySem.W.findIn K (.ref (He.ga K "Program")) "__len__" = some (some (.ref (He.ma K (He.ga K "Program") "__len__")))),
  fun K => decide (PySem.W.isFn K (.ref (He.ma K (He.ga K "Program") "__len__")) = true),
  fun K => decide (PySem.W.keepIn K (.ref (He.ma K (He.ga K "Program") "__len__")) = true),
  fun K => decide (PySem.W.findIn K (.ref (He.ga K "Program")) "__eq__" = some (some (.ref (He.ma K (He.ga K "Program") "__eq__")))),
  fun K => decide (PySem.W.isFn K (.ref (He.ma K (He.ga K "Program") "__eq__")) = true),
  fun K => decide (PySem.W.keepIn K (.ref (He.ma K (He.ga K "Program") "__eq__")) = true),
  fun K => decide (PySem.W.nsIn K mainGlobals "NoProgram" = some (some (.ref (He.ga K "NoProgram")))),
  fun K => excB K (He.ga K "NoProgram") [.type "ValueError", .type "Exception", .type "BaseException", .type "object"] "ValueError.__new__",
  fun K => decide (PySem.W.excOver K (He.ga K "NoProgram") [.type "ValueError", .type "Exception", .type "BaseException", .type "object"] = true),
  fun K => decide (PySem.W.findIn K (.ref (He.ga K "NoProgram")) "__setattr__" = some (some (.builtin "object.__setattr__"))),
  fun K => decide (PySem.W.subIn K (.ref (He.ga K "NoProgram")) (.type "BaseException") = some true),
  fun K => decide (PySem.W.typeIn K (.ref (He.ga K "NoProgram")) = some (.type "type")),
  fun K => decide (PySem.W.keepIn K (.ref (He.ga K "NoProgram")) = true),
  fun K => decide (PySem.W.findIn K (.ref (He.ga K "NoProgram")) "place" = some none),
  fun K => decide (PySem.W.findIn K (.ref (He.ga K "NoProgram")) "__init__" = some (some (.ref (He.ma K (He.ga K "NoProgram") "__init__")))),
  fun K => decide (PySem.W.typeIn K (.ref (He.ma K (He.ga K "NoProgram") "__init__")) = some (.type "function")),
  fun K => decide (PySem.W.keepIn K (.ref (He.ma K (He.ga K "NoProgram") "__init__")) = true),
  fun K => decide (PySem.W.hasDictIn K (He.ga K "NoProgram") = true),
  fun K => decide (PySem.W.subIn K (.ref (He.ga K "NoProgram")) (.ref (He.ga K "NoProgram")) = some true),
  fun K => decide (PySem.W.kitOne K (.type "NoneType") (.ref (He.ga K "Thing")) = some false)]
def hex6 : List (PySem.W.Frag → Bool) := [
  fun K => decide (PySem.W.kitOne K (.type "int") (.ref (He.ga K "Thing")) = some false),
  fun K => decide (PySem.W.kitOne K (.type "bool") (.ref (He.ga K "Thing")) = some false),
  fun K => decide (PySem.W.kitOne K (.type "str") (.ref (He.ga K "Thing")) = some false),
  fun K => decide (PySem.W.kitOne K (.type "tuple") (.ref (He.ga K "Thing")) = some false),
  fun K => decide (PySem.W.kitOne K (.type "list") (.ref (He.ga K "Thing")) = some false),
  fun K => decide (PySem.W.kitOne K (.type "NoneType") (.ref (He.ga K "Program")) = some false),
  fun K => decide (PySem.W.kitOne K (.type "int") (.ref (He.ga K "Program")) = some false),
  fun K => decide (PySem.W.kitOne K (.type "bool") (.ref (He.ga K "Program")) = some false),
  fun K => decide (PySem.W.kitOne K (.type "str") (.ref (He.ga K "Program")) = some false),
  fun K => decide (PySem.W.kitOne K (.type "tuple") (.ref (He.ga K "Program")) = some false),
  fun K => decide (PySem.W.kitOne K (.type "list") (.ref (He.ga K "Program")) = some false),
  fun K => decide (PySem.W.kitOne K (.ref (He.ga K "Thing")) (.type "int") = some false),
  fun K => decide (PySem.W.kitOne K (.ref (He.ga K "Thing")) (.type "bool") = some false),
  fun K => decide (PySem.W.kitOne K (.ref (He.ga K "Thing")) (.type "str") = some false),
  fun K => decide (PySem.W.kitOne K (.ref (He.ga K "Thing")) (.type "tuple") = some false),
  fun K => decide (PySem.W.kitOne K (.ref (He.ga K "Thing")) (.type "list") = some false),
  fun K => decide (PySem.W.kitOne K (.ref (He.ga K "Program")) (.type "int") = some false),
  fun K => decide (PySem.W.kitOne K (.ref (He.ga K "Program")) (.type "bool") = some false),
  fun K => decide (PySem.W.kitOne K (.ref (He.ga K "Program")) (.type "str") = some false),
  fun K => decide (PySem.W.kitOne K (.ref (He.ga K "Program")) (.type "tuple") = some false)]
def hex7 : List (PySem.W.Frag → Bool) := [
  fun K => decide (PySem.W.kitOne K (.ref (He.ga K "Program")) (.type "list") = some false),
  fun K => decide (PySem.W.kitOne K (.ref (He.ga K "Thing")) (.ref (He.ga K "Program")) = some false),
  fun K => decide (PySem.W.kitOne K (.ref (He.ga K "Program")) (.ref (He.ga K "Thing")) = some false),
  fun K => decide (PySem.W.nsIn K (He.ga K "FORMS") "again" = some none),
  fun K => decide (PySem.W.nsIn K (He.ga K "FORMS") "a" = some none),
  fun K => decide (PySem.W.nsIn K (He.ga K "FORMS") "TOLD" = some none),
  fun K => decide (PySem.W.nsIn K (He.ga K "FORMS") "FIRST" = some none),
  fun K => decide (PySem.W.nsIn K (He.ga K "FORMS") "SECOND" = some none),
  fun K => decide (PySem.W.nsIn K (He.ga K "FORMS") "PAIR" = some none),
  fun K => decide (PySem.W.nsIn K (He.ga K "FORMS") "SAME" = some none),
  fun K => decide (PySem.W.nsIn K (He.ga K "FORMS") "WHILE" = some none),
  fun K => decide (PySem.W.nsIn K (He.ga K "FORMS") "IF" = some none),
  fun K => decide (PySem.W.nsIn K (He.ga K "FORMS") "" = some none),
  fun K => decide (PySem.W.nsIn K (He.ga K "FORMS") "a = ." = some none),
  fun K => decide (PySem.W.findIn K (.ref (He.ga K "NoProgram")) "__getattribute__" = some (some (.builtin "BaseException.__getattribute__"))),
  fun K => decide (PySem.W.findIn K (.ref (He.ga K "NoProgram")) "__getattr__" = some none),
  fun K => decide (PySem.W.isClsIn K (He.ga K "NoProgram") = true),
  fun K => decide (PySem.W.findIn K (.ref (He.ga K "NoProgram")) "__class__" = some (some (.builtin "object.__class__"))),
  fun K => decide (PySem.W.mroIn K (He.ga K "NoProgram") (.type "object") = some true),
  fun K => decide (PySem.W.kitOne K (.ref (He.ga K "NoProgram")) (.type "ValueError") = some true)]
def hex8 : List (PySem.W.Frag → Bool) := [
  fun K => decide (PySem.W.nsIn K mainGlobals "NoName" = some (some (.ref (He.ga K "NoName")))),
  fun K => decide (PySem.W.nsIn K mainGlobals "NoRoom" = some (some (.ref (He.ga K "NoRoom")))),
  fun K => decide (PySem.W.nsIn K mainGlobals "NoSaying" = some (some (.ref (He.ga K "NoSaying")))),
  fun K => decide (PySem.W.nsIn K mainGlobals "NoStep" = some (some (.ref (He.ga K "NoStep")))),
  fun K => decide (PySem.W.nsIn K mainGlobals "NoText" = some (some (.ref (He.ga K "NoText")))),
  fun K => decide (PySem.W.nsIn K mainGlobals "TooGreat" = some (some (.ref (He.ga K "TooGreat")))),
  fun K => decide (PySem.W.kitAny K (.ref (He.ga K "NoProgram")) [.ref (He.ga K "NoName"), .ref (He.ga K "NoRoom"), .ref (He.ga K "NoSaying"), .ref (He.ga K "NoStep"), .ref (He.ga K "NoText"), .ref (He.ga K "TooGreat")] = some false),
  fun K => decide (PySem.W.nsIn K mainGlobals "len" = some none),
  fun K => decide (PySem.W.nsIn K mainGlobals "range" = some none),
  fun K => decide (PySem.W.nsIn K mainGlobals "isinstance" = some none),
  fun K => decide (PySem.W.nsIn K mainGlobals "abs" = some none),
  fun K => decide (PySem.W.nsIn K mainGlobals "int" = some none),
  fun K => decide (PySem.W.nsIn K mainGlobals "str" = some none),
  fun K => decide (PySem.W.nsIn K mainGlobals "max" = some none),
  fun K => decide (PySem.W.nsIn K mainGlobals "min" = some none),
  fun K => decide (PySem.W.nsIn K mainGlobals "all" = some none),
  fun K => decide (PySem.W.nsIn K mainGlobals "bool" = some none),
  fun K => decide (PySem.W.nsIn K mainGlobals "tuple" = some none),
  fun K => decide (PySem.W.nsIn K mainGlobals "zip" = some none),
  fun K => decide (PySem.W.nsIn K mainGlobals "enumerate" = some none)]
def hex9 : List (PySem.W.Frag → Bool) := [
  fun K => decide (PySem.W.nsIn K mainGlobals "list" = some none),
  fun K => decide (PySem.W.nsIn K mainGlobals "ValueError" = some none)]
def hex : List (PySem.W.Frag → Bool) := hex0 ++ hex1 ++ hex2 ++ hex3 ++ hex4 ++ hex5 ++ hex6 ++ hex7 ++ hex8 ++ hex9
def has0 : List Addr := [3, 6, 4, 21, 38, 58, 78, 98, 118, 138, 158, 221, 232, 239, 246, 247, 299, 310, 317, 322, 329, 336, 343, 350, 357, 362, 369, 376, 381, 388]
def has1 : List Addr := [395, 402, 409, 416, 421, 428, 433, 440, 447, 452, 459, 466, 473, 20, 37, 57, 77, 97, 117, 137, 157, 220, 231, 238, 245, 298, 309, 316, 321, 328]
def has2 : List Addr := [335, 342, 349, 356, 361, 368, 375, 380, 387, 394, 401, 408, 415, 420, 427, 432, 439, 446, 451, 458, 465, 472, 35, 36, 39, 55, 56, 59, 75, 76]
def has3 : List Addr := [79, 95, 96, 99, 115, 116, 119, 135, 136, 139, 155, 156, 159, 176, 183, 190, 197, 204, 211, 218, 219, 222, 223, 261, 268, 275, 282, 289, 296, 297]
def has4 : List Addr := [300, 301, 34, 54, 74, 94, 114, 134, 154, 175, 169, 182, 189, 196, 203, 210, 217, 260, 267, 274, 281, 288, 295]
def has : List Addr := has0 ++ has1 ++ has2 ++ has3 ++ has4
def hexs (K : PySem.W.Frag) : Bool := hex.all fun f => f K
abbrev hR : PySem.W.OpenRow := PySem.W.OpenLaw.row PySem.Challenge.rw_judgeslip_k07_no_programs
abbrev hkX : PySem.W.Hook := hookC has hfn hts hexs
abbrev hob (s : PySem.W.SharedT) : He.AlT × Bool := obC has hfn hts hexs s
theorem hob_eq (s : PySem.W.SharedT) : hob s = hkX.obs s.abs := obC_eq has hfn hts hexs s
theorem hr0F (w : World) : HandSHeadRun.RunEq hR (PySem.W.view hR.prog [48]) PySem.W.Hook.none (fun _ => ()) 20000 hnames (w.withFollow "special-get-raises" false) := by
  intro os
  kernel_rfl
theorem hr1F (w : World) (os : OsState) : (HandSHeadRun.endF (HandSHeadRun.stepQ (HandSHeadRun.denQ HandSHeadRun.tabQ) hR.prog (w.withFollow "special-get-raises" false)) 20000 hR.prog (w.withFollow "special-get-raises" false) os).map (fun s => He.obsT [] hfn hts (He.frG (HandSHeadRun.getT s) has)) = some (He.valT hfn hts (w.withFollow "special-get-raises" false)) := by
  kernel_rfl
theorem hr2F (w : World) (os : OsState) : (HandSHeadRun.endF (HandSHeadRun.stepQ (HandSHeadRun.denQ HandSHeadRun.tabQ) hR.prog (w.withFollow "special-get-raises" false)) 20000 hR.prog (w.withFollow "special-get-raises" false) os).map (fun s => hexs (He.frG (HandSHeadRun.getT s) has)) = some true := by
  kernel_rfl
theorem hrunF (w : World) : HandSHeadRun.RunEq hR (PySem.W.view hR.prog [48]) hkX hob 20000 hnames (w.withFollow "special-get-raises" false) := run_join (hr0F w) (hr1F w) (hr2F w)
theorem hr0T (w : World) : HandSHeadRun.RunEq hR (PySem.W.view hR.prog [48]) PySem.W.Hook.none (fun _ => ()) 20000 hnames (w.withFollow "special-get-raises" true) := by
  intro os
  kernel_rfl
theorem hr1T (w : World) (os : OsState) : (HandSHeadRun.endF (HandSHeadRun.stepQ (HandSHeadRun.denQ HandSHeadRun.tabQ) hR.prog (w.withFollow "special-get-raises" true)) 20000 hR.prog (w.withFollow "special-get-raises" true) os).map (fun s => He.obsT [] hfn hts (He.frG (HandSHeadRun.getT s) has)) = some (He.valT hfn hts (w.withFollow "special-get-raises" true)) := by
  kernel_rfl
theorem hr2T (w : World) (os : OsState) : (HandSHeadRun.endF (HandSHeadRun.stepQ (HandSHeadRun.denQ HandSHeadRun.tabQ) hR.prog (w.withFollow "special-get-raises" true)) 20000 hR.prog (w.withFollow "special-get-raises" true) os).map (fun s => hexs (He.frG (HandSHeadRun.getT s) has)) = some true := by
  kernel_rfl
theorem hrunT (w : World) : HandSHeadRun.RunEq hR (PySem.W.view hR.prog [48]) hkX hob 20000 hnames (w.withFollow "special-get-raises" true) := run_join (hr0T w) (hr1T w) (hr2T w)
theorem hrun (w : World) : HandSHeadRun.RunEq hR (PySem.W.view hR.prog [48]) hkX hob 20000 hnames w :=
  PySem.W.byRow2 "special-get-raises" (P := fun w => HandSHeadRun.RunEq hR (PySem.W.view hR.prog [48]) hkX hob 20000 hnames w) hrunF hrunT w
open PySem PySem.W PySem.Calls PyProof.Rows in
theorem hfe : opening hR.prog = plainProg hR.prog.main.scope.names := by kernel_rfl
open PySem PySem.W PySem.Calls PyProof.Rows in
theorem hff : ∀ s, fenceModules? hR.prog s = some s := fun s => by kernel_rfl
open PySem PySem.W PySem.Calls PyProof.Rows in
theorem hfd : defOf (view hR.prog [48]) hR.name = some (HandSHeadRun.topDef hR.prog 48, []) := by kernel_rfl
open PySem PySem.W PySem.Calls PyProof.Rows in
theorem hfp : hR.prog.theDef hR.name = some ((HandSHeadRun.topDef hR.prog 48).params, (HandSHeadRun.topDef hR.prog 48).body, (HandSHeadRun.topDef hR.prog 48).scope) := by kernel_rfl
open PySem PySem.W PySem.Calls PyProof.Rows in
theorem hfo : (chainsOk (view hR.prog [48]) && opensWell hR.prog && (frees hR.toRowW && hR.within.isEmpty)) = true := by decide +kernel
open PySem PySem.W PySem.Calls PyProof.Rows in
theorem hfb : hR.prog.bare := ⟨rfl, rfl, rfl, rfl, rfl, by decide +kernel⟩
end Js
set_option Elab.async false
set_option linter.all false
set_option maxRecDepth 100000
set_option maxHeartbeats 2000000
namespace Js
open PySem L2
def spAlike (C : Addr) : Sp := spEqT C
section
variable {P : Program} {w : World} {K : PySem.W.Frag} {mg : Str → Option Value} {base : Heap} {C : Addr}
theorem scA : FnScope ["one", "other", "waiting", "left", "right"] ["one", "other"] (defScope sAlike) := ⟨rfl, rfl, rfl, by decide +kernel, rfl, by decide +kernel, by decide +kernel⟩
theorem ok_alike {f : Addr} {fd : FuncData} (F : Fun K "alike" "alike" sAlike f fd) (T : Txt K mg C) : FnOk P w K mg base CX0 1 f fd ["one", "other"] (spAlike C) := by
  refine F.ok scA (fun vs H Q E h => ?_) (fun cdv A outer s H vs Q E hr h => ?_)
  · obtain ⟨a, b, t, u, rfl, _⟩ := h
    rfl
  · obtain ⟨a, b, t, u, rfl, ha, hb, hz, k⟩ := h
    refine ⟨_, pss_cons (ps_set (i := 2) scA.nd rfl (Or.inl rfl) (pe_lst (pa_cons (pe_tup (pa_cons (pv 0) (pa_cons (pv 1) pa_nil))) pa_nil)))
      (pss_cons (ps_while PassesOwn.never (pt_truth (pv 2) (by intro _; rfl))
        (pss_cons (ps_asg (pe_bm0 PySem.F.plainAttrs_list PySem.F.slot_list_pop PySem.F.type_list_pop mt_pop (pv 2)) (pg_tup rfl (pgs_cons (pg_name (i := 3) scA.nd rfl (Or.inl rfl)) (pgs_cons (pg_name (i := 4) scA.nd rfl (Or.inl rfl)) pgs_nil))))
        (pss_cons (ps_if (pt_cmpR op_ne (pe_fld (pv 3) rfl) (pe_fld (pv 4) rfl) (nomark _)) (pss_one (ps_ret pe_bl)) pss_nil)
        (pss_one (ps_if (pt_cmpR op_gt (pe_fld (pv 3) rfl) pe_int (nomark _))
          (pss_cons (ps_expr (pe_bm PySem.F.plainAttrs_list PySem.F.slot_list_append PySem.F.type_list_append mt_append (pv 2) (pa_cons (pe_tup (pa_cons (pe_fld (pv 3) rfl) (pa_cons (pe_fld (pv 4) rfl) pa_nil))) pa_nil)))
          (pss_one (ps_expr (pe_bm PySem.F.plainAttrs_list PySem.F.slot_list_append PySem.F.type_list_append mt_append (pv 2) (pa_cons (pe_tup (pa_cons (pe_fld (pv 3) rfl) (pa_cons (pe_fld (pv 4) rfl) pa_nil))) pa_nil))))) pss_nil)))))
      (pss_one (ps_ret pe_bl))), ?_⟩
    refine ⟨_, rfl, _, rfl, (by show 2 ≤ sizeLine; decide), fun q0 nq0 => ?_⟩
    refine ⟨(by show 1 ≤ sizeLine; decide), fun wl nwl => ?_⟩
    have hwl : H wl = none := by
      have := nwl
      unfold upd at this
      split at this
      · cases this
      · exact this
    have nqw : q0 ≠ wl := ne_of_none (o := .tup [.ref a, .ref b]) upd_same nwl
    -- the loop
    refine ⟨fun m σ H' => ∃ (rs : List V) (ps : List (Tr × Tr)) (x3 x4 : Option V), σ = [some (.ref a), some (.ref b), some (.ref wl), x3, x4] ∧ Same H H' ∧ H' wl = some (.lst rs.reverse) ∧ Paired (PrAt C H') rs ps ∧
      ((∀ p ∈ ps, p.1 = p.2) ↔ t = u) ∧ m = pm ps ∧ m ≤ 2 * t.size + 1, ?_, ?_⟩
    · have s1 : Same H (upd (upd H q0 (.tup [.ref a, .ref b])) wl (.lst [.ref q0])) := (Same.new nq0).set hwl
      refine ⟨_, [.ref q0], [(t, u)], none, none, rfl, s1, upd_same, .cons ⟨q0, a, b, rfl, ?_, ha.same s1, hb.same s1⟩ .nil, ?_, rfl, ?_⟩
      · exact (upd_ne nqw).trans upd_same
      · simp
      · simp [pm]
    · rintro m σ H' ⟨rs, ps, x3, x4, rfl, s1, hw, hps, hiff, rfl, hm⟩
      refine ⟨_, rfl, !rs.reverse.isEmpty, .inl ⟨_, SqL.of hw, rfl⟩, ?_⟩
      cases hps with
      | nil =>
        refine iteF ?_
        have : t = u := hiff.mp (fun p hp => by cases hp)
        have z := k H' s1
        rw [decide_eq_true this] at z
        exact z
      | @cons v p rs ps hv hps =>
        have e1 : (!(v :: rs).reverse.isEmpty) = true := by simp
        rw [e1]
        refine iteT ⟨fun σ' H2 => ∃ m', m' < pm (p :: ps) ∧ _, fun σ' H2 z => z, ?_⟩
        obtain ⟨q, x, y, rfl, hq, hx, hy⟩ := hv
        have hlen : rs.length ≤ pm ps := by rw [Paired.length hps]; exact pm_len ps
        rw [pm_cons] at hm
        refine ⟨_, rfl, .inl ⟨rfl, _, SqL.of hw⟩, wl, _, _, rfl, rfl, hw, last_rev _ _, ?_⟩
        rw [drop_rev]
        have nqwl : q ≠ wl := ne_of hq hw (by intro z; cases z)
        have k1 : KT H' (upd H' wl (.lst rs.reverse)) := KT.lst hw
        have s2 : Same H (upd H' wl (.lst rs.reverse)) := s1.set hwl
        have hx2 := hx.kt k1
        have hy2 := hy.kt k1
        have hps2 := prs_kt k1 hps
        obtain ⟨dx, f1, g1, h1⟩ := hx2.obj
        obtain ⟨dy, f2, g2, h2⟩ := hy2.obj
        refine ⟨q, _, rfl, SqT.of ((upd_ne nqwl).trans hq), rfl, _, _, rfl, _, _, rfl, rfl, ?_⟩
        refine ⟨_, rfl, _, _, _, _, _, rfl, h1, T.cl, T.nZ, tf_size _ _ _, _, rfl, _, _, _, _, _, rfl, h2, T.cl, T.nZ, tf_size _ _ _, rfl, _, rfl, ?_⟩
        by_cases hsz : p.1.size = p.2.size
        · have ed : (!decide (V.int (p.1.size : Nat) = V.int (p.2.size : Nat))) = false := by rw [hsz]; simp
          rw [ed]
          refine iteF ?_
          refine ⟨_, rfl, _, _, _, _, _, rfl, h1, T.cl, T.nZ, tf_size _ _ _, _, _, rfl, rfl, _, rfl, ?_⟩
          by_cases h1z : 1 < p.1.size
          · have ed2 : decide ((1 : Int) < (p.1.size : Nat)) = true := decide_eq_true (by omega)
            rw [ed2]
            refine iteT ?_
            obtain ⟨t1, u1⟩ := p
            cases t1 with
            | nil => simp [Tr.size] at h1z
            | pr l1 r1 =>
            cases u1 with
            | nil => simp [Tr.size] at hsz
            | pr l2 r2 =>
            obtain ⟨dx', b1, c1, hX, hb1, hc1⟩ := hx2.pair
            obtain ⟨dy', b2, c2, hY, hb2, hc2⟩ := hy2.pair
            -- waiting.append((left.second, right.second))
            refine ⟨_, rfl, .inl ⟨rfl, _, SqL.of upd_same⟩, _, rfl, _, _, _, _, _, rfl, hX, T.cl, T.nS, tf_second _ _ _, _, rfl, _, _, _, _, _, rfl, hY, T.cl, T.nS, tf_second _ _ _, (by show 2 ≤ sizeLine; decide), fun q1 nq1 => ?_⟩
            have nq1w : wl ≠ q1 := ne_of_none (o := .lst rs.reverse) upd_same nq1
            have hsl := line4
            simp only [Tr.size] at hm
            refine ⟨wl, _, _, rfl, rfl, (upd_ne nq1w).trans upd_same, (by rw [List.length_reverse]; omega), ?_⟩
            have k2 : KT (upd H' wl (.lst rs.reverse)) (upd (upd (upd H' wl (.lst rs.reverse)) q1 (.tup [.ref c1, .ref c2])) wl (.lst (rs.reverse ++ [.ref q1]))) := (KT.new nq1).trans (KT.lst ((upd_ne nq1w).trans upd_same))
            have s3 : Same H (upd (upd (upd H' wl (.lst rs.reverse)) q1 (.tup [.ref c1, .ref c2])) wl (.lst (rs.reverse ++ [.ref q1]))) := (s2.trans (Same.new nq1)).set hwl
            have hq1 : (upd (upd (upd H' wl (.lst rs.reverse)) q1 (.tup [.ref c1, .ref c2])) wl (.lst (rs.reverse ++ [.ref q1]))) q1 = some (.tup [.ref c1, .ref c2]) := (upd_ne (Ne.symm nq1w)).trans upd_same
            have hw3 : (upd (upd (upd H' wl (.lst rs.reverse)) q1 (.tup [.ref c1, .ref c2])) wl (.lst (rs.reverse ++ [.ref q1]))) wl = some (.lst (rs.reverse ++ [.ref q1])) := upd_same
            have hX3 := k2 _ _ hX (fun _ e => nomatch e)
            have hY3 := k2 _ _ hY (fun _ e => nomatch e)
            have hps3 := prs_kt k2 hps2
            have hb1' := hb1.kt k2
            have hc1' := hc1.kt k2
            have hb2' := hb2.kt k2
            have hc2' := hc2.kt k2
            revert s3 hq1 hw3 hX3 hY3 hps3 hb1' hc1' hb2' hc2'
            generalize (upd (upd (upd H' wl (.lst rs.reverse)) q1 (.tup [.ref c1, .ref c2])) wl (.lst (rs.reverse ++ [.ref q1]))) = H3
            intro s3 hq1 hw3 hX3 hY3 hps3 hb1' hc1' hb2' hc2'
            -- waiting.append((left.first, right.first))
            refine ⟨_, rfl, .inl ⟨rfl, _, SqL.of hw3⟩, _, rfl, _, _, _, _, _, rfl, hX3, T.cl, T.nF, tf_first _ _ _, _, rfl, _, _, _, _, _, rfl, hY3, T.cl, T.nF, tf_first _ _ _, (by show 2 ≤ sizeLine; decide), fun q2 nq2 => ?_⟩
            have nq2w : wl ≠ q2 := ne_of_none hw3 nq2
            refine ⟨wl, _, _, rfl, rfl, (upd_ne nq2w).trans hw3, (by rw [List.length_append, List.length_reverse, List.length_singleton]; omega), ?_⟩
            have k4 : KT H3 (upd (upd H3 q2 (.tup [.ref b1, .ref b2])) wl (.lst (rs.reverse ++ [.ref q1] ++ [.ref q2]))) := (KT.new nq2).trans (KT.lst ((upd_ne nq2w).trans hw3))
            refine ⟨pm ((l1, l2) :: (r1, r2) :: ps), ?_, .ref q2 :: .ref q1 :: rs, (l1, l2) :: (r1, r2) :: ps, _, _, rfl, (s3.trans (Same.new nq2)).set hwl, ?_, .cons ⟨q2, b1, b2, rfl, (upd_ne (Ne.symm nq2w)).trans upd_same, hb1'.kt k4, hb2'.kt k4⟩ (.cons ⟨q1, c1, c2, rfl, k4 _ _ hq1 (fun _ e => nomatch e), hc1'.kt k4, hc2'.kt k4⟩ (prs_kt k4 hps3)), ?_, rfl, ?_⟩
            · rw [pm_cons, pm_cons, pm_cons]
              simp only [Tr.size]
              omega
            · rw [upd_same, push_rev, push_rev]
            · rw [← hiff]
              simp only [List.mem_cons, forall_eq_or_imp, Tr.pr.injEq]
              constructor
              · rintro ⟨h1, h2, h3⟩
                exact ⟨⟨h1, h2⟩, h3⟩
              · rintro ⟨⟨h1, h2⟩, h3⟩
                exact ⟨h1, h2, h3⟩
            · rw [pm_cons, pm_cons]
              show 2 * l1.size + 1 + (2 * r1.size + 1 + pm ps) ≤ _
              omega
          · have ed2 : decide ((1 : Int) < (p.1.size : Nat)) = false := decide_eq_false (by omega)
            rw [ed2]
            refine iteF ?_
            have ep : p.1 = p.2 := Tr.small_eq hsz (by omega)
            refine ⟨pm ps, by rw [pm_cons]; omega, rs, ps, _, _, rfl, s2, upd_same, hps2, ?_, rfl, by omega⟩
            rw [← hiff]
            simp [ep]
        · have ed : (!decide (V.int (p.1.size : Nat) = V.int (p.2.size : Nat))) = true := by
            simp
            omega
          rw [ed]
          refine iteT ?_
          have : ¬ t = u := fun z => hsz (by rw [hiff.mpr z p (by simp)])
          have z := k _ s2
          rw [decide_eq_false this] at z
          exact z
theorem scE : FnScope ["self", "other"] ["self", "other"] (defScope sEq) := ⟨rfl, rfl, rfl, by decide +kernel, rfl, by decide +kernel, by decide +kernel⟩
theorem kit_self (K : PySem.W.Frag) (C : Addr) : PySem.W.kitOne K (.ref C) (.ref C) = some true := by
  unfold PySem.W.kitOne
  rw [if_pos (by simp)]
theorem ok_eq {f fA : Addr} {fd fdA : FuncData} (F : Fun K "__eq__" "Thing.__eq__" sEq f fd) (T : Txt K mg C) (AA : At K mg "alike" sAlike ["one", "other"] fA fdA) : FnOk P w K mg base CX0 2 f fd ["self", "other"] (spEqT C) := by
  have GA : FnOk P w K mg base CX0 1 fA fdA ["one", "other"] (spAlike C) := ok_alike AA.F T
  refine F.ok scE (fun vs H Q E h => ?_) (fun cdv A outer s H vs Q E hr h => ?_)
  · obtain ⟨a, b, t, u, rfl, _⟩ := h
    rfl
  · obtain ⟨a, b, t, u, rfl, ha, hb, hz, k⟩ := h
    refine ⟨_, pss_one (ps_ret (pe_and (pe_callB call_isi (by rfl) T.isi PyProof.Rows.boot_isinstance (pa_cons (pv 1) (pa_cons (pe_glob (v := .ref C) rfl T.mgC rfl) pa_nil)))
      (pe_one (pe_call GA hr rfl AA.mgf AA.F.kp AA.b .nil pass0 (pa_cons (pv 0) (pa_cons (pv 1) pa_nil)))))), ?_⟩
    obtain ⟨dy, f2, g2, h2⟩ := hb.obj
    refine ⟨_, rfl, _, _, _, _, true, rfl, ClsV.own C, .base (.ins h2 T.cl T.ca T.cn T.ct T.cm), kit_self _ _, true, rfl, ?_⟩
    refine iteT ?_
    exact ⟨_, rfl, _, rfl, a, b, t, u, rfl, ha, hb, hz, k⟩
theorem e41 : ((")" : Str)) = ⟨#[41]⟩ := by decide +kernel
theorem e46 : (("." : Str)) = ⟨#[46]⟩ := by decide +kernel
end
end Js
set_option Elab.async false
set_option linter.all false
set_option maxRecDepth 100000
set_option maxHeartbeats 2000000
namespace Js
open PySem L2
structure Maker (P : Program) (w : World) (K : PySem.W.Frag) (mg : Str → Option Value) (base : Heap) (C fI : Addr) (fdI : FuncData) : Prop where
  M : Mk K C fI
  G : FnOk P w K mg base CX0 2 fI fdI ["self", "first", "second"] (spInit C)
  mgC : mg "Thing" = some (.ref C)
  b2 : Binds K fdI ["self", "first", "second"] []
  b0 : ∃ ds, Vals [V.non, V.non] ds ∧ Binds K fdI ["self", "first", "second"] ds
def tT (C : Addr) (t : TA) : TE := fun σ H Q => t σ H fun vs H1 => ∃ a b t u, vs = [.ref a, .ref b] ∧ Th C H1 a t ∧ Th C H1 b u ∧ 1 + t.size + u.size ≤ 4000 ∧ ∀ z H', Same H1 H' → H1 z = none → Th C H' z (.pr t u) → Q (.ref z) H'
def tT0 (C : Addr) : TE := fun _ H Q => ∀ z H', Same H H' → H z = none → Th C H' z .nil → Q (.ref z) H'
section
open PyProof.Rows
variable {X : Cx} {C fI : Addr} {fdI : FuncData} {p pos : Pos} {e : Expr} {es : List Expr} {t : TA}
theorem pe_T2 (mk : Maker X.prog X.w X.K X.mg X.base C fI fdI) (hr : Room 3 X.A) (hg : Gl X "Thing") (ha : PA X (e :: es) t)
    (he : starEach (e :: es) X.env = (false, eval e X.env) :: starEach es X.env := by rfl) (hpl : (backTo pos (starEach es X.env)).any (·.1) = false := by rfl) : PE X (.Call (.Name "Thing" p) (e :: es) [] pos) (tT C t) := by
  refine ⟨fun pins s σ H Q I h => ?_⟩
  refine wpAny_Call_Name_kw (ld_glob I hg mk.mgC ?_ (by decide))
  refine PySem.W.callWith_K (h₀ := X.base) I.ok.mod.kin mk.M.kp (thn (ha.run pos pins s σ H _ I h) fun us s1 ⟨vs, H1, I1, r, q⟩ => ⟨I1.kIn, ?_⟩) he hpl
  obtain ⟨a, b, t, u, rfl, h1, h2, hz, k⟩ := q
  exact run_make mk.M mk.G hr mk.b2 .nil pass0 I1 r (mk_pr h1 h2 hz k)
theorem pe_T0 (mk : Maker X.prog X.w X.K X.mg X.base C fI fdI) (hr : Room 3 X.A) (hg : Gl X "Thing") : PE X (.Call (.Name "Thing" p) [] [] pos) (tT0 C) := by
  obtain ⟨ds, hv, hb⟩ := mk.b0
  refine ⟨fun pins s σ H Q I h => ?_⟩
  refine wpAny_Call_Name_kw (ld_glob I hg mk.mgC ?_ (by decide))
  exact PySem.W.callWith_K0 I.kIn mk.M.kp (run_make (us := []) mk.M mk.G hr hb hv pass0 I .nil (mk_nil h))
end
def ThV (C : Addr) (H : Hp) (v : V) (t : Tr) : Prop := ∃ a, v = .ref a ∧ Th C H a t
theorem ThV.kt {C : Addr} {H H' : Hp} (k : KT H H') {v : V} {t : Tr} (h : ThV C H v t) : ThV C H' v t := by
  obtain ⟨a, e, h⟩ := h
  exact ⟨a, e, h.kt k⟩
theorem ths_kt {C : Addr} {H H' : Hp} (k : KT H H') : ∀ {vs : List V} {ts : List Tr}, Paired (ThV C H) vs ts → Paired (ThV C H') vs ts
  | _, _, .nil => .nil
  | _, _, .cons h t => .cons (h.kt k) (ths_kt k t)
theorem paired_get {α β : Type} {F : α → β → Prop} : ∀ {xs : List α} {ys : List β}, Paired F xs ys → ∀ {i : Nat} {x : α}, xs[i]? = some x → ∃ y, ys[i]? = some y ∧ F x y
  | _, _, .nil, i, x, h => by simp at h
  | _, _, .cons h t, 0, x, e => by
    simp at e
    subst e
    exact ⟨_, rfl, h⟩
  | _, _, .cons h t, i + 1, x, e => by
    simp at e
    obtain ⟨y, e1, e2⟩ := paired_get t e
    exact ⟨y, by simpa using e1, e2⟩
theorem paired_snoc {α β : Type} {F : α → β → Prop} : ∀ {xs : List α} {ys : List β} {x : α} {y : β}, Paired F xs ys → F x y → Paired F (xs ++ [x]) (ys ++ [y])
  | _, _, _, _, .nil, h => .cons h .nil
  | _, _, _, _, .cons h t, h' => .cons h (paired_snoc t h')
end Js
set_option Elab.async false
set_option linter.all false
set_option maxRecDepth 100000
set_option maxHeartbeats 2000000
namespace Js
open PySem L2
abbrev sBag : Stmt := top 32
abbrev sTake : Stmt := top 33
structure Blt (mg : Str → Option Value) : Prop where
  len : mg "len" = none
  range : mg "range" = none
  abs : mg "abs" = none
  int : mg "int" = none
  str : mg "str" = none
  max : mg "max" = none
  min : mg "min" = none
  all : mg "all" = none
structure BagOk (H : Hp) (p : Addr) : Prop where
  ex : ∃ x0 x1 pr x3 : Int, H p = some (.lst [.int x0, .int x1, .int pr, .int x3]) ∧ 0 ≤ x0 ∧ 0 ≤ x1 ∧ x1 < 2147483648 ∧ 0 < pr ∧ pr < 2147483648
def KB (p : Addr) (H H' : Hp) : Prop := ∀ a o, a ≠ p → H a = some o → H' a = some o
theorem KB.refl (p : Addr) (H : Hp) : KB p H H := fun _ _ _ h => h
theorem KB.of {p : Addr} {H H' : Hp} (s : Same H H') : KB p H H' := fun _ _ _ h => s _ _ h
theorem KB.trans {p : Addr} {H H1 H2 : Hp} (a : KB p H H1) (b : KB p H1 H2) : KB p H H2 := fun x o n h => b x o n (a x o n h)
theorem KB.set {p : Addr} {H : Hp} {o : HO} : KB p H (upd H p o) := fun x u n h => by rw [upd_ne n]; exact h
theorem KB.kt {p : Addr} {H H' : Hp} (k : KB p H H') {xs : List V} (hp : H p = some (.lst xs)) : KT H H' := fun a o h n => k a o (fun z => by subst z; exact n _ (Option.some.inj (h.symm.trans hp))) h
theorem BagOk.kt {p : Addr} {H H' : Hp} (b : BagOk H p) (k : KB p H H') : KT H H' := by
  obtain ⟨x0, x1, pr, x3, h, _⟩ := b.ex
  exact k.kt h
theorem BagOk.same {p : Addr} {H H' : Hp} (b : BagOk H p) (s : Same H H') : BagOk H' p := by
  obtain ⟨x0, x1, pr, x3, h, r⟩ := b.ex
  exact ⟨x0, x1, pr, x3, s _ _ h, r⟩
theorem BagOk.some {p : Addr} {H : Hp} (b : BagOk H p) : ∃ xs, H p = some (.lst xs) := by
  obtain ⟨x0, x1, pr, x3, h, r⟩ := b.ex
  exact ⟨_, h⟩
def spBag (K : PySem.W.Frag) : Sp := fun vs H Q _ => ∃ (a : Addr) (ns : List Int) (k : Nat), vs = [.ref a, .int (k : Nat)] ∧ SqL K H a (ns.map V.int) ∧ k < 8 ∧ ∀ p H', Same H H' → H p = none → BagOk H' p → Q (.ref p) H'
def spTake : Sp := fun vs H Q _ => ∃ (p : Addr) (m : Int), vs = [.ref p, .int m] ∧ BagOk H p ∧ 0 < m ∧ m < 1073741824 ∧ ∀ (d : Int) H', KB p H H' → BagOk H' p → 0 ≤ d → d < m → Q (.int d) H'
def primes : List V := [.int 2147483629, .int 2147483587, .int 2147483579, .int 2147483563, .int 2147483549, .int 2147483543, .int 2147483497, .int 2147483489]
theorem prime_at (k : Nat) (hk : k < 8) : ∃ pr : Int, atI primes ((k : Int) % 8) = some (.int pr) ∧ 0 < pr ∧ pr < 2147483648 := by
  have e : ((k : Int) % 8) = (k : Nat) := by omega
  rw [e]
  match k, hk with
  | 0, _ => exact ⟨_, atI_nat rfl, by decide, by decide⟩
  | 1, _ => exact ⟨_, atI_nat rfl, by decide, by decide⟩
  | 2, _ => exact ⟨_, atI_nat rfl, by decide, by decide⟩
  | 3, _ => exact ⟨_, atI_nat rfl, by decide, by decide⟩
  | 4, _ => exact ⟨_, atI_nat rfl, by decide, by decide⟩
  | 5, _ => exact ⟨_, atI_nat rfl, by decide, by decide⟩
  | 6, _ => exact ⟨_, atI_nat rfl, by decide, by decide⟩
  | 7, _ => exact ⟨_, atI_nat rfl, by decide, by decide⟩
section
variable {P : Program} {w : World} {K : PySem.W.Frag} {mg : Str → Option Value} {base : Heap} {C fI : Addr} {fdI : FuncData}
theorem scB : FnScope ["_law_script", "_law_at", "_law_cell", "_law_prime"] ["_law_script", "_law_at"] (defScope sBag) := ⟨rfl, rfl, rfl, by decide +kernel, rfl, by decide +kernel, by decide +kernel⟩
theorem ok_bag {f : Addr} {fd : FuncData} (F : Fun K "_law_bag" "_law_bag" sBag f fd) (B : Blt mg) : FnOk P w K mg base CX0 1 f fd ["_law_script", "_law_at"] (spBag K) := by
  refine F.ok scB (fun vs H Q E h => ?_) (fun cdv A outer s H vs Q E hr h => ?_)
  · obtain ⟨a, ns, k, rfl, _⟩ := h
    rfl
  · obtain ⟨a, ns, kk, rfl, hS, hk, k⟩ := h
    refine ⟨_, pss_cons (ps_set (i := 2) scB.nd rfl (Or.inl rfl) pe_int)
      (pss_cons (ps_if (pt_cmpR op_lt (pv 1) (pe_callB call_len_seq (by rfl) B.len PySem.boot_len (pa_cons (pv 0) pa_nil)) (nomark _))
        (pss_one (ps_set (i := 2) scB.nd rfl (Or.inl rfl) (pe_callB call_abs (by rfl) B.abs PyProof.Rows.boot_abs (pa_cons (pe_ix ix_list (pv 0) (pv 1) (fun _ _ => rfl)) pa_nil)))) pss_nil)
      (pss_cons (ps_set (i := 3) scB.nd rfl (Or.inl rfl) (pe_ix ix_list (pe_lst (pa_cons pe_int (pa_cons pe_int (pa_cons pe_int (pa_cons pe_int (pa_cons pe_int (pa_cons pe_int (pa_cons pe_int (pa_cons pe_int pa_nil))))))))) (pe_op op_mod (pv 1) pe_int) (fun _ _ => rfl)))
      (pss_one (ps_ret (pe_lst (pa_cons (pe_op op_mul (pv 2) (pe_callTy call_int1 (by rfl) B.int PyProof.Rows.boot_int (pa_cons (pe_cmpR op_ge (pv 2) (pe_op op_pow pe_int pe_int) (nomark _)) pa_nil)))
        (pa_cons (pe_op op_mod (pe_op op_pow (pe_op op_add (pe_op op_add (pe_op op_mod (pv 2) pe_int) (pe_op op_mul pe_int (pv 1))) pe_int) pe_int) (pv 3)) (pa_cons (pv 3) (pa_cons pe_int pa_nil))))))))), ?_⟩
    -- behind the first if
    have rest : ∀ (cell : Int), 0 ≤ cell → tSeq (tAsg (tOp (rIxL K) (tLst (tCons (tC (V.int 2147483629)) (tCons (tC (V.int 2147483587)) (tCons (tC (V.int 2147483579)) (tCons (tC (V.int 2147483563)) (tCons (tC (V.int 2147483549)) (tCons (tC (V.int 2147483543)) (tCons (tC (V.int 2147483497)) (tCons (tC (V.int 2147483489)) tNil))))))))) (tOp (rI (fun _ j => 0 < j) fun i j => .int (i % j)) (tVar 1) (tC (V.int 8)))) (gName 3))
        (tRet (tLst (tCons (tOp (rI CMul fun i j => .int (i * j)) (tVar 2) (tCB (fun xs H Q => (∃ i, xs = [.int i] ∧ Q (.int i) H) ∨ ∃ k, xs = [.bl k] ∧ Q (.int (if k then 1 else 0)) H) (tCons (tOp (rI0 fun i j => .bl (decide (j ≤ i))) (tVar 2) (tOp (rI CPow fun i j => .int (i ^ j.toNat)) (tC (.int 10)) (tC (.int 18)))) tNil)))
          (tCons (tOp (rI (fun _ j => 0 < j) fun i j => .int (i % j)) (tOp (rI CPow fun i j => .int (i ^ j.toNat)) (tOp (rI0 fun i j => .int (i + j)) (tOp (rI0 fun i j => .int (i + j)) (tOp (rI (fun _ j => 0 < j) fun i j => .int (i % j)) (tVar 2) (tC (.int 2147483647))) (tOp (rI CMul fun i j => .int (i * j)) (tC (.int 104729)) (tVar 1))) (tC (.int 7))) (tC (.int 5))) (tVar 3)) (tCons (tVar 3) (tCons (tC (.int 0)) tNil))))))
        { nx := fun _ H' => Q .non H', rt := Q } [some (.ref a), some (.int (kk : Nat)), some (.int cell), none] H := by
      intro cell hc
      refine ⟨(by show 8 ≤ sizeLine; decide), fun pl npl => ?_⟩
      obtain ⟨pr, e1, e2, e3⟩ := prime_at kk hk
      refine ⟨_, rfl, _, _, rfl, rfl, (by show (0 : Int) < 8; decide), pl, _, _, _, rfl, rfl, SqL.of upd_same, e1, ?_⟩
      refine ⟨_, rfl, _, rfl, _, _, rfl, rfl, ⟨by decide, by decide, by decide⟩, _, _, rfl, rfl, .inr ⟨_, rfl, _, _, rfl, rfl, .inr ?_, ?_⟩⟩
      · split
        · exact ⟨by decide, by decide⟩
        · exact ⟨by decide, by decide⟩
      · refine ⟨_, rfl, _, _, rfl, rfl, (by show (0 : Int) < 2147483647; decide), _, rfl, _, _, rfl, rfl, .inl ⟨by decide, by decide⟩, _, _, rfl, rfl, _, _, rfl, rfl, _, _, rfl, rfl, ⟨by decide, by decide, ?_⟩, _, rfl, _, _, rfl, rfl, e2, _, rfl, (by show 4 ≤ sizeLine; decide), fun p np => ?_⟩
        · have h1 : 0 ≤ cell % 2147483647 := Int.emod_nonneg _ (by decide)
          have h2 : cell % 2147483647 < 2147483647 := Int.emod_lt_of_pos _ (by decide)
          show (cell % 2147483647 + 104729 * (kk : Int) + 7).natAbs < 2 ^ 64
          omega
        · have hne : H p = none := (Same.new npl).free np
          refine k p _ ((Same.new npl).trans (Same.new np)) hne ⟨_, _, pr, 0, upd_same, ?_, ?_, ?_, e2, e3⟩
          · split
            · simpa using hc
            · simp
          · exact Int.emod_nonneg _ (by omega)
          · exact Int.lt_trans (Int.emod_lt_of_pos _ e2) e3
    refine ⟨_, rfl, _, rfl, a, _, rfl, .inl hS, _, _, rfl, rfl, _, rfl, ?_⟩
    refine ite2 (fun hlt => ?_) (fun _ => rest 0 (by decide))
    have hlt' : kk < ns.length := by
      have := of_decide_eq_true hlt
      rw [List.length_map] at this
      omega
    refine ⟨_, rfl, _, rfl, a, _, _, _, rfl, rfl, hS, atI_nat (v := .int ns[kk]) (by rw [List.getElem?_map, List.getElem?_eq_getElem hlt']; rfl), _, rfl, ?_⟩
    exact rest _ (by split <;> omega)
theorem scTk : FnScope ["_law_bag_here", "_law_many_here", "_law_digit"] ["_law_bag_here", "_law_many_here"] (defScope sTake) := ⟨rfl, rfl, rfl, by decide +kernel, rfl, by decide +kernel, by decide +kernel⟩
theorem ok_take {f : Addr} {fd : FuncData} (F : Fun K "_law_take" "_law_take" sTake f fd) : FnOk P w K mg base CX0 1 f fd ["_law_bag_here", "_law_many_here"] spTake := by
  refine F.ok scTk (fun vs H Q E h => ?_) (fun cdv A outer s H vs Q E hr h => ?_)
  · obtain ⟨p, m, rfl, _⟩ := h
    rfl
  · obtain ⟨p, m, rfl, ⟨x0, x1, pr, x3, hp, h0, h1, h1', hp0, hp1⟩, hm0, hm1, k⟩ := h
    refine ⟨_, pss_cons (ps_if (pt_cmpR op_gt (pe_ix ix_list (pv 0) pe_int (fun _ _ => rfl)) pe_int (nomark _))
        (pss_cons (ps_set (i := 2) scTk.nd rfl (Or.inl rfl) (pe_op op_mod (pe_ix ix_list (pv 0) pe_int (fun _ _ => rfl)) (pv 1)))
        (pss_cons (ps_asg (pe_op op_fdiv (pe_ix ix_list (pv 0) pe_int (fun _ _ => rfl)) (pv 1)) (pg_sub (pv 0) pe_int set_list)) (pss_one (ps_ret (pv 2))))) pss_nil)
      (pss_cons (ps_asg (pe_op op_add (pe_ix ix_list (pv 0) pe_int (fun _ _ => rfl)) pe_int) (pg_sub (pv 0) pe_int set_list))
      (pss_cons (ps_asg (pe_op op_mod (pe_op op_add (pe_op op_add (pe_op op_mul (pe_ix ix_list (pv 0) pe_int (fun _ _ => rfl)) pe_int) (pe_op op_mul pe_int (pe_ix ix_list (pv 0) pe_int (fun _ _ => rfl)))) pe_int) (pe_ix ix_list (pv 0) pe_int (fun _ _ => rfl))) (pg_sub (pv 0) pe_int set_list))
      (pss_one (ps_ret (pe_op op_mod (pe_op op_mod (pe_op op_pow (pe_op op_fdiv (pe_ix ix_list (pv 0) pe_int (fun _ _ => rfl)) pe_int) pe_int) pe_int) (pv 1)))))), ?_⟩
    refine ⟨_, rfl, p, _, _, .int x0, rfl, rfl, SqL.of hp, rfl, _, _, rfl, rfl, _, rfl, ?_⟩
    refine ite2 (fun hlt => ?_) (fun _ => ?_)
    · refine ⟨_, rfl, p, _, _, .int x0, rfl, rfl, SqL.of hp, rfl, _, rfl, _, _, rfl, rfl, hm0, ?_⟩
      refine ⟨_, rfl, p, _, _, .int x0, rfl, rfl, SqL.of hp, rfl, _, rfl, _, _, rfl, rfl, ⟨hm0, hm1⟩, _, rfl, p, _, _, 0, rfl, rfl, hp, rfl, ?_⟩
      refine ⟨_, rfl, k _ _ KB.set ⟨x0 / m, x1, pr, x3, upd_same, ?_, h1, h1', hp0, hp1⟩ ?_ ?_⟩
      · exact Int.ediv_nonneg h0 (by omega)
      · exact Int.emod_nonneg _ (by omega)
      · exact Int.emod_lt_of_pos _ hm0
    · refine ⟨_, rfl, p, _, _, .int x3, rfl, rfl, SqL.of hp, rfl, _, _, rfl, rfl, _, rfl, p, _, _, 3, rfl, rfl, hp, rfl, ?_⟩
      have hp2 : (upd H p (.lst [.int x0, .int x1, .int pr, .int (x3 + 1)])) p = some (.lst [.int x0, .int x1, .int pr, .int (x3 + 1)]) := upd_same
      refine ⟨_, rfl, p, _, _, .int x1, rfl, rfl, SqL.of hp2, rfl, _, _, rfl, rfl, .inr ⟨by decide, by decide⟩, _, rfl, p, _, _, .int (x3 + 1), rfl, rfl, SqL.of hp2, rfl, _, _, rfl, rfl, .inl ⟨by decide, by decide⟩, _, _, rfl, rfl, _, _, rfl, rfl, _, rfl, p, _, _, .int pr, rfl, rfl, SqL.of hp2, rfl, _, _, rfl, rfl, hp0, _, rfl, p, _, _, 1, rfl, rfl, hp2, rfl, ?_⟩
      have g0 : 0 ≤ (x1 * 48271 + 7919 * (x3 + 1) + 11) % pr := Int.emod_nonneg _ (by omega)
      have g1 : (x1 * 48271 + 7919 * (x3 + 1) + 11) % pr < pr := Int.emod_lt_of_pos _ hp0
      have hp3 : (upd (upd H p (.lst [.int x0, .int x1, .int pr, .int (x3 + 1)])) p (.lst [.int x0, .int ((x1 * 48271 + 7919 * (x3 + 1) + 11) % pr), .int pr, .int (x3 + 1)])) p = some (.lst [.int x0, .int ((x1 * 48271 + 7919 * (x3 + 1) + 11) % pr), .int pr, .int (x3 + 1)]) := upd_same
      refine ⟨_, rfl, p, _, _, .int ((x1 * 48271 + 7919 * (x3 + 1) + 11) % pr), rfl, rfl, SqL.of hp3, rfl, _, _, rfl, rfl, ⟨by decide, by decide⟩, _, _, rfl, rfl, ⟨by decide, by decide, ?_⟩, _, _, rfl, rfl, (by show (0 : Int) < 2147483629; decide), _, rfl, _, _, rfl, rfl, hm0, ?_⟩
      · generalize (x1 * 48271 + 7919 * (x3 + 1) + 11) % pr = y at g0 g1
        show (y / 8).natAbs < 2 ^ 64
        omega
      · refine k _ _ (KB.set.trans KB.set) ⟨x0, _, pr, x3 + 1, hp3, h0, g0, by omega, hp0, hp1⟩ ?_ ?_
        · exact Int.emod_nonneg _ (by omega)
        · exact Int.emod_lt_of_pos _ hm0
end
end Js
set_option Elab.async false
set_option linter.all false
set_option maxRecDepth 100000
set_option maxHeartbeats 2000000
namespace Js
open PySem L2
def Def (P : Program) (w : World) (K : PySem.W.Frag) (mg : Str → Option Value) (base : Heap) (x : Str) (k : Nat) (ps : List Str) (sp : Sp) : Prop :=
  ∃ f fd, mg x = some (.ref f) ∧ PySem.W.keepIn K (.ref f) = true ∧ FnOk P w K mg base CX0 k f fd ps sp ∧ Binds K fd ps []
def Spc (P : Program) (w : World) (K : PySem.W.Frag) (mg : Str → Option Value) (base : Heap) (C : Addr) (x : Str) (k : Nat) (ps : List Str) (sp : Sp) : Prop :=
  ∃ f fd, Own K C x f ∧ FnOk P w K mg base CX0 k f fd ps sp ∧ Binds K fd ps []
section
open PyProof.Rows
variable {X : Cx} {C : Addr} {p pos apos : Pos} {e o : Expr} {es : List Expr} {t : TA} {ta : TE} {x : Str} {k : Nat} {ps : List Str} {sp : Sp}
theorem pe_def (D : Def X.prog X.w X.K X.mg X.base x k ps sp) (hr : Room k X.A) (hg : Gl X x) (ha : PA X (e :: es) t) (hdb : (x == ("__debug__" : Str)) = false := by decide)
    (he : starEach (e :: es) X.env = (false, eval e X.env) :: starEach es X.env := by rfl) (hpl : (backTo pos (starEach es X.env)).any (·.1) = false := by rfl) : PE X (.Call (.Name x p) (e :: es) [] pos) (tCall sp [] E0 t) := by
  obtain ⟨f, fd, hm, hk, F, hb⟩ := D
  exact pe_call F hr hg hm hk hb .nil pass0 ha hdb he hpl
theorem OpR.imp {f : Value → Value → Sem Value} {r r' : R2} (h : OpR X f r) (hi : ∀ x y H Q, r' x y H Q → r x y H Q) : OpR X f r' := fun pins s σ H x y v u Q I rx ry q => h pins s σ H x y v u Q I rx ry (hi x y H Q q)
theorem CallR.imp {f : Value} {r r' : List V → Hp → VK → Prop} (h : CallR X f r) (hi : ∀ xs H Q, r' xs H Q → r xs H Q) : CallR X f r' := fun pins s σ H xs us Q I rx q => h pins s σ H xs us Q I rx (hi xs H Q q)
def DTh (C : Addr) : Tells := fun x y r H => ∃ a b t u, x = .ref a ∧ y = .ref b ∧ Th C H a t ∧ Th C H b u ∧ t.size ≤ 4000 ∧ r = decide (t = u)
end
end Js
set_option Elab.async false
set_option linter.all false
set_option maxRecDepth 100000
set_option maxHeartbeats 2000000
namespace JsQ
open PySem PySem.SeqAt
open AutoSeq1 (wpAny_loadPart')
open MeetsSeq MeetsSeq2 MeetsSeq3 SeqRoads2
section
variable {prog : Program} {w : World} {A : Around} {R : Result → Shared → Prop}
def TwoL (l b : Addr) (N : Nat) (us vs : Array Value) (s : Shared) : Prop := (∃ n, s.heap.get? l = some { cls := .type "list", data := .seq us n }) ∧ (∃ m, s.heap.get? b = some { cls := .type "list", data := .seq vs m }) ∧ us.size = N ∧ vs.size = N
structure Goes (prog : Program) (w : World) (A : Around) (X : Value → Shared → Prop) (l b : Addr) (N : Nat) (J Fa : Nat → Shared → Prop) : Prop where
  turn : ∀ i s, J i s → ∃ us vs : Array Value, TwoL l b N us vs s ∧ ∀ (h1 : i < us.size) (h2 : i < vs.size), wpAny (model prog w) A.in1 (eqBool us[i] vs[i]) (fun r s' => if r = true then J (i + 1) s' else Fa i s') X s
  stay : ∀ i s, Fa i s → ∃ us vs : Array Value, TwoL l b N us vs s
theorem tup_eq (l b : Addr) (us vs : Array Value) (n m : Nat) (dd dd2 : Option Addr) (sl sl2 : Array (Option Value)) (J Fa : Nat → Shared → Prop)
    (turn : ∀ i (h1 : i < us.size) (h2 : i < vs.size) s, J i s → wpAny (model prog w) A.in1 (eqBool us[i] vs[i]) (fun r s' => if r = true then J (i + 1) s' else Fa i s') (fun e s' => R (.error e) s') s)
    (fin : ∀ s, J (min us.size vs.size) s → R (.ok (.ret (.bool (if us.size = vs.size then true else false)))) s) (brk : ∀ i s, Fa i s → R (.ok (.ret (.bool false))) s) {s : Shared} (c1 : s.heap.get? l = some { cls := .type "tuple", dict := dd, data := .seq us n, slots := sl })
    (c2 : s.heap.get? b = some { cls := .type "tuple", dict := dd2, data := .seq vs m, slots := sl2 }) (h : J 0 s) :
    wpAny (model prog w) A.in1 (Builtin.«tuple.__eq__» ⟨[.ref l, .ref b], []⟩) (GQ.FinOf prog w A R) (fun e s' => R (.error e) s') s := by
  have f2 := AutoSeq1.sub_tuple_tuple
  have zip_len : (us.toList.zip vs.toList).length = min us.size vs.size := by simp
  have h0 := h
  obtain ⟨hp, gg, d, tk, os⟩ := s
  wp_walk using wpAny_loadPart' c1, wpAny_loadPart' c2, wpAny_forIn_list _ (fun rest b s' => b.1 = none ∧ ∃ i, rest = (us.toList.zip vs.toList).drop i ∧ i ≤ min us.size vs.size ∧ J i s') _
  case turn =>
    rintro ⟨y, x⟩ rest b s' ⟨hb', i, hz, hi, hI⟩
    have lt : i < (us.toList.zip vs.toList).length := by
      rcases Nat.lt_or_ge i (us.toList.zip vs.toList).length with q | q
      · exact q
      · rw [List.drop_of_length_le q] at hz; cases hz
    have h1 : i < us.size := by omega
    have h2 : i < vs.size := by omega
    rw [List.drop_eq_getElem_cons lt] at hz
    injection hz with eyx er
    have ey : y = us[i] := by have := congrArg Prod.fst eyx; simpa using this
    have ex : x = vs[i] := by have := congrArg Prod.snd eyx; simpa using this
    subst ey ex
    refine wpAny_bind (wpAny_mono (turn i h1 h2 s' hI) (fun r s2 q2 => ?_) fun _ _ x => x)
    cases r with
    | true =>
      rw [if_pos rfl] at q2
      wp_walk
      exact ⟨rfl, i + 1, er, by omega, q2⟩
    | false =>
      rw [if_neg Bool.false_ne_true] at q2
      have hR := brk i s2 q2
      wp_walk
      first
      | exact ⟨_, rfl, hR⟩
      | exact hR
      | simpa using hR
  case fin =>
    rintro ⟨b1, b2⟩ s' ⟨hb', i, hz, hi, hI⟩
    simp only at hb'
    subst hb'
    have ge : min us.size vs.size ≤ i := by
      rcases Nat.lt_or_ge i (us.toList.zip vs.toList).length with q | q
      · rw [List.drop_eq_getElem_cons q] at hz; cases hz
      · exact zip_len ▸ q
    have ei : i = min us.size vs.size := by omega
    have hR := fin s' (ei ▸ hI)
    wp_walk
    by_cases hs : us.size = vs.size
    · rw [if_pos hs] at hR
      first
      | exact ⟨_, rfl, by simpa [Builtin.Tuple.tupleCompareSizes, bne, hs] using hR⟩
      | simpa [Builtin.Tuple.tupleCompareSizes, bne, hs] using hR
    · rw [if_neg hs] at hR
      have hs' : (us.size == vs.size) = false := beq_eq_false_iff_ne.mpr hs
      first
      | exact ⟨_, rfl, by simpa [Builtin.Tuple.tupleCompareSizes, bne, hs'] using hR⟩
      | (simp only [Builtin.Tuple.tupleCompareSizes, bne, hs']; exact hR)
  case h =>
    exact ⟨rfl, 0, rfl, Nat.zero_le _, h0⟩
theorem loop_ne (l b : Addr) (N : Nat) (J Fa : Nat → Shared → Prop) (g : Goes prog w A (fun e s' => R (.error e) s') l b N J Fa) (fin : ∀ s, J N s → R (.ok (.ret (.bool false))) s) (brk : ∀ i s, Fa i s → R (.ok (.ret (.bool true))) s) (k : Nat) :
    ∀ i : Nat, N - i = k → i ≤ N → ∀ s, J i s → wpAny (model prog w) A.in1 (Builtin.«list.__eq__.loop» ⟨[.ref l, .ref b, rawInt i, rawInt 3], []⟩) (GQ.FinOf prog w A R) (fun e s' => R (.error e) s') s := by
  induction k with
  | zero =>
    intro i hk hi s h
    obtain ⟨us, vs, ⟨⟨n, c1⟩, ⟨m, c2⟩, z1, z2⟩, _⟩ := g.turn _ _ h
    have ei : i = N := by omega
    have hR : R (.ok (.ret (.bool false))) s := fin s (ei ▸ h)
    obtain ⟨hp, gg, d, tk, os⟩ := s
    wp_walk using wpAny_loadPart' c1, wpAny_loadPart' c2
    have q1 : us[((i : Nat) : Int).toNat]? = none := by simp; omega
    have q2 : vs[((i : Nat) : Int).toNat]? = none := by simp; omega
    rw [q1, q2]
    wp_walk using wpAny_loadPart' c1, wpAny_loadPart' c2
    first
    | (show R (.ok (.ret (.bool (us.size == vs.size)))) _; rw [z1, z2]; simpa using hR)
    | (show R (.ok (.ret (.bool (us.size != vs.size)))) _; rw [z1, z2]; simpa using hR)
  | succ k ih =>
    intro i hk hi s h
    obtain ⟨us, vs, ⟨⟨n, c1⟩, ⟨m, c2⟩, z1, z2⟩, turn⟩ := g.turn _ _ h
    have l1 : i < us.size := by omega
    have l2 : i < vs.size := by omega
    have ht := turn l1 l2
    obtain ⟨hp, gg, d, tk, os⟩ := s
    wp_walk using wpAny_loadPart' c1, wpAny_loadPart' c2
    have q1 : us[((i : Nat) : Int).toNat]? = some us[i] := by simp [l1]
    have q2 : vs[((i : Nat) : Int).toNat]? = some vs[i] := by simp [l2]
    have ec : ((i : Int) + 1) = ((i + 1 : Nat) : Int) := by omega
    rw [q1, q2]
    refine wpAny_bind (wpAny_mono ht (fun r s2 h2 => ?_) fun _ _ x => x)
    cases r with
    | true =>
      rw [if_pos rfl] at h2
      have again := ih (i + 1) (by omega) (by omega) s2 h2
      obtain ⟨hp2, g2, d2, tk2, os2⟩ := s2
      wp_walk
      rw [ec]
      exact ⟨plainId_quiet plain_eq_loop _, codeAny_builtin entry_eq_loop (by rw [Around.under_plainId plain_eq_loop _]; exact again)⟩
    | false =>
      rw [if_neg Bool.false_ne_true] at h2
      obtain ⟨us', vs', ⟨n', c1'⟩, ⟨m', c2'⟩, z1', z2'⟩ := g.stay _ _ h2
      have hR := brk i s2 h2
      obtain ⟨hp2, g2, d2, tk2, os2⟩ := s2
      have p1 : us'[((i : Nat) : Int).toNat]? = some (us'[i]'(by omega)) := by first | (simp; done) | (simp; omega)
      have p2 : vs'[((i : Nat) : Int).toNat]? = some (vs'[i]'(by omega)) := by first | (simp; done) | (simp; omega)
      wp_walk using wpAny_loadPart' c1', wpAny_loadPart' c2'
      first
      | exact hR
      | (rw [p1, p2]; wp_walk; simpa using hR)
theorem list_ne (l b : Addr) (N : Nat) (J Fa : Nat → Shared → Prop) (g : Goes prog w A (fun e s' => R (.error e) s') l b N J Fa) (fin : ∀ s, J N s → R (.ok (.ret (.bool false))) s) (brk : ∀ i s, Fa i s → R (.ok (.ret (.bool true))) s) {s : Shared} (h : J 0 s) :
    wpAny (model prog w) A.in1 (Builtin.«list.__ne__» ⟨[.ref l, .ref b], []⟩) (GQ.FinOf prog w A R) (fun e s' => R (.error e) s') s := by
  obtain ⟨us, vs, ⟨⟨n, c1⟩, ⟨m, c2⟩, z1, z2⟩, _⟩ := g.turn _ _ h
  have go := loop_ne (A := A) (R := R) l b N J Fa g fin brk _ 0 rfl (Nat.zero_le _) s h
  obtain ⟨hp, gg, d, tk, os⟩ := s
  have f3 := AutoSeq1.sub_list_list
  have ne : ¬ (us.size != vs.size) = true := by simp [z1, z2]
  wp_walk using wpAny_loadPart' c1, wpAny_loadPart' c2
  exact ⟨plainId_quiet plain_eq_loop _, codeAny_builtin entry_eq_loop (by rw [Around.under_plainId plain_eq_loop _]; exact go)⟩
theorem far_ne (l b : Addr) (us vs : Array Value) (n m : Nat) (hz : (us.size != vs.size) = true) {s : Shared} (c1 : s.heap.get? l = some { cls := .type "list", data := .seq us n }) (c2 : s.heap.get? b = some { cls := .type "list", data := .seq vs m }) (h : R (.ok (.ret (.bool true))) s) :
    wpAny (model prog w) A.in1 (Builtin.«list.__ne__» ⟨[.ref l, .ref b], []⟩) (GQ.FinOf prog w A R) (fun e s' => R (.error e) s') s := by
  obtain ⟨hp, gg, d, tk, os⟩ := s
  have f3 := AutoSeq1.sub_list_list
  wp_walk using wpAny_loadPart' c1, wpAny_loadPart' c2
  exact h
theorem tup_ne (l b : Addr) (us vs : Array Value) (n m : Nat) (dd dd2 : Option Addr) (sl sl2 : Array (Option Value)) (J Fa : Nat → Shared → Prop)
    (turn : ∀ i (h1 : i < us.size) (h2 : i < vs.size) s, J i s → wpAny (model prog w) A.in1 (eqBool us[i] vs[i]) (fun r s' => if r = true then J (i + 1) s' else Fa i s') (fun e s' => R (.error e) s') s)
    (fin : ∀ s, J (min us.size vs.size) s → R (.ok (.ret (.bool (if us.size = vs.size then false else true)))) s) (brk : ∀ i s, Fa i s → R (.ok (.ret (.bool true))) s) {s : Shared} (c1 : s.heap.get? l = some { cls := .type "tuple", dict := dd, data := .seq us n, slots := sl })
    (c2 : s.heap.get? b = some { cls := .type "tuple", dict := dd2, data := .seq vs m, slots := sl2 }) (h : J 0 s) :
    wpAny (model prog w) A.in1 (Builtin.«tuple.__ne__» ⟨[.ref l, .ref b], []⟩) (GQ.FinOf prog w A R) (fun e s' => R (.error e) s') s := by
  have f2 := AutoSeq1.sub_tuple_tuple
  have zip_len : (us.toList.zip vs.toList).length = min us.size vs.size := by simp
  have h0 := h
  obtain ⟨hp, gg, d, tk, os⟩ := s
  wp_walk using wpAny_loadPart' c1, wpAny_loadPart' c2, wpAny_forIn_list _ (fun rest b s' => b.1 = none ∧ ∃ i, rest = (us.toList.zip vs.toList).drop i ∧ i ≤ min us.size vs.size ∧ J i s') _
  case turn =>
    rintro ⟨y, x⟩ rest b s' ⟨hb', i, hz, hi, hI⟩
    have lt : i < (us.toList.zip vs.toList).length := by
      rcases Nat.lt_or_ge i (us.toList.zip vs.toList).length with q | q
      · exact q
      · rw [List.drop_of_length_le q] at hz; cases hz
    have h1 : i < us.size := by omega
    have h2 : i < vs.size := by omega
    rw [List.drop_eq_getElem_cons lt] at hz
    injection hz with eyx er
    have ey : y = us[i] := by have := congrArg Prod.fst eyx; simpa using this
    have ex : x = vs[i] := by have := congrArg Prod.snd eyx; simpa using this
    subst ey ex
    refine wpAny_bind (wpAny_mono (turn i h1 h2 s' hI) (fun r s2 q2 => ?_) fun _ _ x => x)
    cases r with
    | true =>
      rw [if_pos rfl] at q2
      wp_walk
      exact ⟨rfl, i + 1, er, by omega, q2⟩
    | false =>
      rw [if_neg Bool.false_ne_true] at q2
      have hR := brk i s2 q2
      wp_walk
      first
      | exact ⟨_, rfl, hR⟩
      | exact hR
      | simpa using hR
  case fin =>
    rintro ⟨b1, b2⟩ s' ⟨hb', i, hz, hi, hI⟩
    simp only at hb'
    subst hb'
    have ge : min us.size vs.size ≤ i := by
      rcases Nat.lt_or_ge i (us.toList.zip vs.toList).length with q | q
      · rw [List.drop_eq_getElem_cons q] at hz; cases hz
      · exact zip_len ▸ q
    have ei : i = min us.size vs.size := by omega
    have hR := fin s' (ei ▸ hI)
    wp_walk
    by_cases hs : us.size = vs.size
    · rw [if_pos hs] at hR
      first
      | exact ⟨_, rfl, by simpa [Builtin.Tuple.tupleCompareSizes, bne, hs] using hR⟩
      | simpa [Builtin.Tuple.tupleCompareSizes, bne, hs] using hR
    · rw [if_neg hs] at hR
      have hs' : (us.size == vs.size) = false := beq_eq_false_iff_ne.mpr hs
      first
      | exact ⟨_, rfl, by simpa [Builtin.Tuple.tupleCompareSizes, bne, hs'] using hR⟩
      | (simp only [Builtin.Tuple.tupleCompareSizes, bne, hs']; exact hR)
  case h =>
    exact ⟨rfl, 0, rfl, Nat.zero_le _, h0⟩
end
section
variable {prog : Program} {w : World} {A : Around} {E : Value → Shared → Prop} {s : Shared}
theorem rc_tup_eq {l b : Addr} {us vs : Array Value} {Q : Value → Shared → Prop} (hu : A.units < cLine) (J Fa : Nat → Shared → Prop) (hl : s.heap.IsTuple l us) (hb : s.heap.IsTuple b vs)
    (turn : ∀ i (h1 : i < us.size) (h2 : i < vs.size) s, J i s → wpAny (model prog w) A.in1 (eqBool us[i] vs[i]) (fun r s' => if r = true then J (i + 1) s' else Fa i s') E s)
    (fin : ∀ s, J (min us.size vs.size) s → Q (.bool (if us.size = vs.size then true else false)) s) (brk : ∀ i s, Fa i s → Q (.bool false) s) (h : J 0 s) : wpAny (model prog w) A (richCompare .Eq (.ref l) (.ref b)) Q E s := by
  obtain ⟨⟨cls, dd, data, sl⟩, c1, hc, n, hd⟩ := id hl
  obtain ⟨⟨cls2, dd2, data2, sl2⟩, c2, hc2, n2, hd2⟩ := id hb
  simp only at hc hd hc2 hd2
  subst hc hd hc2 hd2
  refine wpAny_richCompare_same_room (op := .Eq) ⟨_, c1, rfl⟩ ⟨_, c2, rfl⟩ PySem.F.slot_tuple_eq (GQ.call_here PySem.F.slot_tuple_eq ⟨_, c1, rfl⟩ PySem.F.entry_tuple_eq (PySem.F.args_tuple_eq_2 _ _) ?_) hu
  exact tup_eq (R := wants (fun v s' => v ≠ .notImplemented ∧ Q v s') E) l b us vs n n2 dd dd2 sl sl2 J Fa turn (fun s' q => ⟨(fun x => nomatch x), fin s' q⟩) (fun i s' q => ⟨(fun x => nomatch x), brk i s' q⟩) c1 c2 h
theorem rc_list_ne {l b : Addr} {N : Nat} {Q : Value → Shared → Prop} (hu : A.units < cLine) (J Fa : Nat → Shared → Prop) (g : Goes prog w A E l b N J Fa) (fin : ∀ s, J N s → Q (.bool false) s) (brk : ∀ i s, Fa i s → Q (.bool true) s) (h : J 0 s) : wpAny (model prog w) A (richCompare .NotEq (.ref l) (.ref b)) Q E s := by
  obtain ⟨us, vs, ⟨⟨n, c1⟩, ⟨m, c2⟩, _, _⟩, _⟩ := g.turn _ _ h
  refine wpAny_richCompare_same_room (op := .NotEq) ⟨_, c1, rfl⟩ ⟨_, c2, rfl⟩ PySem.F.slot_list_ne (GQ.call_here PySem.F.slot_list_ne ⟨_, c1, rfl⟩ PySem.F.entry_list_ne (PySem.F.args_list_ne_2 _ _) ?_) hu
  exact list_ne (R := wants (fun v s' => v ≠ .notImplemented ∧ Q v s') E) l b N J Fa g (fun s' q => ⟨(fun x => nomatch x), fin s' q⟩) (fun i s' q => ⟨(fun x => nomatch x), brk i s' q⟩) h
theorem rc_far_ne {l b : Addr} {us vs : Array Value} {n m : Nat} {Q : Value → Shared → Prop} (hu : A.units < cLine) (hz : (us.size != vs.size) = true) (c1 : s.heap.get? l = some { cls := .type "list", data := .seq us n }) (c2 : s.heap.get? b = some { cls := .type "list", data := .seq vs m }) (h : Q (.bool true) s) : wpAny (model prog w) A (richCompare .NotEq (.ref l) (.ref b)) Q E s := by
  refine wpAny_richCompare_same_room (op := .NotEq) ⟨_, c1, rfl⟩ ⟨_, c2, rfl⟩ PySem.F.slot_list_ne (GQ.call_here PySem.F.slot_list_ne ⟨_, c1, rfl⟩ PySem.F.entry_list_ne (PySem.F.args_list_ne_2 _ _) ?_) hu
  exact far_ne (R := wants (fun v s' => v ≠ .notImplemented ∧ Q v s') E) l b us vs n m hz c1 c2 ⟨(fun x => nomatch x), h⟩
theorem rc_tup_ne {l b : Addr} {us vs : Array Value} {Q : Value → Shared → Prop} (hu : A.units < cLine) (J Fa : Nat → Shared → Prop) (hl : s.heap.IsTuple l us) (hb : s.heap.IsTuple b vs)
    (turn : ∀ i (h1 : i < us.size) (h2 : i < vs.size) s, J i s → wpAny (model prog w) A.in1 (eqBool us[i] vs[i]) (fun r s' => if r = true then J (i + 1) s' else Fa i s') E s)
    (fin : ∀ s, J (min us.size vs.size) s → Q (.bool (if us.size = vs.size then false else true)) s) (brk : ∀ i s, Fa i s → Q (.bool true) s) (h : J 0 s) : wpAny (model prog w) A (richCompare .NotEq (.ref l) (.ref b)) Q E s := by
  obtain ⟨⟨cls, dd, data, sl⟩, c1, hc, n, hd⟩ := id hl
  obtain ⟨⟨cls2, dd2, data2, sl2⟩, c2, hc2, n2, hd2⟩ := id hb
  simp only at hc hd hc2 hd2
  subst hc hd hc2 hd2
  refine wpAny_richCompare_same_room (op := .NotEq) ⟨_, c1, rfl⟩ ⟨_, c2, rfl⟩ PySem.F.slot_tuple_ne (GQ.call_here PySem.F.slot_tuple_ne ⟨_, c1, rfl⟩ PySem.F.entry_tuple_ne (PySem.F.args_tuple_ne_2 _ _) ?_) hu
  exact tup_ne (R := wants (fun v s' => v ≠ .notImplemented ∧ Q v s') E) l b us vs n n2 dd dd2 sl sl2 J Fa turn (fun s' q => ⟨(fun x => nomatch x), fin s' q⟩) (fun i s' q => ⟨(fun x => nomatch x), brk i s' q⟩) c1 c2 h
end
end JsQ
namespace L2
open PySem PySem.Spec PyProof.Rows
section
variable {X : Cx} {n m : Nat} {D D' : Tells}
def MonT (D : Tells) : Prop := ∀ x y r H H', Same H H' → D x y r H → D x y r H'
theorem EqT.mono (h : EqT X n D) (hn : n ≤ m) : EqT X m D := fun A pins s σ H x y u v r sb => h A pins s σ H x y u v r (sb.mono hn)
def TFlat : Tells := fun x y r _ => flatV x = true ∧ flatV y = true ∧ eqV x y = r
theorem eqT_flat : EqT X 0 TFlat := by
  intro A pins s σ H x y u v r sb I rx ry d
  obtain ⟨fx, fy, e⟩ := d
  have q := eqAt_V (A := A) (s := s) rx ry fx fy
  rw [e] at q
  exact q X.prog X.w X.xe _ ⟨rfl, H, I, Same.refl H⟩
def PrsT (D : Tells) (xs ys : List V) (bs : List Bool) (H : Hp) : Prop := bs.length = min xs.length ys.length ∧ ∀ (i : Nat) x y b, xs[i]? = some x → ys[i]? = some y → bs[i]? = some b → (bs.take i).all id = true → D x y b H
def tells (xs ys : List V) (bs : List Bool) : Bool := decide (xs.length = ys.length) && bs.all id
def TList (D : Tells) : Tells := fun x y r H => ∃ a b xs ys bs, x = .ref a ∧ y = .ref b ∧ H a = some (.lst xs) ∧ H b = some (.lst ys) ∧ PrsT D xs ys bs H ∧ r = tells xs ys bs
def TTup (K : PySem.W.Frag) (D : Tells) : Tells := fun x y r H => ∃ a b xs ys bs, x = .ref a ∧ y = .ref b ∧ SqT K H a xs ∧ SqT K H b ys ∧ PrsT D xs ys bs H ∧ r = tells xs ys bs
def JT (X : Cx) (pins : List (Addr × Obj)) (σ : St) (H : Hp) (bs : List Bool) (i : Nat) (s' : Shared) : Prop := (∃ H', Inv X pins σ H' s' ∧ Same H H') ∧ (bs.take i).all id = true
def FT (X : Cx) (pins : List (Addr × Obj)) (σ : St) (H : Hp) (bs : List Bool) (i : Nat) (s' : Shared) : Prop := (∃ H', Inv X pins σ H' s' ∧ Same H H') ∧ bs.all id = false
theorem turnT (hD : MonT D) (h : EqT X n D) {A : Around} (sb : Sub X (n + 1) A) {pins : List (Addr × Obj)} {σ : St} {H : Hp} {xs ys : List V} {bs : List Bool} {us vs : List Value} (p : PrsT D xs ys bs H) (r : Vals xs us) (r2 : Vals ys vs)
    (i : Nat) (h1 : i < us.toArray.size) (h2 : i < vs.toArray.size) (s' : Shared) (l : JT X pins σ H bs i s') :
    wpAny (model X.prog X.w) A.in1 (eqBool us.toArray[i] vs.toArray[i]) (fun r s2 => if r = true then JT X pins σ H bs (i + 1) s2 else FT X pins σ H bs i s2) X.xe s' := by
  obtain ⟨⟨H1, I1, e1⟩, al⟩ := l
  have l1 : i < us.length := by simpa using h1
  have l2 : i < vs.length := by simpa using h2
  have g1 : us[i]? = some us.toArray[i] := by rw [List.getElem?_eq_getElem l1] <;> simp
  have g2 : vs[i]? = some vs.toArray[i] := by rw [List.getElem?_eq_getElem l2] <;> simp
  have k1 : i < xs.length := by rw [r.length]; exact l1
  have k2 : i < ys.length := by rw [r2.length]; exact l2
  have k3 : i < bs.length := by have := p.1; omega
  obtain ⟨u, hu, ru⟩ := r.get (List.getElem?_eq_getElem k1)
  obtain ⟨v, hv, rv⟩ := r2.get (List.getElem?_eq_getElem k2)
  rw [g1] at hu
  rw [g2] at hv
  rw [Option.some.inj hu, Option.some.inj hv]
  refine wpAny_mono (h A.in1 pins s' σ H1 _ _ u v _ sb.in1 I1 ru rv (hD _ _ _ _ _ e1 (p.2 i _ _ _ (List.getElem?_eq_getElem k1) (List.getElem?_eq_getElem k2) (List.getElem?_eq_getElem k3) al))) (fun q s2 z => ?_) fun _ _ x => x
  obtain ⟨rfl, H2, I2, e2⟩ := z
  cases hb : bs[i] with
  | true =>
    rw [if_pos rfl]
    refine ⟨⟨H2, I2, e1.trans e2⟩, ?_⟩
    rw [List.take_succ_eq_append_getElem k3, List.all_append, al, hb]
    rfl
  | false =>
    rw [if_neg Bool.false_ne_true]
    refine ⟨⟨H2, I2, e1.trans e2⟩, ?_⟩
    rw [List.all_eq_false]
    exact ⟨bs[i], List.getElem_mem k3, by rw [hb]; decide⟩
def RcT (X : Cx) (op : CmpOp) (f : Bool → Bool) (n : Nat) (D : Tells) : Prop :=
  ∀ (A : Around) (pins : List (Addr × Obj)) (s : Shared) (σ : St) (H : Hp) (x y : V) (u v : Value) (r : Bool), Sub X n A → Inv X pins σ H s → RelV x u → RelV y v → D x y r H →
    wpAny (model X.prog X.w) A (richCompare op u v) (fun z s' => z = .bool (f r) ∧ ∃ H', Inv X pins σ H' s' ∧ Same H H') X.xe s
theorem rcT_tup_eq (hD : MonT D) (h : EqT X n D) : RcT X .Eq id (n + 1) (TTup X.K D) := by
  intro A pins s σ H x y u v r sb I rx ry d
  obtain ⟨a, b, xs, ys, bs, rfl, rfl, ha, hb, p, rfl⟩ := d
  cases rx
  cases ry
  obtain ⟨us, r1, e, z⟩ := I.tuple ha
  obtain ⟨vs, r2, e2, z2⟩ := I.tuple hb
  have lu : us.toArray.size = xs.length := by rw [List.size_toArray, ← r1.length]
  have lv : vs.toArray.size = ys.length := by rw [List.size_toArray, ← r2.length]
  refine JsQ.rc_tup_eq sb.room.units0 (JT X pins σ H bs) (FT X pins σ H bs) e e2 (fun i h1 h2 s' q => turnT hD h sb p r1 r2 i h1 h2 s' q) (fun s' q => ⟨?_, q.1⟩) (fun i s' q => ⟨?_, q.1⟩) ⟨⟨H, I, Same.refl H⟩, by simp⟩
  · have q2 := q.2
    rw [lu, lv, ← p.1, List.take_length] at q2
    rw [lu, lv, tells, q2]
    by_cases hl : xs.length = ys.length
    · rw [if_pos hl, decide_eq_true hl]
      rfl
    · rw [if_neg hl, decide_eq_false hl]
      rfl
  · rw [tells, q.2, Bool.and_false]
    rfl
theorem rcT_list_ne (hD : MonT D) (h : EqT X n D) : RcT X .NotEq not (n + 1) (TList D) := by
  intro A pins s σ H x y u v r sb I rx ry d
  obtain ⟨a, b, xs, ys, bs, rfl, rfl, ha, hb, p, rfl⟩ := d
  cases rx
  cases ry
  by_cases hl : xs.length = ys.length
  · have el : bs.length = xs.length := by have := p.1; omega
    refine JsQ.rc_list_ne (N := xs.length) sb.room.units0 (JT X pins σ H bs) (FT X pins σ H bs) ⟨fun i s' q => ?_, fun i s' q => ?_⟩ (fun s' q => ⟨?_, q.1⟩) (fun i s' q => ⟨?_, q.1⟩) ⟨⟨H, I, Same.refl H⟩, by simp⟩
    · obtain ⟨H1, I1, e1⟩ := q.1
      obtain ⟨z, us, k, r1, e⟩ := I1.hok a _ (e1 _ _ ha)
      obtain ⟨z2, vs, k2, r2, e2⟩ := I1.hok b _ (e1 _ _ hb)
      exact ⟨us.toArray, vs.toArray, ⟨⟨k, e⟩, ⟨k2, e2⟩, by rw [List.size_toArray, ← r1.length], by rw [List.size_toArray, ← r2.length, ← hl]⟩, fun h1 h2 => turnT hD h sb p r1 r2 i h1 h2 s' q⟩
    · obtain ⟨H1, I1, e1⟩ := q.1
      obtain ⟨z, us, k, r1, e⟩ := I1.hok a _ (e1 _ _ ha)
      obtain ⟨z2, vs, k2, r2, e2⟩ := I1.hok b _ (e1 _ _ hb)
      exact ⟨us.toArray, vs.toArray, ⟨k, e⟩, ⟨k2, e2⟩, by rw [List.size_toArray, ← r1.length], by rw [List.size_toArray, ← r2.length, ← hl]⟩
    · have q2 := q.2
      rw [← el, List.take_length] at q2
      rw [tells, q2, decide_eq_true hl]
      rfl
    · rw [tells, q.2, decide_eq_true hl]
      rfl
  · obtain ⟨z, us, k, r1, e⟩ := I.hok a _ ha
    obtain ⟨z2, vs, k2, r2, e2⟩ := I.hok b _ hb
    refine JsQ.rc_far_ne sb.room.units0 ?_ e e2 ⟨?_, H, I, Same.refl H⟩
    · rw [List.size_toArray, List.size_toArray, ← r1.length, ← r2.length]
      simpa using hl
    · rw [tells, decide_eq_false hl]
      rfl
theorem rcT_tup_ne (hD : MonT D) (h : EqT X n D) : RcT X .NotEq not (n + 1) (TTup X.K D) := by
  intro A pins s σ H x y u v r sb I rx ry d
  obtain ⟨a, b, xs, ys, bs, rfl, rfl, ha, hb, p, rfl⟩ := d
  cases rx
  cases ry
  obtain ⟨us, r1, e, z⟩ := I.tuple ha
  obtain ⟨vs, r2, e2, z2⟩ := I.tuple hb
  have lu : us.toArray.size = xs.length := by rw [List.size_toArray, ← r1.length]
  have lv : vs.toArray.size = ys.length := by rw [List.size_toArray, ← r2.length]
  refine JsQ.rc_tup_ne sb.room.units0 (JT X pins σ H bs) (FT X pins σ H bs) e e2 (fun i h1 h2 s' q => turnT hD h sb p r1 r2 i h1 h2 s' q) (fun s' q => ⟨?_, q.1⟩) (fun i s' q => ⟨?_, q.1⟩) ⟨⟨H, I, Same.refl H⟩, by simp⟩
  · have q2 := q.2
    rw [lu, lv, ← p.1, List.take_length] at q2
    rw [lu, lv, tells, q2]
    by_cases hl : xs.length = ys.length
    · rw [if_pos hl, decide_eq_true hl]
      rfl
    · rw [if_neg hl, decide_eq_false hl]
      rfl
  · rw [tells, q.2, Bool.and_false]
    rfl
def rCmpT (D : Tells) (f : Bool → Bool) : R2 := fun x y H Q => ∃ r, D x y r H ∧ ∀ H', Same H H' → Q (.bl (f r)) H'
theorem op_eqTl (h : RcT X .Eq id n D) (hr : Room n X.A) : OpR X (compareOp .Eq) (rCmpT D id) := by
  intro pins s σ H x y v u Q I rx ry hq
  obtain ⟨r, d, q⟩ := hq
  show wpAny (model X.prog X.w) X.A (richCompare .Eq v u) (EP X pins σ Q) X.xe s
  refine wpAny_mono (h X.A pins s σ H x y v u r ⟨hr, rfl⟩ I rx ry d) (fun z s' q1 => ?_) fun _ _ x => x
  obtain ⟨rfl, H', I', e⟩ := q1
  exact ⟨.bl _, H', I', rfl, q H' e⟩
theorem op_neTl (h : RcT X .NotEq not n D) (hr : Room n X.A) : OpR X (compareOp .NotEq) (rCmpT D not) := by
  intro pins s σ H x y v u Q I rx ry hq
  obtain ⟨r, d, q⟩ := hq
  show wpAny (model X.prog X.w) X.A (richCompare .NotEq v u) (EP X pins σ Q) X.xe s
  refine wpAny_mono (h X.A pins s σ H x y v u r ⟨hr, rfl⟩ I rx ry d) (fun z s' q1 => ?_) fun _ _ x => x
  obtain ⟨rfl, H', I', e⟩ := q1
  exact ⟨.bl _, H', I', rfl, q H' e⟩
end
end L2
set_option Elab.async false
set_option linter.all false
set_option maxRecDepth 100000
set_option maxHeartbeats 2000000
namespace Js
open PySem L2
inductive Dd where
  | told (a : Nat) (t : Tr)
  | take (s : Bool) (a b : Nat)
  | two (s : Bool) (a b c : Nat)
  | wh (a : Nat) (r : List Dd)
  | iff (a : Nat) (r o : List Dd)
def takeS : Bool → Str
  | false => "first"
  | true => "second"
def twoS : Bool → Str
  | false => "pair"
  | true => "same"
mutual
def Dd.flat : Dd → List Dd
  | .told a t => [.told a t]
  | .take s a b => [.take s a b]
  | .two s a b c => [.two s a b c]
  | .wh a r => .wh a r :: flatR r
  | .iff a r o => .iff a r o :: (flatR r ++ flatR o)
def flatR : List Dd → List Dd
  | [] => []
  | d :: r => d.flat ++ flatR r
end
def Dd.many (d : Dd) : Nat := d.flat.length
def manyR (r : List Dd) : Nat := (flatR r).length
mutual
def Dd.deep : Dd → Nat
  | .told _ _ => 0
  | .take _ _ _ => 0
  | .two _ _ _ _ => 0
  | .wh _ r => deepR r + 1
  | .iff _ r o => max (deepR r) (deepR o) + 1
def deepR : List Dd → Nat
  | [] => 0
  | d :: r => max d.deep (deepR r)
end
theorem many_nil : manyR [] = 0 := rfl
theorem many_cons (d : Dd) (r : List Dd) : manyR (d :: r) = d.many + manyR r := by
  rw [manyR, flatR, List.length_append]
  rfl
theorem many_wh (a : Nat) (r : List Dd) : (Dd.wh a r).many = manyR r + 1 := by
  rw [Dd.many, Dd.flat, List.length_cons]
  rfl
theorem many_iff (a : Nat) (r o : List Dd) : (Dd.iff a r o).many = manyR r + manyR o + 1 := by
  rw [Dd.many, Dd.flat, List.length_cons, List.length_append]
  rfl
theorem many_told (a : Nat) (t : Tr) : (Dd.told a t).many = 1 := rfl
theorem many_take (s : Bool) (a b : Nat) : (Dd.take s a b).many = 1 := rfl
theorem many_two (s : Bool) (a b c : Nat) : (Dd.two s a b c).many = 1 := rfl
theorem many_pos : ∀ d : Dd, 0 < d.many
  | .told _ _ => Nat.zero_lt_one
  | .take _ _ _ => Nat.zero_lt_one
  | .two _ _ _ _ => Nat.zero_lt_one
  | .wh a r => by rw [many_wh]; omega
  | .iff a r o => by rw [many_iff]; omega
def Dd.rows : Dd → List (List Dd)
  | .wh _ r => [r]
  | .iff _ r o => [r, o]
  | _ => []
mutual
def Dd.ends : Dd → Nat → List Nat
  | .told _ _, n => [n + 1]
  | .take _ _ _, n => [n + 1]
  | .two _ _ _ _, n => [n + 1]
  | .wh _ r, n => (n + 1 + manyR r) :: endsR r (n + 1)
  | .iff _ r o, n => (n + 1 + manyR r + manyR o) :: (endsR r (n + 1) ++ endsR o (n + 1 + manyR r))
def endsR : List Dd → Nat → List Nat
  | [], _ => []
  | d :: r, n => d.ends n ++ endsR r (n + d.many)
end
mutual
def Dd.lay : Dd → Nat → Nat → List (Dd × List Nat)
  | .told a t, f, _ => [(.told a t, [f])]
  | .take s a b, f, _ => [(.take s a b, [f])]
  | .two s a b c, f, _ => [(.two s a b c, [f])]
  | .wh a r, f, n => (.wh a r, [if r.isEmpty then n else n + 1, f]) :: layR r n (n + 1)
  | .iff a r o, f, n => (.iff a r o, [if r.isEmpty then f else n + 1, if o.isEmpty then f else n + 1 + manyR r]) :: (layR r f (n + 1) ++ layR o f (n + 1 + manyR r))
def layR : List Dd → Nat → Nat → List (Dd × List Nat)
  | [], _, _ => []
  | d :: r, f, n => d.lay (if r.isEmpty then f else n + d.many) n ++ layR r f (n + d.many)
end
mutual
theorem ends_len : ∀ (d : Dd) (n : Nat), (d.ends n).length = d.many
  | .told _ _, _ => rfl
  | .take _ _ _, _ => rfl
  | .two _ _ _ _, _ => rfl
  | .wh a r, n => by rw [Dd.ends, List.length_cons, endsR_len r, many_wh]
  | .iff a r o, n => by rw [Dd.ends, List.length_cons, List.length_append, endsR_len r, endsR_len o, many_iff]
theorem endsR_len : ∀ (r : List Dd) (n : Nat), (endsR r n).length = manyR r
  | [], _ => rfl
  | d :: r, n => by rw [endsR, List.length_append, ends_len d, endsR_len r, many_cons]
end
mutual
theorem lay_len : ∀ (d : Dd) (f n : Nat), (d.lay f n).length = d.many
  | .told _ _, _, _ => rfl
  | .take _ _ _, _, _ => rfl
  | .two _ _ _ _, _, _ => rfl
  | .wh a r, f, n => by rw [Dd.lay, List.length_cons, layR_len r, many_wh]
  | .iff a r o, f, n => by rw [Dd.lay, List.length_cons, List.length_append, layR_len r, layR_len o, many_iff]
theorem layR_len : ∀ (r : List Dd) (f n : Nat), (layR r f n).length = manyR r
  | [], _, _ => rfl
  | d :: r, f, n => by rw [layR, List.length_append, lay_len d, layR_len r, many_cons]
end
mutual
def DAt (K : PySem.W.Frag) (C : Addr) (H : Hp) : V → Dd → Prop
  | v, .told a t => ∃ p x, v = .ref p ∧ SqT K H p [.str "told", .int (a : Nat), .ref x] ∧ a < 10 ∧ Th C H x t ∧ t.size ≤ 4000
  | v, .take s a b => ∃ p, v = .ref p ∧ SqT K H p [.str (takeS s), .int (a : Nat), .int (b : Nat)] ∧ a < 10 ∧ b < 10
  | v, .two s a b c => ∃ p, v = .ref p ∧ SqT K H p [.str (twoS s), .int (a : Nat), .int (b : Nat), .int (c : Nat)] ∧ a < 10 ∧ b < 10 ∧ c < 10
  | v, .wh a r => ∃ p q vs, v = .ref p ∧ SqT K H p [.str "while", .int (a : Nat), .ref q] ∧ a < 10 ∧ SqT K H q vs ∧ DsAt K C H vs r
  | v, .iff a r o => ∃ p q vs q2 vs2, v = .ref p ∧ SqT K H p [.str "if", .int (a : Nat), .ref q, .ref q2] ∧ a < 10 ∧ SqT K H q vs ∧ DsAt K C H vs r ∧ SqT K H q2 vs2 ∧ DsAt K C H vs2 o
def DsAt (K : PySem.W.Frag) (C : Addr) (H : Hp) : List V → List Dd → Prop
  | vs, [] => vs = []
  | vs, d :: r => ∃ v us, vs = v :: us ∧ DAt K C H v d ∧ DsAt K C H us r
end
def RAt (K : PySem.W.Frag) (C : Addr) (H : Hp) (q : Addr) (r : List Dd) : Prop := ∃ vs, SqT K H q vs ∧ DsAt K C H vs r
theorem sqt_kt {K : PySem.W.Frag} {H H' : Hp} (k : KT H H') {a : Addr} {xs : List V} (h : SqT K H a xs) : SqT K H' a xs :=
  h.elim (fun h => .inl (h.elim (fun h => .inl (k _ _ h (fun _ e => nomatch e))) fun ⟨o, h⟩ => .inr ⟨o, k _ _ h (fun _ e => nomatch e)⟩)) fun h => .inr h
mutual
theorem DAt_kt {K : PySem.W.Frag} {C : Addr} {H H' : Hp} (k : KT H H') : ∀ (d : Dd) (v : V), DAt K C H v d → DAt K C H' v d
  | .told a t, v, h => by
    obtain ⟨p, x, e, h1, h2, h3, h4⟩ := h
    exact ⟨p, x, e, sqt_kt k h1, h2, h3.kt k, h4⟩
  | .take s a b, v, h => by
    obtain ⟨p, e, h1, h2⟩ := h
    exact ⟨p, e, sqt_kt k h1, h2⟩
  | .two s a b c, v, h => by
    obtain ⟨p, e, h1, h2⟩ := h
    exact ⟨p, e, sqt_kt k h1, h2⟩
  | .wh a r, v, h => by
    obtain ⟨p, q, vs, e, h1, h2, h3, h4⟩ := h
    exact ⟨p, q, vs, e, sqt_kt k h1, h2, sqt_kt k h3, DsAt_kt k r vs h4⟩
  | .iff a r o, v, h => by
    obtain ⟨p, q, vs, q2, vs2, e, h1, h2, h3, h4, h5, h6⟩ := h
    exact ⟨p, q, vs, q2, vs2, e, sqt_kt k h1, h2, sqt_kt k h3, DsAt_kt k r vs h4, sqt_kt k h5, DsAt_kt k o vs2 h6⟩
theorem DsAt_kt {K : PySem.W.Frag} {C : Addr} {H H' : Hp} (k : KT H H') : ∀ (r : List Dd) (vs : List V), DsAt K C H vs r → DsAt K C H' vs r
  | [], vs, h => h
  | d :: r, vs, h => by
    obtain ⟨v, us, e, h1, h2⟩ := h
    exact ⟨v, us, e, DAt_kt k d v h1, DsAt_kt k r us h2⟩
end
theorem RAt.kt {K : PySem.W.Frag} {C : Addr} {H H' : Hp} (k : KT H H') {q : Addr} {r : List Dd} (h : RAt K C H q r) : RAt K C H' q r := by
  obtain ⟨vs, h1, h2⟩ := h
  exact ⟨vs, sqt_kt k h1, DsAt_kt k r vs h2⟩
theorem RAt.same {K : PySem.W.Frag} {C : Addr} {H H' : Hp} (s : Same H H') {q : Addr} {r : List Dd} (h : RAt K C H q r) : RAt K C H' q r := h.kt (KT.of s)
theorem DsAt.length {K : PySem.W.Frag} {C : Addr} {H : Hp} : ∀ (r : List Dd) (vs : List V), DsAt K C H vs r → vs.length = r.length
  | [], vs, h => by
    have e : vs = [] := h
    rw [e]
    rfl
  | d :: r, vs, h => by
    obtain ⟨v, us, e, h1, h2⟩ := h
    rw [e, List.length_cons, List.length_cons, DsAt.length r us h2]
theorem DsAt.get {K : PySem.W.Frag} {C : Addr} {H : Hp} : ∀ (r : List Dd) (vs : List V) (i : Nat) (v : V), DsAt K C H vs r → vs[i]? = some v → ∃ d, r[i]? = some d ∧ DAt K C H v d
  | [], vs, i, v, h, e => by
    have e' : vs = [] := h
    rw [e'] at e
    cases e
  | d :: r, vs, i, v, h, e => by
    obtain ⟨w, us, e', h1, h2⟩ := h
    rw [e'] at e
    cases i with
    | zero =>
      cases Option.some.inj e
      exact ⟨d, rfl, h1⟩
    | succ i =>
      obtain ⟨d', g1, g2⟩ := DsAt.get r us i v h2 e
      exact ⟨d', g1, g2⟩
theorem sqt_ty {K : PySem.W.Frag} {H : Hp} {a : Addr} {xs : List V} (h : SqT K H a xs) : TyX K H (.ref a) (.type "tuple") := by
  rcases h with (h | ⟨o, h⟩) | ⟨o, its, n, h, c, _⟩
  · exact .base (.tup h)
  · exact .fTuple h
  · exact .kTuple h c
end Js
set_option Elab.async false
set_option linter.all false
set_option maxRecDepth 100000
set_option maxHeartbeats 2000000
namespace JsZ
open PySem PySem.Spec PyProof.Rows L2
abbrev zs1 (h : Heap) (l : Addr) : Heap := h.push { cls := .type "tuple_iterator", data := .fields #[.ref l, .int 0 0] }
abbrev zs2 (h : Heap) (l : Addr) (x : Str) (t : Tok) : Heap := (zs1 h l).push { cls := .type (strIterType x), data := .fields #[.str x t, .int 0 0] }
abbrev zs3 (h : Heap) (l : Addr) (x : Str) (t : Tok) : Heap := (zs2 h l x t).push { cls := .type "tuple", data := .seq #[.ref h.objs.size, .ref (zs1 h l).objs.size] }
abbrev zs4 (h : Heap) (l : Addr) (x : Str) (t : Tok) : Heap := (zs3 h l x t).push { cls := .type "tuple", data := .seq #[.none, .none] }
abbrev zs5 (h : Heap) (l : Addr) (x : Str) (t : Tok) : Heap := (zs4 h l x t).push { cls := .type "zip", data := .fields #[.none, .bool false, .bool false, .ref (zs2 h l x t).objs.size, .ref (zs3 h l x t).objs.size] }
theorem new_zipTS (l : Addr) (x : Str) (t : Tok) (us : Array Value) :
    Meets (Builtin.«zip.__new__» ⟨[.type "zip", .ref l, .str x t], []⟩) (fun _ R s => s.heap.IsTuple l us ∧ R (.ok (.ret (.ref (zs4 s.heap l x t).objs.size))) { s with heap := zs5 s.heap l x t }) :=
  .of_wp fun prog w A R s h => by
    obtain ⟨hp, g, d, tk, os⟩ := s; obtain ⟨h1, h⟩ := h
    have hsub := sub_zip
    have hL : Heap.IsTuple (Shared.heap ⟨hp, g, d, tk, os⟩) l us := h1
    wp_walk using wpAny_pyIter_tuple hL, wpAny_pyIter_strU
    exact ⟨_, rfl, h⟩
section
variable {prog : Program} {w : World} {A : Around} {E : Value → Shared → Prop} {s : Shared}
theorem call_zipTS {l : Addr} {x : Str} {t : Tok} {us : Array Value} {Q : Value → Shared → Prop} (hl : s.heap.IsTuple l us)
    (h : ∀ h', IsZip h' (s.heap.objs.size + 4) (s.heap.objs.size + 2) (s.heap.objs.size + 3) .none → IsPair h' (s.heap.objs.size + 2) (.ref s.heap.objs.size) (.ref (s.heap.objs.size + 1)) →
      IsPair h' (s.heap.objs.size + 3) .none .none → h'.IsTupleIter s.heap.objs.size l 0 → h'.IsStrIter (s.heap.objs.size + 1) (strIterType x) x t 0 → h'.objs.size = s.heap.objs.size + 5 →
      (∀ c o, s.heap.get? c = some o → h'.get? c = some o) → Q (.ref (s.heap.objs.size + 4)) { s with heap := h' }) :
    wpAny (model prog w) A (call (.type "zip") [.ref l, .str x t]) Q E s := by
  refine callType_new F.called_zip (by decide) (F.typeCall_zip_2 _ _) (F.newCall_zip_2 _ _) (fun obj => F.args_object_init_3 obj _ _) F.entry_zip_new (new_zipTS l x t us) ⟨hl, ?_⟩
  have z1 : (zs1 s.heap l).objs.size = s.heap.objs.size + 1 := Heap.size_push ..
  have z2 : (zs2 s.heap l x t).objs.size = s.heap.objs.size + 2 := by rw [Heap.size_push, z1]
  have z3 : (zs3 s.heap l x t).objs.size = s.heap.objs.size + 3 := by rw [Heap.size_push, z2]
  have z4 : (zs4 s.heap l x t).objs.size = s.heap.objs.size + 4 := by rw [Heap.size_push, z3]
  have z5 : (zs5 s.heap l x t).objs.size = s.heap.objs.size + 5 := by rw [Heap.size_push, z4]
  have g5 : (zs5 s.heap l x t).get? (zs4 s.heap l x t).objs.size = some _ := Heap.get?_push_size _ rfl
  have g4 : (zs5 s.heap l x t).get? (zs3 s.heap l x t).objs.size = some _ := Heap.get?_push_of_some _ (Heap.get?_push_size _ rfl)
  have g3 : (zs5 s.heap l x t).get? (zs2 s.heap l x t).objs.size = some _ := Heap.get?_push_of_some _ (Heap.get?_push_of_some _ (Heap.get?_push_size _ rfl))
  have g2 : (zs5 s.heap l x t).get? (zs1 s.heap l).objs.size = some _ := Heap.get?_push_of_some _ (Heap.get?_push_of_some _ (Heap.get?_push_of_some _ (Heap.get?_push_size _ rfl)))
  have g1 : (zs5 s.heap l x t).get? s.heap.objs.size = some _ := Heap.get?_push_of_some _ (Heap.get?_push_of_some _ (Heap.get?_push_of_some _ (Heap.get?_push_of_some _ (Heap.get?_push_size _ rfl))))
  show _ ∧ _
  rw [z2, z3, z4] at g5
  rw [z1, z2] at g3
  rw [z3] at g4
  rw [z1] at g2
  rw [z4]
  exact ⟨⟨_, g5, rfl⟩, h _ g5 g3 g4 ⟨_, g1, rfl, rfl⟩ ⟨_, g2, rfl, rfl⟩ z5 fun c o q => Heap.get?_push_of_some _ (Heap.get?_push_of_some _ (Heap.get?_push_of_some _ (Heap.get?_push_of_some _ (Heap.get?_push_of_some _ q))))⟩
end
def ItTS (K : PySem.W.Frag) (a : Addr) (t : Str) : It :=
  ⟨fun i H => ∃ (xs : List V) (x : V) (c : Nat), SqT K H a xs ∧ xs[i]? = some x ∧ t.cps[i]? = some c,
    fun i H v H' => ∃ T x c, v = .ref T ∧ H T = none ∧ H' = upd H T (.tup [x, .str ⟨#[c]⟩]) ∧ (∀ xs, SqT K H a xs → xs[i]? = some x) ∧ t.cps[i]? = some c,
    fun i H => ∃ xs : List V, SqT K H a xs ∧ i ≤ xs.length ∧ i ≤ t.cps.size ∧ (i = xs.length ∨ i = t.cps.size)⟩
theorem turn_TS {P : Program} {w : World} {K : PySem.W.Frag} {elts : List Expr} {kk : Nat} {tpos : Pos} {a z TI TO i1 i2 : Addr} (t : Str) (tk : Tok) (D : ZipSep2 z TI TO i1 i2 [i1, a] [i2]) (ha : a ≠ i1) :
    Turn P w K (.Tuple elts kk tpos) (ItTS K a t) [z, TI, TO, i1, i2] z (fun i h => IsZip h z TI TO .none ∧ IsPair h TI (.ref i1) (.ref i2) ∧ (∃ x y, IsPair h TO x y) ∧ h.IsTupleIter i1 a i ∧ h.IsStrIter i2 (strIterType t) t tk i) where
  mem := by simp
  obj := fun i h st c hc => by
    obtain ⟨hz, hTI, ⟨x, y, hTO⟩, ⟨o1, e1, _, d1⟩, ⟨o2, e2, _, d2⟩⟩ := st
    have e' : c = z ∨ c = TI ∨ c = TO ∨ c = i1 ∨ c = i2 := by simpa using hc
    rcases e' with q | q | q | q | q
    · rw [q]; exact ⟨_, hz, fun v q => nomatch q⟩
    · rw [q]; exact ⟨_, hTI, fun v q => nomatch q⟩
    · rw [q]; exact ⟨_, hTO, fun v q => nomatch q⟩
    · rw [q]; exact ⟨o1, e1, fun v q => by rw [d1] at q; cases q⟩
    · rw [q]; exact ⟨o2, e2, fun v q => by rw [d2] at q; cases q⟩
  keep := fun i h h' st k => by
    obtain ⟨hz, hTI, ⟨x, y, hTO⟩, h1, ⟨o, ho, r⟩⟩ := st
    exact ⟨k z (by simp) _ hz, k TI (by simp) _ hTI, ⟨x, y, k TO (by simp) _ hTO⟩, h1.at fun o q => k i1 (by simp) o q, ⟨o, k i2 (by simp) o ho, r⟩⟩
  item := by
    intro X hP hw hK hc i pins s σ H E I hf st hg
    subst hP hw hK
    obtain ⟨hz, hTI, ⟨x0, y0, hTO⟩, h1, h2⟩ := st
    obtain ⟨xs, x, c, hqx, hx, hcx⟩ := hg
    obtain ⟨us, rv, p, _⟩ := I.tuple hqx
    obtain ⟨u, hu, ru⟩ := rv.get hx
    have hzl : z < s.heap.objs.size := Heap.lt_size hz
    have hh : X.A.in1.handled = none := I.ok.hd hc
    have li : i < us.toArray.size := by
      have := (List.getElem?_eq_some_iff.mp hu).1
      simpa using this
    have lc : i < t.cps.size := (Array.getElem?_eq_some_iff.mp hcx).1
    refine wpAny_pyNext_zipD2_item D (Draws.tuple hh i1 a ha us.toArray) (Draws.text hh i2 t tk) hz hTI hTO ⟨h1, p⟩ h2 li lc fun v1 v2 h' tk' q1 q2 z' TO' s1' s2' hT hsz hk => ?_
    obtain ⟨c', tu, hc', rfl⟩ := q2
    have ev : v1 = u := by
      have : us.toArray[i]? = some u := by simpa using hu
      exact Option.some.inj (q1.symm.trans this)
    subst ev
    cases Option.some.inj (hc'.symm.trans hcx)
    refine ⟨_, rfl, wpAny_letOwnedTupleGo_zip (s := { s with heap := h', toks := tk' }) z' fun h'' z'' sb => ?_⟩
    have hT2 : h''.get? s.heap.objs.size = some { cls := .type "tuple", data := .seq #[v1, .str ⟨#[c]⟩ tu] } := (sb.2 _ (Nat.ne_of_gt hzl)).trans hT
    have new : ObjOk X.prog X.w (upd H s.heap.objs.size (.tup [x, .str ⟨#[c]⟩])) h'' s.heap.objs.size (.tup [x, .str ⟨#[c]⟩]) := ⟨by show 2 ≤ sizeLine; decide, [v1, .str ⟨#[c]⟩ tu], .cons ru (.cons ⟨_, rfl⟩ .nil), ⟨_, hT2, rfl, _, rfl⟩⟩
    have I1 : Inv X pins σ (upd H s.heap.objs.size (.tup [x, .str ⟨#[c]⟩])) { s with heap := h'', toks := tk' } :=
      I.turnedNew (ch := [z, TI, TO, i1, i2]) (fun c o hb q => (sb.2 c (fun q' => hb (by simp [q']))).trans (hk c o (fun q' => hb (by simp [q'])) (fun q' => hb (by simp [q'])) (fun q' => hb (by simp [q'])) (fun q' => hb (by simp [q'])) q)) hf (Nat.le_refl _) new
    refine ⟨.ref s.heap.objs.size, _, I1, rfl, ⟨_, x, c, rfl, I.hok.fresh (Nat.le_refl _), rfl, fun l hl => by rw [I.tuple_inj hl hqx]; exact hx, hcx⟩, ⟨z'', ?_, ⟨v1, .str ⟨#[c]⟩ tu, ?_⟩, ?_, ?_⟩, fun b hb => ?_⟩
    · exact (sb.2 _ D.TIz).trans (hk _ _ D.TIz D.TITO D.TIi1 D.TIi2 hTI)
    · exact (sb.2 _ D.TOz).trans TO'
    · exact s1'.1.at fun o q => (sb.2 _ (Ne.symm D.zi1)).trans q
    · obtain ⟨o, ho, r⟩ := s2'
      exact ⟨o, (sb.2 _ (Ne.symm D.zi2)).trans ho, r⟩
    · have hlt : b < s.heap.objs.size := by
        have e' : b = z ∨ b = TI ∨ b = TO ∨ b = i1 ∨ b = i2 := by simpa using hb
        rcases e' with q | q | q | q | q
        · rw [q]; exact hzl
        · rw [q]; exact Heap.lt_size hTI
        · rw [q]; exact Heap.lt_size hTO
        · rw [q]; obtain ⟨_, e1, _⟩ := h1; exact Heap.lt_size e1
        · rw [q]; obtain ⟨_, e2, _⟩ := h2; exact Heap.lt_size e2
      rw [upd_ne (Nat.ne_of_lt hlt)]
      exact (hf b hb).1
  done := by
    intro X hP hw hK hc i pins s σ H E I hf st hg
    subst hP hw hK
    obtain ⟨hz, hTI, ⟨x0, y0, hTO⟩, h1, h2⟩ := st
    obtain ⟨xs, hqx, l1, l2, hend⟩ := hg
    obtain ⟨us, rv, p, _⟩ := I.tuple hqx
    have lu : us.toArray.size = xs.length := by rw [List.size_toArray, ← rv.length]
    have hh : X.A.in1.handled = none := I.ok.hd hc
    exact wpAny_pyNext_zipD2_end D (Draws.tuple hh i1 a ha us.toArray) (Draws.text hh i2 t tk) hz hTI hTO ⟨h1, p⟩ h2 (by omega) l2 (by omega) fun h' tk' hk => ⟨rfl, I.turnedL (t' := tk') (ch := [z, TI, TO, i1, i2]) (fun c o hb q =>
      hk c o (fun q' => hb (by simp [q'])) (fun q' => hb (by simp [q'])) (fun q' => hb (by simp [q'])) (fun q' => hb (by simp [q'])) q) hf⟩
  self := fun A i s Q E st h => wpAny_pyIter_zip st.1 h
end JsZ
namespace L2
open PySem PySem.Spec PyProof.Rows
def iZipTS (K : PySem.W.Frag) (ta : TA) : TI := fun σ H R => ta σ H fun vs H1 => ∃ a t xs, vs = [.ref a, .str t] ∧ SqT K H1 a xs ∧ R (JsZ.ItTS K a t) H1
theorem pi_zipTS {X : Cx} {e e2 : Expr} {ta : TA} {p pos tpos : Pos} {elts : List Expr} {kk : Nat} (hg : Gl X "zip") (hm : X.mg "zip" = none) (ha : PA X [e, e2] ta)
    (hs : starEach [e, e2] X.env = (false, eval e X.env) :: starEach [e2] X.env := by rfl) (hpl : (backTo pos (starEach [e2] X.env)).any (·.1) = false := by rfl) : PI X (.Tuple elts kk tpos) (.Call (.Name "zip" p) [e, e2] [] pos) (iZipTS X.K ta) := by
  refine ⟨fun pins s σ H R I h => ?_⟩
  refine Call_ (ld_blt I hg hm PyProof.Rows.boot_zip (PyProof.Rows.callWith_type1 (thn (ha.run pos pins s σ H _ I h) fun us s1 ⟨vs, H1, I1, r1, q1⟩ => ?_) hs hpl))
  obtain ⟨a, t, xs, ex, hqx, q⟩ := q1
  subst ex
  cases r1 with
  | cons r rr =>
    cases rr with
    | cons r' rr =>
      cases rr
      cases r
      obtain ⟨tk, rfl⟩ := r'
      have fresh5 : ∀ c, c ∈ [s1.heap.objs.size + 4, s1.heap.objs.size + 2, s1.heap.objs.size + 3, s1.heap.objs.size, s1.heap.objs.size + 1] → FpOk X pins H1 c := fun c hcm => by
        have hle : s1.heap.objs.size ≤ c := by
          simp only [List.mem_cons, List.not_mem_nil, or_false] at hcm
          omega
        exact I1.fpOk hle (I1.hok.fresh hle)
      obtain ⟨its, rv, p1, _⟩ := I1.tuple hqx
      obtain ⟨o1, ho1, _⟩ := id p1
      have la := Heap.lt_size ho1
      refine JsZ.call_zipTS p1 fun h' hz hTI hTO h1 h2 hsz hk => wpAny_pyIter_zip hz ?_
      have I2 : Inv X pins σ H1 { s1 with heap := h' } := I1.kept (t' := s1.toks) hk
      have D : ZipSep2 (s1.heap.objs.size + 4) (s1.heap.objs.size + 2) (s1.heap.objs.size + 3) s1.heap.objs.size (s1.heap.objs.size + 1) [s1.heap.objs.size, a] [s1.heap.objs.size + 1] := by
        have la2 : ∀ k, s1.heap.objs.size + k ≠ a := fun k h => absurd la (by rw [← h]; exact Nat.not_lt.mpr (Nat.le_add_right _ _))
        constructor <;> simp <;> first | omega | exact la2 _
      exact ⟨s1.heap.objs.size + 4, [s1.heap.objs.size + 4, s1.heap.objs.size + 2, s1.heap.objs.size + 3, s1.heap.objs.size, s1.heap.objs.size + 1], _, _, H1, rfl, I2, JsZ.turn_TS t tk D (Nat.ne_of_lt la), ⟨hz, hTI, ⟨_, _, hTO⟩, h1, h2⟩, fresh5, q⟩
theorem walk_zipTS {K : PySem.W.Frag} {a : Addr} {t : Str} {xs : List V} {n : Nat} (hn : n = min xs.length t.cps.size) : Walk (JsZ.ItTS K a t) n (fun H => SqT K H a xs) (fun i H v H' => ∃ T x c, v = .ref T ∧ H T = none ∧ H' = upd H T (.tup [x, .str ⟨#[c]⟩]) ∧ xs[i]? = some x ∧ t.cps[i]? = some c) :=
  ⟨fun i H hi hq => by
      have h1 : i < xs.length := by omega
      have h2 : i < t.cps.size := by omega
      exact ⟨xs, xs[i], t.cps[i], hq, List.getElem?_eq_getElem h1, Array.getElem?_eq_getElem h2⟩, fun H hq => ⟨xs, hq, by omega, by omega, by omega⟩, fun i H v H' hi hq y => by
      obtain ⟨T, x, c, e1, e2, e3, e4, e5⟩ := y
      exact ⟨T, x, c, e1, e2, e3, e4 xs hq, e5⟩⟩
end L2
set_option Elab.async false
set_option linter.all false
set_option maxRecDepth 100000
set_option maxHeartbeats 2000000
namespace Js
open PySem L2
abbrev sThing : Stmt := top 34
theorem lc_yes {te : TE} {σ : St} {H : Hp} {R : VK} {B : Hp → Prop} (h : te σ H R) : tYes σ H (fun b H3 => if b = true then te σ H3 R else B H3) := by
  show if true = true then te σ H R else B H
  rw [if_pos rfl]
  exact h
theorem paired_split {α β : Type} {F : α → β → Prop} : ∀ (n : Nat) {xs : List α} {ts : List β}, Paired F xs ts → n + 1 < xs.length →
    ∃ xp x y xq tp t u tq, xs = xp ++ x :: y :: xq ∧ ts = tp ++ t :: u :: tq ∧ xp.length = n ∧ tp.length = n ∧ Paired F xp tp ∧ F x t ∧ F y u ∧ Paired F xq tq
  | 0, _, _, .nil, h => absurd h (by simp)
  | 0, _, _, .cons _ .nil, h => absurd h (by simp)
  | 0, _, _, .cons h1 (.cons h2 r), _ => ⟨[], _, _, _, [], _, _, _, rfl, rfl, rfl, rfl, .nil, h1, h2, r⟩
  | n + 1, _, _, .nil, h => absurd h (by simp)
  | n + 1, _, _, .cons (a := a0) (b := b0) h1 r, h => by
    obtain ⟨xp, x, y, xq, tp, t, u, tq, e1, e2, l1, l2, p1, f1, f2, p2⟩ := paired_split n r (by simpa using h)
    exact ⟨_ :: xp, x, y, xq, _ :: tp, t, u, tq, by rw [e1]; rfl, by rw [e2]; rfl, by simp [l1], by simp [l2], .cons h1 p1, f1, f2, p2⟩
theorem paired_append {α β : Type} {F : α → β → Prop} : ∀ {xs xs' : List α} {ys ys' : List β}, Paired F xs ys → Paired F xs' ys' → Paired F (xs ++ xs') (ys ++ ys')
  | _, _, _, _, .nil, h => h
  | _, _, _, _, .cons h t, h' => .cons h (paired_append t h')
def tsz (ts : List Tr) : Nat := (ts.map Tr.size).sum
theorem tsz_append (a b : List Tr) : tsz (a ++ b) = tsz a + tsz b := by simp [tsz]
theorem tsz_cons (a : Tr) (b : List Tr) : tsz (a :: b) = a.size + tsz b := by simp [tsz]
def spThing (C : Addr) : Sp := fun vs H Q _ => ∃ (p : Addr) (m : Nat), vs = [.ref p, .int (m : Nat)] ∧ BagOk H p ∧ m ≤ 3000 ∧ ∀ a t H', KB p H H' → BagOk H' p → Th C H' a t → t.size = m → Q (.ref a) H'
section
variable {P : Program} {w : World} {K : PySem.W.Frag} {mg : Str → Option Value} {base : Heap} {C fI : Addr} {fdI : FuncData}
theorem scTh : FnScope ["_law_bag_here", "_law_many_here", "_law_some", "_law_at", "_law_k"] ["_law_bag_here", "_law_many_here"] (defScope sThing) := ⟨rfl, rfl, rfl, by decide +kernel, rfl, by decide +kernel, by decide +kernel⟩
theorem ok_thing {f fT : Addr} {fd fdT : FuncData} (F : Fun K "_law_thing" "_law_thing" sThing f fd) (B : Blt mg) (mk : Maker P w K mg base C fI fdI) (AT : At K mg "_law_take" sTake ["_law_bag_here", "_law_many_here"] fT fdT) : FnOk P w K mg base CX0 4 f fd ["_law_bag_here", "_law_many_here"] (spThing C) := by
  have GT : FnOk P w K mg base CX0 1 fT fdT ["_law_bag_here", "_law_many_here"] spTake := ok_take AT.F
  refine F.ok scTh (fun vs H Q E h => ?_) (fun cdv A outer s H vs Q E hr h => ?_)
  · obtain ⟨p, m, rfl, _⟩ := h
    rfl
  · obtain ⟨p, m, rfl, hbag, hm, k⟩ := h
    have hr1 : Room 1 _ := hr.mono (by decide)
    refine ⟨_, pss_cons (ps_setLc (i := 2) (own := [("_law_k", 4)]) (g := gName 4) (tt := tYes) rfl scTh.nd rfl rfl (sw_true rfl rfl rfl (by decide +kernel)) (pi_range1 rfl B.range (pa_cons (pe_op op_add (pv 1) pe_int) pa_nil))
        (blkOk_by (N := ["_law_bag_here", "_law_many_here", "_law_some", "_law_at", "_law_k"]) (sc := defScope sThing) (by decide +kernel)) (fun _ _ _ _ _ => pg_name (i := 4) scTh.nd rfl (Or.inl rfl)) (fun _ _ _ _ _ => pts_nil) (fun _ _ _ _ _ => pe_T0 mk hr rfl))
      (pss_cons (ps_while PassesOwn.never (pt_cmpR op_gt (pe_callB call_len_seq (by rfl) B.len PySem.boot_len (pa_cons (pv 2) pa_nil)) pe_int (nomark _))
        (pss_cons (ps_set (i := 3) scTh.nd rfl (Or.inl rfl) (pe_call GT hr1 rfl AT.mgf AT.F.kp AT.b .nil pass0 (pa_cons (pv 0) (pa_cons (pe_op op_sub (pe_callB call_len_seq (by rfl) B.len PySem.boot_len (pa_cons (pv 2) pa_nil)) pe_int) pa_nil))))
        (pss_one (ps_asg (pe_lst (pa_cons (pe_T2 mk hr rfl (pa_cons (pe_ix ix_list (pv 2) (pv 3) (fun _ _ => rfl)) (pa_cons (pe_ix ix_list (pv 2) (pe_op op_add (pv 3) pe_int) (fun _ _ => rfl)) pa_nil))) pa_nil)) (pg_slice (pv 2) (po_some (pv 3)) (po_some (pe_op op_add (pv 3) pe_int)))))))
      (pss_one (ps_ret (pe_ix ix_list (pv 2) pe_int (fun _ _ => rfl))))), ?_⟩
    have hsl := line4
    obtain ⟨bx, hbx⟩ := hbag.some
    refine ⟨_, rfl, _, _, rfl, rfl, _, rfl, by omega, by omega, fun D nD => lc_range (n := ((m : Int) + 1).toNat) (fun i H' => ∃ xs, Same H H' ∧ H' D = some (.lst xs) ∧ Paired (ThV C H') xs (List.replicate i .nil)) ⟨[], Same.new nD, upd_same, .nil⟩ ?_ ?_⟩
    · rintro i H1 hi ⟨xs, s1, hD, hps⟩
      refine ⟨rfl, lc_yes fun z H2 s2 _ h2 => ?_⟩
      have hlen := Paired.length hps
      rw [List.length_replicate] at hlen
      have hD2 := s2 _ _ hD
      refine ⟨xs, hD2, by omega, xs ++ [.ref z], (s1.trans s2).set nD, upd_same, ?_⟩
      have kk : KT H2 (upd H2 D (.lst (xs ++ [.ref z]))) := KT.lst hD2
      have e : List.replicate (i + 1) Tr.nil = List.replicate i .nil ++ [.nil] := List.replicate_succ'
      rw [e]
      exact paired_snoc (ths_kt kk (ths_kt (KT.of s2) hps)) ⟨z, rfl, h2.kt kk⟩
    · rintro H1 ⟨xs, s1, hD, hps⟩
      have em : ((m : Int) + 1).toNat = m + 1 := by omega
      rw [em] at hps
      have npD : p ≠ D := ne_of_none hbx nD
      refine ⟨fun mm σ H' => ∃ (xs : List V) (ts : List Tr) (x3 x4 : Option V), σ = [some (.ref p), some (.int (m : Nat)), some (.ref D), x3, x4] ∧ KB p H H' ∧ BagOk H' p ∧ H' D = some (.lst xs) ∧ Paired (ThV C H') xs ts ∧ tsz ts + ts.length = m + 1 ∧ ts ≠ [] ∧ mm = ts.length, ⟨_, xs, _, none, none, rfl, KB.of s1, hbag.same s1, hD, hps, ?_, by simp, rfl⟩, ?_⟩
      · have : ∀ n, tsz (List.replicate n .nil) = 0 := by
          intro n
          induction n with
          | zero => rfl
          | succ n ih => rw [List.replicate_succ, tsz_cons, ih]; rfl
        rw [this, List.length_replicate]
        omega
      · rintro mm σ H2 ⟨xs, ts, x3, x4, rfl, k2, hbag2, hD2, hps2, hsz, hne, rfl⟩
        have hlen := Paired.length hps2
        refine ⟨_, rfl, D, _, rfl, .inl (SqL.of hD2), _, _, rfl, rfl, _, rfl, ?_⟩
        by_cases h1 : 1 < xs.length
        · have ed : decide ((1 : Int) < ((xs.length : Nat) : Int)) = true := decide_eq_true (by omega)
          rw [ed]
          refine iteT ⟨fun σ' H3 => ∃ m', m' < ts.length ∧ _, fun σ' H3 z => z, ?_⟩
          refine ⟨_, rfl, _, rfl, D, _, rfl, .inl (SqL.of hD2), _, _, rfl, rfl, p, _, rfl, hbag2, by omega, by omega, fun d H3 k3 hbag3 hd0 hd1 => ?_⟩
          have hD3 := k3 _ _ (Ne.symm npD) hD2
          have hps3 := ths_kt (hbag2.kt k3) hps2
          obtain ⟨dn, rfl⟩ := Int.eq_ofNat_of_zero_le hd0
          obtain ⟨xp, x, y, xq, tp, t, u, tq, rfl, rfl, l1, l2, p1, f1, f2, p2⟩ := paired_split dn hps3 (by omega)
          obtain ⟨a1, rfl, g1⟩ := f1
          obtain ⟨a2, rfl, g2⟩ := f2
          simp only [tsz_append, tsz_cons, List.length_append, List.length_cons] at hsz
          have ix1 : atI (xp ++ V.ref a1 :: V.ref a2 :: xq) ((dn : Nat) : Int) = some (.ref a1) := atI_nat (by rw [List.getElem?_append_right (by omega), l1, Nat.sub_self]; rfl)
          have ix2 : atI (xp ++ V.ref a1 :: V.ref a2 :: xq) (((dn : Nat) : Int) + 1) = some (.ref a2) := by
            have e : (((dn : Nat) : Int) + 1) = ((dn + 1 : Nat) : Int) := by omega
            rw [e]
            exact atI_nat (by rw [List.getElem?_append_right (by omega), l1]; simp)
          refine ⟨_, rfl, _, rfl, D, _, _, _, rfl, rfl, SqL.of hD3, ix1, _, rfl, _, rfl, _, _, rfl, rfl, D, _, _, _, rfl, rfl, SqL.of hD3, ix2, a1, a2, t, u, rfl, g1, g2, by omega, fun z H4 s4 _ h4 => ?_⟩
          refine ⟨(by show 1 ≤ sizeLine; decide), fun q nq => ?_⟩
          have hD4 := s4 _ _ hD3
          have nqD : D ≠ q := ne_of_none hD4 nq
          have hlx : (xp ++ V.ref a1 :: V.ref a2 :: xq).length = dn + 2 + xq.length := by
            rw [List.length_append, List.length_cons, List.length_cons]
            omega
          have hD5 : (upd H4 q (.lst [.ref z])) D = some (.lst (xp ++ V.ref a1 :: V.ref a2 :: xq)) := (upd_ne nqD).trans hD4
          have hle : xq.length = tq.length := Paired.length p2
          refine ⟨_, rfl, _, rfl, _, rfl, _, rfl, _, _, rfl, rfl, _, rfl, D, q, _, _, _, _, rfl, rfl, rfl, rfl, hD5, upd_same, nqD, by omega, by omega, by rw [hlx]; omega, by rw [hlx]; show _ + 1 ≤ _; omega, ?_⟩
          have e1 : (xp ++ V.ref a1 :: V.ref a2 :: xq).take ((dn : Nat) : Int).toNat = xp := by
            rw [Int.toNat_natCast, ← l1, List.take_left]
          have e2 : (xp ++ V.ref a1 :: V.ref a2 :: xq).drop (((dn : Nat) : Int) + 1 + 1).toNat = xq := by
            have e : (((dn : Nat) : Int) + 1 + 1).toNat = xp.length + 2 := by omega
            rw [e, List.drop_append]
            simp
          have e3 : (((dn : Nat) : Int) + 2).toNat = (((dn : Nat) : Int) + 1 + 1).toNat := by omega
          rw [e1]
          try rw [e3]
          rw [e2]
          have k5 : KT H4 (upd (upd H4 q (.lst [.ref z])) D (.lst (xp ++ [.ref z] ++ xq))) := (KT.new nq).trans (KT.lst hD5)
          have k45 := (KT.of s4).trans k5
          refine ⟨(tp ++ [Tr.pr t u] ++ tq).length, ?_, xp ++ [.ref z] ++ xq, tp ++ [.pr t u] ++ tq, _, _, rfl, ?_, ?_, upd_same, paired_append (paired_append (ths_kt k45 p1) (.cons ⟨z, rfl, h4.kt k5⟩ .nil)) (ths_kt k45 p2), ?_, ?_, rfl⟩
          · simp
          · intro a o na h
            have h4' := s4 _ _ (k3 _ _ na (k2 _ _ na h))
            rw [upd_ne (ne_of_none h nD), upd_ne (ne_of_none h4' nq)]
            exact h4'
          · obtain ⟨x0, x1, pr, x3', h, r⟩ := hbag3.ex
            exact ⟨x0, x1, pr, x3', (upd_ne npD).trans ((upd_ne (ne_of_none (s4 _ _ h) nq)).trans (s4 _ _ h)), r⟩
          · simp only [tsz_append, tsz_cons, List.length_append, List.length_cons, Tr.size]
            simp [tsz]
            simp [tsz] at hsz
            omega
          · simp
        · have ed : decide ((1 : Int) < ((xs.length : Nat) : Int)) = false := decide_eq_false (by omega)
          rw [ed]
          refine iteF ?_
          cases hps2 with
          | nil => exact absurd rfl hne
          | @cons v t vs ts hv hps2 =>
            cases hps2 with
            | cons _ _ => simp at h1
            | nil =>
              obtain ⟨a, rfl, ha⟩ := hv
              refine ⟨_, rfl, D, _, _, .ref a, rfl, rfl, SqL.of hD2, rfl, k a t H2 k2 hbag2 ha ?_⟩
              simp [tsz] at hsz
              omega
end
end Js
set_option Elab.async false
set_option linter.all false
set_option maxRecDepth 100000
set_option maxHeartbeats 2000000
namespace Js
open PySem L2
abbrev sIsName : Stmt := top 22
abbrev sFits : Stmt := top 23
abbrev sHasForm : Stmt := top 24
abbrev sRowsIn : Stmt := top 26
def kindOf : Dd → Str
  | .told _ _ => "told"
  | .take s _ _ => takeS s
  | .two s _ _ _ => twoS s
  | .wh _ _ => "while"
  | .iff _ _ _ => "if"
def formOf : Dd → Str
  | .told _ _ => "nt"
  | .take _ _ _ => "nn"
  | .two _ _ _ _ => "nnn"
  | .wh _ _ => "nr"
  | .iff _ _ _ => "nrr"
def forms : List (Str × Str) := [("told", "nt"), ("first", "nn"), ("second", "nn"), ("pair", "nnn"), ("same", "nnn"), ("while", "nr"), ("if", "nrr")]
theorem form_in : ∀ d : Dd, (kindOf d, formOf d) ∈ forms
  | .told _ _ => by simp [kindOf, formOf, forms]
  | .take false _ _ => by simp [kindOf, formOf, forms, takeS]
  | .take true _ _ => by simp [kindOf, formOf, forms, takeS]
  | .two false _ _ _ => by simp [kindOf, formOf, forms, twoS]
  | .two true _ _ _ => by simp [kindOf, formOf, forms, twoS]
  | .wh _ _ => by simp [kindOf, formOf, forms]
  | .iff _ _ _ => by simp [kindOf, formOf, forms]
structure FrmC (K : PySem.W.Frag) (w : World) (mg : Str → Option Value) : Prop where
  ex : ∃ dF es n, mg "FORMS" = some (.ref dF) ∧ KDict K w dF es n ∧ ∀ kf ∈ forms, ∃ t, PySem.W.nsIn K dF kf.1 = some (some (.str kf.2 t))
  mM : ∃ t, mg "MANY_NAMES" = some (.int 10 t)
  mD : ∃ t, mg "MOST_DEEDS" = some (.int 4000 t)
  mF : ∃ t, mg "MOST_FLOORS" = some (.int 8 t)
  mb : mg "bool" = none
  mt : mg "tuple" = none
  mz : mg "zip" = none
  me : mg "enumerate" = none
  ii : PySem.W.kitOne K (.type "int") (.type "int") = some true
  ib : PySem.W.kitOne K (.type "int") (.type "bool") = some false
  tt : PySem.W.kitOne K (.type "tuple") (.type "tuple") = some true
  ss : PySem.W.kitOne K (.type "str") (.type "str") = some true
theorem all_rep (n : Nat) : (List.replicate n true).all id = true := by
  rw [List.all_eq_true]
  intro b hb
  rw [(List.mem_replicate.mp hb).2]
  rfl
def FitsV (K : PySem.W.Frag) (C : Addr) (H : Hp) (x : V) (c : Nat) : Prop := (c = 110 ∧ ∃ a : Nat, a < 10 ∧ x = .int (a : Nat)) ∨ (c = 116 ∧ ∃ a t, x = .ref a ∧ Th C H a t) ∨ (c = 114 ∧ ∃ q vs, x = .ref q ∧ SqT K H q vs)
theorem FitsV.same {K : PySem.W.Frag} {C : Addr} {H H' : Hp} (s : Same H H') {x : V} {c : Nat} (h : FitsV K C H x c) : FitsV K C H' x c := by
  rcases h with h | ⟨e, a, t, e2, h⟩ | ⟨e, q, vs, e2, h⟩
  · exact .inl h
  · exact .inr (.inl ⟨e, a, t, e2, h.same s⟩)
  · exact .inr (.inr ⟨e, q, vs, e2, sqt_kt (KT.of s) h⟩)
theorem cps_nt : ("nt" : Str).cps = #[110, 116] := by decide +kernel
theorem cps_nn : ("nn" : Str).cps = #[110, 110] := by decide +kernel
theorem cps_nnn : ("nnn" : Str).cps = #[110, 110, 110] := by decide +kernel
theorem cps_nr : ("nr" : Str).cps = #[110, 114] := by decide +kernel
theorem cps_nrr : ("nrr" : Str).cps = #[110, 114, 114] := by decide +kernel
theorem shape {K : PySem.W.Frag} {C : Addr} {H : Hp} {v : V} : ∀ (d : Dd), DAt K C H v d → ∃ p its, v = .ref p ∧ SqT K H p (.str (kindOf d) :: its) ∧ its.length = (formOf d).cps.size ∧ its ≠ [] ∧ its.length ≤ 3 ∧ ∀ (i : Nat) x c, its[i]? = some x → (formOf d).cps[i]? = some c → FitsV K C H x c
  | .told a t, h => by
    obtain ⟨p, x, e, h1, h2, h3, h4⟩ := h
    refine ⟨p, _, e, h1, by rw [formOf, cps_nt]; rfl, by simp, by simp, fun i y c g1 g2 => ?_⟩
    rw [formOf, cps_nt] at g2
    match i, g1, g2 with
    | 0, g1, g2 => cases Option.some.inj g1; cases Option.some.inj g2; exact .inl ⟨rfl, a, h2, rfl⟩
    | 1, g1, g2 => cases Option.some.inj g1; cases Option.some.inj g2; exact .inr (.inl ⟨rfl, x, t, rfl, h3⟩)
    | i + 2, g1, g2 => simp at g1
  | .take s a b, h => by
    obtain ⟨p, e, h1, h2, h3⟩ := h
    refine ⟨p, _, e, h1, by rw [formOf, cps_nn]; rfl, by simp, by simp, fun i y c g1 g2 => ?_⟩
    rw [formOf, cps_nn] at g2
    match i, g1, g2 with
    | 0, g1, g2 => cases Option.some.inj g1; cases Option.some.inj g2; exact .inl ⟨rfl, a, h2, rfl⟩
    | 1, g1, g2 => cases Option.some.inj g1; cases Option.some.inj g2; exact .inl ⟨rfl, b, h3, rfl⟩
    | i + 2, g1, g2 => simp at g1
  | .two s a b c, h => by
    obtain ⟨p, e, h1, h2, h3, h4⟩ := h
    refine ⟨p, _, e, h1, by rw [formOf, cps_nnn]; rfl, by simp, by simp, fun i y z g1 g2 => ?_⟩
    rw [formOf, cps_nnn] at g2
    match i, g1, g2 with
    | 0, g1, g2 => cases Option.some.inj g1; cases Option.some.inj g2; exact .inl ⟨rfl, a, h2, rfl⟩
    | 1, g1, g2 => cases Option.some.inj g1; cases Option.some.inj g2; exact .inl ⟨rfl, b, h3, rfl⟩
    | 2, g1, g2 => cases Option.some.inj g1; cases Option.some.inj g2; exact .inl ⟨rfl, c, h4, rfl⟩
    | i + 3, g1, g2 => simp at g1
  | .wh a r, h => by
    obtain ⟨p, q, vs, e, h1, h2, h3, h4⟩ := h
    refine ⟨p, _, e, h1, by rw [formOf, cps_nr]; rfl, by simp, by simp, fun i y c g1 g2 => ?_⟩
    rw [formOf, cps_nr] at g2
    match i, g1, g2 with
    | 0, g1, g2 => cases Option.some.inj g1; cases Option.some.inj g2; exact .inl ⟨rfl, a, h2, rfl⟩
    | 1, g1, g2 => cases Option.some.inj g1; cases Option.some.inj g2; exact .inr (.inr ⟨rfl, q, vs, rfl, h3⟩)
    | i + 2, g1, g2 => simp at g1
  | .iff a r o, h => by
    obtain ⟨p, q, vs, q2, vs2, e, h1, h2, h3, h4, h5, h6⟩ := h
    refine ⟨p, _, e, h1, by rw [formOf, cps_nrr]; rfl, by simp, by simp, fun i y c g1 g2 => ?_⟩
    rw [formOf, cps_nrr] at g2
    match i, g1, g2 with
    | 0, g1, g2 => cases Option.some.inj g1; cases Option.some.inj g2; exact .inl ⟨rfl, a, h2, rfl⟩
    | 1, g1, g2 => cases Option.some.inj g1; cases Option.some.inj g2; exact .inr (.inr ⟨rfl, q, vs, rfl, h3⟩)
    | 2, g1, g2 => cases Option.some.inj g1; cases Option.some.inj g2; exact .inr (.inr ⟨rfl, q2, vs2, rfl, h5⟩)
    | i + 3, g1, g2 => simp at g1
def RowsAt (K : PySem.W.Frag) (C : Addr) (H : Hp) (ws : List V) (rs : List (List Dd)) : Prop := Paired (fun v r => ∃ q, v = .ref q ∧ RAt K C H q r) ws rs
theorem RowsAt.kt {K : PySem.W.Frag} {C : Addr} {H H' : Hp} (k : KT H H') : ∀ {ws : List V} {rs : List (List Dd)}, RowsAt K C H ws rs → RowsAt K C H' ws rs
  | _, _, .nil => .nil
  | _, _, .cons ⟨q, e, h⟩ t => .cons ⟨q, e, h.kt k⟩ (RowsAt.kt k t)
def spIsName : Sp := fun vs H Q _ => ∃ a : Nat, vs = [.int (a : Nat)] ∧ a < 10 ∧ Q (.bl true) H
def spFits (K : PySem.W.Frag) (C : Addr) : Sp := fun vs H Q _ => ∃ x c, vs = [x, .str ⟨#[c]⟩] ∧ FitsV K C H x c ∧ Q (.bl true) H
def spHasForm (K : PySem.W.Frag) (C : Addr) : Sp := fun vs H Q _ => ∃ v d, vs = [v] ∧ DAt K C H v d ∧ ∀ H', Same H H' → Q (.bl true) H'
def spRowsIn (K : PySem.W.Frag) (C : Addr) : Sp := fun vs H Q _ => ∃ v d, vs = [v] ∧ DAt K C H v d ∧ ∀ p ws H', Same H H' → SqT K H' p ws → RowsAt K C H' ws d.rows → Q (.ref p) H'
theorem c_n : ("n" : Str) = ⟨#[110]⟩ := by decide +kernel
theorem c_t : ("t" : Str) = ⟨#[116]⟩ := by decide +kernel
theorem c_r : ("r" : Str) = ⟨#[114]⟩ := by decide +kernel
theorem sg_eq (a b : Nat) : decide (V.str ⟨#[a]⟩ = V.str ⟨#[b]⟩) = decide (a = b) := by simp
section
variable {P : Program} {w : World} {K : PySem.W.Frag} {mg : Str → Option Value} {base : Heap} {C : Addr}
theorem scIN : FnScope ["part"] ["part"] (defScope sIsName) := ⟨rfl, rfl, rfl, by decide +kernel, rfl, by decide +kernel, by decide +kernel⟩
theorem ok_isName {f : Addr} {fd : FuncData} (F : Fun K "is_name" "is_name" sIsName f fd) (B : Blt mg) (T : Txt K mg C) (G : FrmC K w mg) : FnOk P w K mg base CX0 1 f fd ["part"] spIsName := by
  obtain ⟨tm, mM⟩ := G.mM
  refine F.ok scIN (fun vs H Q E h => ?_) (fun cdv A outer s H vs Q E hr h => ?_)
  · obtain ⟨a, rfl, _⟩ := h
    rfl
  · obtain ⟨a, rfl, ha, k⟩ := h
    refine ⟨_, pss_one (ps_ret (pe_and (pe_callB (r := rIsi K) call_isi (by rfl) T.isi PyProof.Rows.boot_isinstance (pa_cons (pv 0) (pa_cons (pe_bltn (v := .ty "int") rfl B.int PyProof.Rows.boot_int rfl) pa_nil))) (pe_and (pe_not (pe_callB (r := rIsi K) call_isi (by rfl) T.isi PyProof.Rows.boot_isinstance (pa_cons (pv 0) (pa_cons (pe_bltn (v := .ty "bool") rfl G.mb PyProof.Rows.boot_bool rfl) pa_nil)))) (pe_one (pe_chain op_le op_lt pe_int (pv 0) (pe_glob (v := .int 10) rfl mM ⟨_, rfl⟩)))))), ?_⟩
    refine ⟨_, rfl, _, _, _, _, true, rfl, .ty "int", .base (.int _), G.ii, _, rfl, iteT ?_⟩
    refine ⟨_, rfl, _, _, _, _, false, rfl, .ty "bool", .base (.int _), G.ib, _, rfl, _, rfl, iteT ?_⟩
    refine ⟨_, rfl, _, _, rfl, rfl, _, rfl, ?_⟩
    rw [decide_eq_true (show (0 : Int) ≤ ((a : Nat) : Int) by omega)]
    refine iteT ?_
    refine ⟨_, _, rfl, rfl, ?_⟩
    show Q (.bl (decide (((a : Nat) : Int) < 10))) H
    rw [decide_eq_true (show ((a : Nat) : Int) < 10 by omega)]
    exact k
theorem scFt : FnScope ["part", "sign"] ["part", "sign"] (defScope sFits) := ⟨rfl, rfl, rfl, by decide +kernel, rfl, by decide +kernel, by decide +kernel⟩
theorem ok_fits {f : Addr} {fd : FuncData} (F : Fun K "fits" "fits" sFits f fd) (B : Blt mg) (T : Txt K mg C) (G : FrmC K w mg) (DI : Def P w K mg base "is_name" 1 ["part"] spIsName) : FnOk P w K mg base CX0 2 f fd ["part", "sign"] (spFits K C) := by
  refine F.ok scFt (fun vs H Q E h => ?_) (fun cdv A outer s H vs Q E hr h => ?_)
  · obtain ⟨x, c, rfl, _⟩ := h
    rfl
  · obtain ⟨x, c, rfl, hf, k⟩ := h
    refine ⟨_, pss_cons (ps_if (pt_cmpR op_eq (pv 1) pe_str (nomark _)) (pss_one (ps_ret (pe_def DI hr rfl (pa_cons (pv 0) pa_nil)))) pss_nil) (pss_cons (ps_if (pt_cmpR op_eq (pv 1) pe_str (nomark _)) (pss_one (ps_ret (pe_callB (r := rIsi K) call_isi (by rfl) T.isi PyProof.Rows.boot_isinstance (pa_cons (pv 0) (pa_cons (pe_glob (v := .ref C) rfl T.mgC rfl) pa_nil))))) pss_nil) (pss_one (ps_ret (pe_callB (r := rIsi K) call_isi (by rfl) T.isi PyProof.Rows.boot_isinstance (pa_cons (pv 0) (pa_cons (pe_bltn (v := .ty "tuple") rfl G.mt PyProof.Rows.boot_tuple rfl) pa_nil)))))), ?_⟩
    refine ⟨_, rfl, rfl, _, rfl, ?_⟩
    rw [c_n, sg_eq]
    rcases hf with ⟨rfl, a, ha, rfl⟩ | ⟨rfl, a, t, rfl, ha⟩ | ⟨rfl, q, vs, rfl, hq⟩
    · rw [decide_eq_true rfl]
      refine iteT ?_
      exact ⟨_, rfl, a, rfl, ha, k⟩
    · rw [decide_eq_false (by decide)]
      refine iteF ?_
      refine ⟨_, rfl, rfl, _, rfl, ?_⟩
      rw [c_t, sg_eq, decide_eq_true rfl]
      refine iteT ?_
      obtain ⟨dx, f1, g1, h1⟩ := ha.obj
      exact ⟨_, rfl, _, _, _, _, true, rfl, ClsV.own C, .base (.ins h1 T.cl T.ca T.cn T.ct T.cm), kit_self _ _, k⟩
    · rw [decide_eq_false (by decide)]
      refine iteF ?_
      refine ⟨_, rfl, rfl, _, rfl, ?_⟩
      rw [c_t, sg_eq, decide_eq_false (by decide)]
      refine iteF ?_
      exact ⟨_, rfl, _, _, _, _, true, rfl, .ty "tuple", sqt_ty hq, G.tt, k⟩
theorem scHF : FnScope ["deed", "kind", "form", "part", "sign"] ["deed"] (defScope sHasForm) := ⟨rfl, rfl, rfl, by decide +kernel, rfl, by decide +kernel, by decide +kernel⟩
theorem at0 (x : V) (xs : List V) : atI (x :: xs) 0 = some x := by
  have h : atI (x :: xs) ((0 : Nat) : Int) = some x := atI_nat rfl
  exact h
theorem cut1 (x : V) (its : List V) : cutV (x :: its) (some 1) none = its := by
  have e : HT.sIx (its.length + 1) 0 (some 1) = 1 := by
    show min 1 (its.length + 1) = 1
    omega
  unfold cutV
  rw [List.length_cons, e, HT.sIx_none, Nat.add_sub_cancel, List.drop_succ_cons, List.drop_zero, List.take_length]
theorem cut2 (x y : V) (its : List V) : cutV (x :: y :: its) (some 2) none = its := by
  have e : HT.sIx (its.length + 1 + 1) 0 (some 2) = 2 := by
    show min 2 (its.length + 1 + 1) = 2
    omega
  unfold cutV
  rw [List.length_cons, List.length_cons, e, HT.sIx_none, show its.length + 1 + 1 - 2 = its.length from rfl, List.drop_succ_cons, List.drop_succ_cons, List.drop_zero, List.take_length]
theorem ok_hasForm {f : Addr} {fd : FuncData} (F : Fun K "has_form" "has_form" sHasForm f fd) (B : Blt mg) (T : Txt K mg C) (G : FrmC K w mg) (DF : Def P w K mg base "fits" 2 ["part", "sign"] (spFits K C)) : FnOk P w K mg base CX0 3 f fd ["deed"] (spHasForm K C) := by
  obtain ⟨dF, es, n, mF, kd, hk⟩ := G.ex
  refine F.ok scHF (fun vs H Q E h => ?_) (fun cdv A outer s H vs Q E hr h => ?_)
  · obtain ⟨v, d, rfl, _⟩ := h
    rfl
  · obtain ⟨v, d, rfl, hd, k⟩ := h
    refine ⟨_, pss_cons (ps_if (PW.pt (pw_or (pt_not (pt_val (pe_callB (r := rIsi K) call_isi (by rfl) T.isi PyProof.Rows.boot_isinstance (pa_cons (pv 0) (pa_cons (pe_bltn (v := .ty "tuple") rfl G.mt PyProof.Rows.boot_tuple rfl) pa_nil))))) (pw_or1 (pt_cmpR op_eq (pe_callB call_len_seq (by rfl) B.len PySem.boot_len (pa_cons (pv 0) pa_nil)) pe_int (nomark _))))) (pss_one (ps_ret pe_bl)) pss_nil) (pss_cons (ps_set (i := 1) scHF.nd rfl (Or.inl rfl) (pe_ix (r := rIxT K) ix_tup (pv 0) pe_int (fun _ _ => rfl))) (pss_cons (ps_if (PW.pt (pw_or (pt_not (pt_val (pe_callB (r := rIsi K) call_isi (by rfl) T.isi PyProof.Rows.boot_isinstance (pa_cons (pv 1) (pa_cons (pe_bltn (v := .ty "str") rfl B.str PyProof.Rows.boot_str rfl) pa_nil))))) (pw_or1 (pt_cmpR (op_notIn_kd kd) (pv 1) (pe_glob (v := .ref dF) rfl mF rfl) rfl)))) (pss_one (ps_ret pe_bl)) pss_nil) (pss_cons (ps_set (i := 2) scHF.nd rfl (Or.inl rfl) (pe_ix (r := rIxD K w) ix_kdict (pe_glob (v := .ref dF) rfl mF rfl) (pv 1) (fun _ _ => rfl))) (pss_one (ps_ret (pe_and (pe_cmpR op_eq (pe_callB call_len_seq (by rfl) B.len PySem.boot_len (pa_cons (pv 0) pa_nil)) (pe_op op_add pe_int (pe_callB call_len_str (by rfl) B.len PySem.boot_len (pa_cons (pv 2) pa_nil))) (nomark _)) (pe_one (pe_callB (cr_all rfl) (by rfl) B.all (by decide +kernel) (pa_cons (pe_lc (own := [("part", 3), ("sign", 4)]) (g := gTup K 2 (gCons (gName 3) (gCons (gName 4) gNil))) (tt := tYes) rfl scHF.nd (pi_zipTS rfl G.mz (pa_cons (pe_slice sl_tup (pv 0) (po_some pe_int) po_none) (pa_cons (pv 2) pa_nil))) (blkOk_by (N := ["deed", "kind", "form", "part", "sign"]) (sc := defScope sHasForm) (by decide +kernel)) (fun _ _ _ _ _ => by exact (pg_tup rfl (pgs_cons (pg_name (i := 3) scHF.nd rfl (Or.inl rfl)) (pgs_cons (pg_name (i := 4) scHF.nd rfl (Or.inl rfl)) pgs_nil)))) (fun _ _ _ _ _ => pts_nil) (fun _ _ _ _ _ => (pe_def DF hr rfl (pa_cons (pv 3) (pa_cons (pv 4) pa_nil))))) pa_nil))))))))), ?_⟩
    obtain ⟨p, its, rfl, hp, hl, hne, hl3, hall⟩ := shape d hd
    obtain ⟨tk, hk⟩ := hk _ (form_in d)
    have hsl := line4
    refine ⟨_, rfl, _, _, _, _, true, rfl, .ty "tuple", sqt_ty hp, G.tt, _, rfl, iteF ?_⟩
    refine ⟨_, rfl, p, _, rfl, .inr hp, rfl, _, rfl, ?_⟩
    have e0 : decide (V.int ((((V.str (kindOf d)) :: its).length : Nat) : Int) = V.int 0) = false := by
      rw [List.length_cons]
      simp only [decide_eq_false_iff_not, V.int.injEq]
      omega
    rw [e0]
    refine iteF ?_
    refine ⟨_, rfl, p, _, 0, _, rfl, rfl, hp, at0 _ _, ?_⟩
    refine ⟨_, rfl, _, _, _, _, true, rfl, .ty "str", .base (.str _), G.ss, _, rfl, iteF ?_⟩
    refine ⟨_, rfl, _, _, rfl, rfl, hk, _, rfl, iteF ?_⟩
    refine ⟨_, rfl, dF, _, .str (formOf d), rfl, rfl, ⟨es, n, _, kd.at_, kd.lit, hk, ⟨_, rfl⟩⟩, ?_⟩
    refine ⟨_, rfl, p, _, rfl, .inr hp, ?_⟩
    have fl : (formOf d).length = its.length := hl.symm
    refine ⟨_, rfl, formOf d, rfl, by omega, _, _, rfl, rfl, rfl, _, rfl, ?_⟩
    have e1 : decide (V.int ((((V.str (kindOf d)) :: its).length : Nat) : Int) = V.int (1 + (((formOf d).length : Nat) : Int))) = true := by
      rw [List.length_cons, fl]
      simp only [decide_eq_true_eq, V.int.injEq]
      omega
    rw [e1]
    refine iteT ?_
    refine ⟨_, rfl, _, rfl, p, _, rfl, hp, ?_, fun q nq => ?_⟩
    · rintro ⟨h0, _⟩
      have e : HT.sIx (its.length + 1) 0 (some 1) = 1 := by
        show min 1 (its.length + 1) = 1
        omega
      rw [List.length_cons, e] at h0
      cases h0
    rw [cut1]
    have sq := Same.new nq (o := .tup its)
    refine ⟨_, rfl, q, _, its, rfl, SqT.of upd_same, fun D nD => lc_it (n := its.length) (walk_zipTS (K := K) (a := q) (t := formOf d) (xs := its) (by rw [← hl, Nat.min_self])) (fun i H' => Same (upd H q (.tup its)) H' ∧ SqT K H' q its ∧ H' D = some (.lst (List.replicate i (.bl true)))) ⟨Same.new nD, SqT.of (Same.new nD _ _ upd_same), upd_same⟩ (fun i H' _ z => z.2.1) ?_ ?_⟩
    · rintro i y H1 H2 hi ⟨s1, hq1, hD1⟩ ⟨T, x, c, rfl, nT, rfl, hx, hc⟩
      have sT := Same.new nT (o := .tup [x, .str ⟨#[c]⟩])
      refine ⟨T, _, rfl, SqT.of upd_same, rfl, _, _, rfl, _, _, rfl, rfl, rfl, lc_yes ?_⟩
      refine ⟨_, rfl, _, rfl, x, c, rfl, (hall i x c hx hc).same ((sq.trans s1).trans sT), ?_⟩
      refine ⟨_, sT _ _ hD1, by rw [List.length_replicate]; omega, (s1.trans sT).set nD, ?_, ?_⟩
      · have nDq : q ≠ D := fun z => by
          rw [← z, upd_same] at nD
          cases nD
        exact sqt_kt (KT.lst (sT _ _ hD1)) (sqt_kt (KT.of sT) hq1)
      · rw [upd_same, List.replicate_succ']
    · rintro H1 ⟨s1, hq1, hD1⟩
      refine ⟨D, List.replicate its.length true, rfl, SqL.of ?_, ?_⟩
      · rw [hD1, List.map_replicate]
      · have ea : ((List.replicate its.length true).all id) = true := all_rep _
        rw [ea]
        exact k H1 (sq.trans s1)
theorem scRI : FnScope ["deed"] ["deed"] (defScope sRowsIn) := ⟨rfl, rfl, rfl, by decide +kernel, rfl, by decide +kernel, by decide +kernel⟩
theorem rows_look {K : PySem.W.Frag} {C : Addr} {H : Hp} {v : V} : ∀ (d : Dd), DAt K C H v d → ∃ p y its, v = .ref p ∧ SqT K H p (.str (kindOf d) :: y :: its) ∧ ((decide (114 ∈ (formOf d).cps.toList) = true ∧ RowsAt K C H its d.rows) ∨ (decide (114 ∈ (formOf d).cps.toList) = false ∧ d.rows = []))
  | .told a t, h => by
    obtain ⟨p, x, e, h1, h2, h3, h4⟩ := h
    exact ⟨p, _, _, e, h1, .inr ⟨by rw [formOf, cps_nt]; decide, rfl⟩⟩
  | .take s a b, h => by
    obtain ⟨p, e, h1, h2, h3⟩ := h
    exact ⟨p, _, _, e, h1, .inr ⟨by rw [formOf, cps_nn]; decide, rfl⟩⟩
  | .two s a b c, h => by
    obtain ⟨p, e, h1, h2, h3, h4⟩ := h
    exact ⟨p, _, _, e, h1, .inr ⟨by rw [formOf, cps_nnn]; decide, rfl⟩⟩
  | .wh a r, h => by
    obtain ⟨p, q, vs, e, h1, h2, h3, h4⟩ := h
    exact ⟨p, _, _, e, h1, .inl ⟨by rw [formOf, cps_nr]; decide, .cons ⟨q, rfl, vs, h3, h4⟩ .nil⟩⟩
  | .iff a r o, h => by
    obtain ⟨p, q, vs, q2, vs2, e, h1, h2, h3, h4, h5, h6⟩ := h
    exact ⟨p, _, _, e, h1, .inl ⟨by rw [formOf, cps_nrr]; decide, .cons ⟨q, rfl, vs, h3, h4⟩ (.cons ⟨q2, rfl, vs2, h5, h6⟩ .nil)⟩⟩
theorem ok_rowsIn {f : Addr} {fd : FuncData} (F : Fun K "rows_in" "rows_in" sRowsIn f fd) (G : FrmC K w mg) : FnOk P w K mg base CX0 1 f fd ["deed"] (spRowsIn K C) := by
  obtain ⟨dF, es, n, mF, kd, hk⟩ := G.ex
  refine F.ok scRI (fun vs H Q E h => ?_) (fun cdv A outer s H vs Q E hr h => ?_)
  · obtain ⟨v, d, rfl, _⟩ := h
    rfl
  · obtain ⟨v, d, rfl, hd, k⟩ := h
    refine ⟨_, pss_one (ps_ret (pe_ifExp (pt_cmpR op_in_sign pe_str (pe_ix (r := rIxD K w) ix_kdict (pe_glob (v := .ref dF) rfl mF rfl) (pe_ix (r := rIxT K) ix_tup (pv 0) pe_int (fun _ _ => rfl)) (fun _ _ => rfl)) rfl) (pe_slice sl_tup (pv 0) (po_some pe_int) po_none) (pe_tup pa_nil))), ?_⟩
    obtain ⟨p, y, its, rfl, hp, hrs⟩ := rows_look d hd
    obtain ⟨tk, hk⟩ := hk _ (form_in d)
    have hsl := line4
    refine ⟨_, rfl, p, _, 0, _, rfl, rfl, hp, at0 _ _, dF, _, .str (formOf d), rfl, rfl, ⟨es, n, _, kd.at_, kd.lit, hk, ⟨_, rfl⟩⟩, 114, formOf d, congrArg V.str c_r, rfl, _, rfl, ?_⟩
    rcases hrs with ⟨e, hrs⟩ | ⟨e, hrs⟩
    · rw [e]
      refine iteT ?_
      refine ⟨_, rfl, _, rfl, p, _, rfl, hp, ?_, fun q nq => ?_⟩
      · rintro ⟨h0, _⟩
        have e : HT.sIx (its.length + 1 + 1) 0 (some 2) = 2 := by
          show min 2 (its.length + 1 + 1) = 2
          omega
        rw [List.length_cons, List.length_cons, e] at h0
        cases h0
      rw [cut2]
      exact k q its _ (Same.new nq) (SqT.of upd_same) (hrs.kt (KT.of (Same.new nq)))
    · rw [e]
      refine iteF ?_
      refine ⟨Nat.zero_le _, fun q nq => ?_⟩
      exact k q [] _ (Same.new nq) (SqT.of upd_same) (by rw [hrs]; exact .nil)
end
end Js
set_option Elab.async false
set_option linter.all false
set_option maxRecDepth 100000
set_option maxHeartbeats 2000000
namespace Js
open PySem L2
abbrev sLook : Stmt := top 27
def manyL : List (List Dd) → Nat
  | [] => 0
  | r :: rs => manyR r + manyL rs
def endsL : List (List Dd) → Nat → List Nat
  | [], _ => []
  | r :: rs, n => endsR r n ++ endsL rs (n + manyR r)
def deepL : List (List Dd) → Nat
  | [] => 0
  | r :: rs => max (deepR r) (deepL rs)
theorem many_rows : ∀ d : Dd, d.many = manyL d.rows + 1
  | .told _ _ => rfl
  | .take _ _ _ => rfl
  | .two _ _ _ _ => rfl
  | .wh a r => by rw [many_wh, Dd.rows, manyL, manyL, Nat.add_zero]
  | .iff a r o => by rw [many_iff]; simp only [Dd.rows, manyL]; omega
theorem ends_rows : ∀ (d : Dd) (n : Nat), d.ends n = (n + d.many) :: endsL d.rows (n + 1)
  | .told _ _, _ => rfl
  | .take _ _ _, _ => rfl
  | .two _ _ _ _, _ => rfl
  | .wh a r, n => by
    rw [Dd.ends, many_wh, Dd.rows, endsL, endsL, List.append_nil, Nat.add_assoc n, Nat.add_comm 1]
  | .iff a r o, n => by
    rw [Dd.ends, many_iff, Dd.rows, endsL, endsL, endsL, List.append_nil]
    congr 1
    omega
theorem deep_rows : ∀ (d : Dd), d.rows ≠ [] → d.deep = deepL d.rows + 1
  | .told _ _, h => absurd rfl h
  | .take _ _ _, h => absurd rfl h
  | .two _ _ _ _, h => absurd rfl h
  | .wh a r, _ => by rw [Dd.deep, Dd.rows, deepL, deepL, Nat.max_eq_left (Nat.zero_le _)]
  | .iff a r o, _ => by rw [Dd.deep, Dd.rows, deepL, deepL, deepL, Nat.max_eq_left (Nat.zero_le _)]
theorem endsL_len : ∀ (rs : List (List Dd)) (n : Nat), (endsL rs n).length = manyL rs
  | [], _ => rfl
  | r :: rs, n => by rw [endsL, List.length_append, endsR_len, endsL_len rs, manyL]
theorem manyR_app : ∀ (a b : List Dd), manyR (a ++ b) = manyR a + manyR b
  | [], b => by rw [List.nil_append, many_nil, Nat.zero_add]
  | d :: a, b => by rw [List.cons_append, many_cons, many_cons, manyR_app a b]; omega
theorem endsR_app : ∀ (a b : List Dd) (n : Nat), endsR (a ++ b) n = endsR a n ++ endsR b (n + manyR a)
  | [], b, n => by rw [List.nil_append, many_nil, endsR, List.nil_append, Nat.add_zero]
  | d :: a, b, n => by rw [List.cons_append, endsR, endsR_app a b, endsR, many_cons, List.append_assoc, Nat.add_assoc]
theorem manyL_app : ∀ (a b : List (List Dd)), manyL (a ++ b) = manyL a + manyL b
  | [], b => by rw [List.nil_append, manyL, Nat.zero_add]
  | r :: a, b => by rw [List.cons_append, manyL, manyL, manyL_app a b]; omega
theorem endsL_app : ∀ (a b : List (List Dd)) (n : Nat), endsL (a ++ b) n = endsL a n ++ endsL b (n + manyL a)
  | [], b, n => by rw [List.nil_append, manyL, endsL, List.nil_append, Nat.add_zero]
  | r :: a, b, n => by rw [List.cons_append, endsL, endsL_app a b, endsL, manyL, List.append_assoc, Nat.add_assoc]
theorem manyR_one (d : Dd) : manyR [d] = d.many := by rw [many_cons, many_nil, Nat.add_zero]
theorem endsR_one (d : Dd) (n : Nat) : endsR [d] n = d.ends n := by rw [endsR, endsR, List.append_nil]
theorem manyL_one (r : List Dd) : manyL [r] = manyR r := by rw [manyL, manyL, Nat.add_zero]
theorem endsL_one (r : List Dd) (n : Nat) : endsL [r] n = endsR r n := by rw [endsL, endsL, List.append_nil]
theorem deepR_mem : ∀ (r : List Dd) (d : Dd), d ∈ r → d.deep ≤ deepR r
  | e :: r, d, h => by
    rw [deepR]
    rcases List.mem_cons.mp h with rfl | h
    · exact Nat.le_max_left _ _
    · exact Nat.le_trans (deepR_mem r d h) (Nat.le_max_right _ _)
theorem deepL_mem : ∀ (rs : List (List Dd)) (r : List Dd), r ∈ rs → deepR r ≤ deepL rs
  | e :: rs, r, h => by
    rw [deepL]
    rcases List.mem_cons.mp h with rfl | h
    · exact Nat.le_max_left _ _
    · exact Nat.le_trans (deepL_mem rs r h) (Nat.le_max_right _ _)
theorem manyL_take : ∀ (rs : List (List Dd)) (j : Nat) (r : List Dd), rs[j]? = some r → manyL (rs.take j) + manyR r ≤ manyL rs
  | e :: rs, 0, r, h => by
    cases Option.some.inj h
    simp only [List.take_zero, manyL]
    omega
  | e :: rs, j + 1, r, h => by
    have := manyL_take rs j r h
    simp only [List.take_succ_cons, manyL]
    omega
theorem manyR_take : ∀ (rs : List Dd) (j : Nat) (r : Dd), rs[j]? = some r → manyR (rs.take j) + r.many ≤ manyR rs
  | e :: rs, 0, r, h => by
    cases Option.some.inj h
    rw [List.take_zero, many_nil, many_cons]
    omega
  | e :: rs, j + 1, r, h => by
    have := manyR_take rs j r h
    rw [List.take_succ_cons, many_cons, many_cons]
    omega
theorem take_snoc {α : Type} {l : List α} {i : Nat} {x : α} (h : l[i]? = some x) : l.take (i + 1) = l.take i ++ [x] := by
  obtain ⟨hi, e⟩ := List.getElem?_eq_some_iff.mp h
  rw [List.take_succ_eq_append_getElem hi, e]
def numsV (ns : List Nat) : List V := ns.map fun n => .int (n : Nat)
theorem ixN_at (n k : Nat) (h : k < n) : ixN n ((k : Nat) : Int) = some k := by
  unfold ixN
  rw [if_pos (by omega), if_pos (by omega), Int.toNat_natCast]
theorem numsV_len (ns : List Nat) : (numsV ns).length = ns.length := by rw [numsV, List.length_map]
theorem numsV_app (a b : List Nat) : numsV (a ++ b) = numsV a ++ numsV b := by rw [numsV, List.map_append]; rfl
def spLook (K : PySem.W.Frag) (C : Addr) (n : Nat) : Sp := fun vs H Q _ => ∃ (q e : Addr) (f : Nat) (r : List Dd) (es : List Nat), vs = [.ref q, .int (f : Nat), .ref e] ∧ RAt K C H q r ∧ deepR r < n ∧ f + deepR r ≤ 8 ∧ H e = some (.lst (numsV es)) ∧ es.length + manyR r ≤ 4000 ∧
  ∀ H', KB e H H' → H' e = some (.lst (numsV (es ++ endsR r es.length))) → Q .non H'
section
variable {P : Program} {w : World} {K : PySem.W.Frag} {mg : Str → Option Value} {base : Heap} {C : Addr}
theorem scLk : FnScope ["row", "floors", "ends", "deed", "place", "inner", "part"] ["row", "floors", "ends"] (defScope sLook) := ⟨rfl, rfl, rfl, by decide +kernel, rfl, by decide +kernel, by decide +kernel⟩
theorem ok_look {f : Addr} {fd : FuncData} (F : Fun K "look_through" "look_through" sLook f fd) (mgf : mg "look_through" = some (.ref f)) (b : Binds K fd ["row", "floors", "ends"] []) (B : Blt mg) (T : Txt K mg C) (G : FrmC K w mg)
    (DH : Def P w K mg base "has_form" 3 ["deed"] (spHasForm K C)) (DR : Def P w K mg base "rows_in" 1 ["deed"] (spRowsIn K C)) : ∀ n, FnOk P w K mg base CX0 (n + 4) f fd ["row", "floors", "ends"] (spLook K C n) := by
  obtain ⟨t1, mD⟩ := G.mD
  obtain ⟨t2, mFl⟩ := G.mF
  intro n
  induction n with
  | zero =>
    refine F.ok scLk (fun vs H Q E h => ?_) (fun cdv A outer s H vs Q E hr h => ?_)
    · obtain ⟨q, e, f, r, es, rfl, _⟩ := h
      rfl
    · obtain ⟨q, e, f, r, es, _, _, h, _⟩ := h
      exact absurd h (Nat.not_lt_zero _)
  | succ n G' =>
  refine F.ok scLk (fun vs H Q E h => ?_) (fun cdv A outer s H vs Q E hr h => ?_)
  · obtain ⟨q, e, f, r, es, rfl, _⟩ := h
    rfl
  · obtain ⟨q, e, f, r, es, rfl, ⟨vs, hq, hvs⟩, hdp, hfl, he, hmany, k⟩ := h
    have hr1 : Room 1 _ := hr.mono (by omega)
    have hr3 : Room 3 _ := hr.mono (by omega)
    refine ⟨_, PSs.nox (pss_one (ps_for PassesOwn.never rfl (pi_tup (pv 0)) (pg_name (i := 3) scLk.nd rfl (Or.inl rfl)) (pss_cons (ps_set (i := 4) scLk.nd rfl (Or.inl rfl) (pe_callB call_len_seq (by rfl) B.len PySem.boot_len (pa_cons (pv 2) pa_nil))) (pss_cons (ps_if (PW.pt (pw_or (pt_cmpR op_eq (pv 4) (pe_glob (v := .int 4000) rfl mD ⟨_, rfl⟩) (nomark _)) (pw_or1 (pt_not (pt_val (pe_def DH hr3 rfl (pa_cons (pv 3) pa_nil))))))) (pss_one ps_never) pss_nil) (pss_cons (ps_set (i := 5) scLk.nd rfl (Or.inl rfl) (pe_def DR hr1 rfl (pa_cons (pv 3) pa_nil))) (pss_cons (ps_if (PW.pt (pw_and (pt_truth (pv 5) (by intro _; rfl)) (pw_and1 (pt_cmpR op_eq (pv 1) (pe_glob (v := .int 8) rfl mFl ⟨_, rfl⟩) (nomark _))))) (pss_one ps_never) pss_nil) (pss_cons (ps_expr (pe_bm PySem.F.plainAttrs_list PySem.F.slot_list_append PySem.F.type_list_append mt_append (pv 2) (pa_cons (pe_op op_add (pv 4) pe_int) pa_nil))) (pss_cons (ps_for PassesOwn.never rfl (pi_tup (pv 5)) (pg_name (i := 6) scLk.nd rfl (Or.inl rfl)) (pss_one (ps_expr (pe_call G' hr rfl mgf F.kp b .nil pass0 (pa_cons (pv 6) (pa_cons (pe_op op_add (pv 1) pe_int) (pa_cons (pv 2) pa_nil))))))) (pss_one (ps_asg (pe_callB call_len_seq (by rfl) B.len PySem.boot_len (pa_cons (pv 2) pa_nil)) (pg_sub (pv 2) (pv 4) set_list))))))))))), ?_⟩
    have hsl := line4
    have hlen := DsAt.length r vs hvs
    refine ⟨_, rfl, q, rfl, ⟨_, hq⟩, for_tup (K := K) (a := q) (xs := vs) (fun i σ H' => ∃ x3 x4 x5 x6 : Option V, σ = [some (.ref q), some (.int (f : Nat)), some (.ref e), x3, x4, x5, x6] ∧ KB e H H' ∧ H' e = some (.lst (numsV (es ++ endsR (r.take i) es.length)))) ⟨none, none, none, none, rfl, KB.refl e H, by simpa [endsR] using he⟩ ?_ ?_ ?_⟩
    · rintro i σ H1 _ ⟨x3, x4, x5, x6, rfl, kb1, he1⟩
      exact sqt_kt (kb1.kt he) hq
    · rintro i v σ H1 hv ⟨x3, x4, x5, x6, rfl, kb1, he1⟩
      obtain ⟨d, hd, hdv⟩ := DsAt.get r vs i v hvs hv
      have hdm := List.mem_of_getElem? hd
      have hdd := deepR_mem r d hdm
      have hmt := manyR_take r i d hd
      have hpos := many_pos d
      have hdv1 := DAt_kt (kb1.kt he) d v hdv
      obtain ⟨pl, hpl⟩ : ∃ pl, es.length + manyR (r.take i) = pl := ⟨_, rfl⟩
      have hl1 : (numsV (es ++ endsR (r.take i) es.length)).length = pl := by rw [numsV_len, List.length_append, endsR_len, hpl]
      refine ⟨_, rfl, e, _, rfl, .inl (SqL.of he1), ?_⟩
      rw [hl1]
      refine ⟨_, rfl, rfl, _, rfl, ?_⟩
      have e0 : decide (V.int ((pl : Nat) : Int) = V.int 4000) = false := by
        simp only [decide_eq_false_iff_not, V.int.injEq]
        omega
      rw [e0]
      refine iteF ?_
      refine ⟨_, rfl, v, d, rfl, hdv1, fun H2 s2 => ⟨_, rfl, iteF ?_⟩⟩
      have hdv2 := DAt_kt (KT.of s2) d v hdv1
      refine ⟨_, rfl, v, d, rfl, hdv2, fun ip ws H3 s3 hip hws => ?_⟩
      have hwl := Paired.length hws
      refine ⟨_, rfl, !ws.isEmpty, .inr (.inl ⟨ws, hip, rfl⟩), ?_⟩
      have hrows : ∀ {Z : Prop}, Z → Z := fun z => z
      have step2 : ∀ (R : Bool → Hp → Prop), R false H3 → (if (!ws.isEmpty) = true then (tTest (tOp rEq (tVar 1) (tC (.int 8)))) [some (.ref q), some (.int (f : Nat)), some (.ref e), some v, some (.int ((pl : Nat) : Int)), some (.ref ip), x6] H3 R else R false H3) := by
        intro R hR
        cases hw : ws with
        | nil => exact iteF hR
        | cons w0 wr =>
          refine iteT ?_
          refine ⟨_, rfl, rfl, _, rfl, ?_⟩
          have hne : d.rows ≠ [] := fun z => by
            rw [z, hw] at hwl
            cases hwl
          have := deep_rows d hne
          have e1 : decide (V.int ((f : Nat) : Int) = V.int 8) = false := by
            simp only [decide_eq_false_iff_not, V.int.injEq]
            omega
          rw [e1]
          exact hR
      refine step2 _ ?_
      refine iteF ?_
      have he3 := s3 _ _ (s2 _ _ he1)
      obtain ⟨as, has⟩ : ∃ as, es ++ endsR (r.take i) es.length = as := ⟨_, rfl⟩
      rw [has] at he3 hl1
      rw [numsV_len] at hl1
      have hmr := many_rows d
      refine ⟨_, rfl, .inl ⟨rfl, _, SqL.of he3⟩, _, rfl, _, _, rfl, rfl, e, _, _, rfl, rfl, he3, by rw [numsV_len]; omega, ?_⟩
      have kb3 : KB e H H3 := (kb1.trans (KB.of s2)).trans (KB.of s3)
      have e4 : numsV as ++ [V.int (((pl : Nat) : Int) + 1)] = numsV (as ++ [pl + 1]) := by
        rw [numsV_app]
        rfl
      rw [e4]
      have he4 : (upd H3 e (.lst (numsV (as ++ [pl + 1])))) e = some (.lst (numsV (as ++ [pl + 1]))) := upd_same
      have kb4 : KB e H3 (upd H3 e (.lst (numsV (as ++ [pl + 1])))) := KB.set
      revert he4 kb4
      generalize upd H3 e (.lst (numsV (as ++ [pl + 1]))) = H4
      intro he4 kb4
      have kt4 : KT H3 H4 := kb4.kt he3
      refine ⟨_, rfl, ip, rfl, ⟨_, sqt_kt kt4 hip⟩, for_tup (K := K) (a := ip) (xs := ws) (fun j σ H' => ∃ x6 : Option V, σ = [some (.ref q), some (.int (f : Nat)), some (.ref e), some v, some (.int ((pl : Nat) : Int)), some (.ref ip), x6] ∧ KB e H4 H' ∧ H' e = some (.lst (numsV (as ++ [pl + 1] ++ endsL (d.rows.take j) (pl + 1))))) ⟨_, rfl, KB.refl e H4, by simpa [endsL] using he4⟩ ?_ ?_ ?_⟩
      · rintro j σ H5 _ ⟨x6, rfl, kb5, he5⟩
        exact sqt_kt (kb5.kt he4) (sqt_kt kt4 hip)
      · rintro j v6 σ H5 hv6 ⟨x6, rfl, kb5, he5⟩
        obtain ⟨r6, hr6, q6, rfl, hq6⟩ := paired_get hws hv6
        have hml := manyL_take d.rows j r6 hr6
        have hdl := deepL_mem d.rows r6 (List.mem_of_getElem? hr6)
        have hne : d.rows ≠ [] := fun z => by
          rw [z] at hr6
          cases hr6
        have hdr := deep_rows d hne
        have l5 : (as ++ [pl + 1] ++ endsL (d.rows.take j) (pl + 1)).length = pl + 1 + manyL (d.rows.take j) := by
          rw [List.length_append, List.length_append, endsL_len, hl1]
          rfl
        refine ⟨_, rfl, _, rfl, _, _, rfl, rfl, _, rfl, q6, e, f + 1, r6, _, rfl, (hq6.kt kt4).kt (kb5.kt he4), by omega, by omega, he5, by omega, fun H6 kb6 he6 => ?_⟩
        refine ⟨_, rfl, kb5.trans kb6, ?_⟩
        rw [he6, take_snoc hr6, endsL_app, endsL_one, l5, List.append_assoc (as ++ [pl + 1])]
      · rintro σ H5 ⟨x6, rfl, kb5, he5⟩
        rw [hwl, List.take_length] at he5
        have l5 : (as ++ [pl + 1] ++ endsL d.rows (pl + 1)).length = pl + d.many := by
          rw [List.length_append, List.length_append, endsL_len, hl1, hmr]
          simp only [List.length_cons, List.length_nil]
          omega
        refine ⟨_, rfl, e, _, rfl, .inl (SqL.of he5), ?_⟩
        rw [numsV_len, l5]
        refine ⟨_, rfl, _, rfl, e, _, _, pl, rfl, rfl, he5, ?_, ?_⟩
        · rw [numsV_len, l5]
          exact ixN_at _ _ (by omega)
        · have es5 : (numsV (as ++ [pl + 1] ++ endsL d.rows (pl + 1))).set pl (V.int (((pl + d.many : Nat)) : Int)) = numsV (es ++ endsR (r.take (i + 1)) es.length) := by
            rw [take_snoc hd, endsR_app, endsR_one, ends_rows, ← List.append_assoc, has, hpl, List.append_assoc, numsV_app, numsV_app]
            rw [List.set_append_right _ _ (by rw [numsV_len, hl1]; exact Nat.le_refl _), numsV_len, hl1, Nat.sub_self, numsV_app]
            rfl
          refine ⟨_, _, _, _, rfl, ((kb3.trans kb4).trans kb5).trans KB.set, ?_⟩
          rw [upd_same, ← es5]
    · rintro σ H1 ⟨x3, x4, x5, x6, rfl, kb1, he1⟩
      rw [hlen, List.take_length] at he1
      exact k H1 kb1 he1
end
end Js
set_option Elab.async false
set_option linter.all false
set_option maxRecDepth 100000
set_option maxHeartbeats 2000000
namespace JsZ
open PySem PySem.Spec PyProof.Rows L2
abbrev ht1 (h : Heap) (l : Addr) : Heap := h.push { cls := .type "tuple_iterator", data := .fields #[.ref l, .int 0 0] }
abbrev ht2 (h : Heap) (l : Addr) : Heap := (ht1 h l).push { cls := .type "enumerate", data := .fields #[.none, .bool false, .ref h.objs.size, rawInt 0, .none, .none] }
theorem new_enumT (l : Addr) (us : Array Value) :
    Meets (Builtin.«enumerate.__new__» ⟨[.type "enumerate", .ref l], []⟩) (fun _ R s => s.heap.IsTuple l us ∧ R (.ok (.ret (.ref (ht1 s.heap l).objs.size))) { s with heap := ht2 s.heap l }) :=
  .of_wp fun prog w A R s h => by
    obtain ⟨hp, g, d, tk, os⟩ := s; obtain ⟨h1, h⟩ := h
    have hsub := sub_enumerate
    have hL : Heap.IsTuple (Shared.heap ⟨hp, g, d, tk, os⟩) l us := h1
    wp_walk
    refine wpAny_stack_any fun st => wpAny_pure ?_
    split
    · rename_i c _ _ _ _ _
      cases (c == Value.type "enumerate")
      · wp_walk using wpAny_pyIter_tuple hL
        exact ⟨_, rfl, h⟩
      · wp_walk using wpAny_pyIter_tuple hL
        exact ⟨_, rfl, h⟩
    · wp_walk using wpAny_pyIter_tuple hL
      exact ⟨_, rfl, h⟩
section
variable {prog : Program} {w : World} {A : Around} {E : Value → Shared → Prop} {s : Shared}
theorem call_enumT {l : Addr} {us : Array Value} {Q : Value → Shared → Prop} (hL : s.heap.IsTuple l us)
    (h : ∀ h', IsEnum h' (s.heap.objs.size + 1) s.heap.objs.size 0 .none → h'.IsTupleIter s.heap.objs.size l 0 → h'.objs.size = s.heap.objs.size + 2 → (∀ b o, s.heap.get? b = some o → h'.get? b = some o) → Q (.ref (s.heap.objs.size + 1)) { s with heap := h' }) :
    wpAny (model prog w) A (call (.type "enumerate") [.ref l]) Q E s := by
  refine callType_new F.called_enumerate (by decide) (F.typeCall_enumerate_1 _) (F.newCall_enumerate_1 _) (fun obj => F.args_object_init_2 obj _) F.entry_enumerate_new (new_enumT l us) ⟨hL, ?_⟩
  have hz : (ht1 s.heap l).objs.size = s.heap.objs.size + 1 := Heap.size_push ..
  show _ ∧ _
  rw [hz]
  have he : IsEnum (ht2 s.heap l) (s.heap.objs.size + 1) s.heap.objs.size 0 .none := by
    have := Heap.get?_push_size (ht1 s.heap l) (o := { cls := .type "enumerate", data := .fields #[.none, .bool false, .ref s.heap.objs.size, rawInt 0, .none, .none] }) rfl
    rw [hz] at this
    exact this
  refine ⟨⟨_, he, rfl⟩, h _ he ⟨_, Heap.get?_push_of_some _ (Heap.get?_push_size _ rfl), rfl, rfl⟩ (by rw [Heap.size_push, hz]) fun b o q => Heap.get?_push_of_some _ (Heap.get?_push_of_some _ q)⟩
end
def ItE (K : PySem.W.Frag) (a : Addr) : It :=
  ⟨fun i H => ∃ (xs : List V) (x : V), SqT K H a xs ∧ xs[i]? = some x,
    fun i H v H' => ∃ T x, v = .ref T ∧ H T = none ∧ H' = upd H T (.tup [.int (i : Nat), x]) ∧ ∀ xs, SqT K H a xs → xs[i]? = some x,
    fun i H => ∃ xs : List V, SqT K H a xs ∧ i = xs.length⟩
theorem turn_E {P : Program} {w : World} {K : PySem.W.Frag} {elts : List Expr} {kk : Nat} {tpos : Pos} (a e it : Addr) (ha : a ≠ it) (hea : e ≠ a) :
    Turn P w K (.Tuple elts kk tpos) (ItE K a) [e, it] e (fun i h => (∃ old, IsEnum h e it ((i : Nat) : Int) old) ∧ h.IsTupleIter it a i ∧ e ≠ it) where
  mem := by simp
  obj := fun i h st b hb => by
    obtain ⟨⟨old, he⟩, ⟨o, ho, hc, hd⟩, _⟩ := st
    have e' : b = e ∨ b = it := by simpa using hb
    rcases e' with z | z
    · rw [z]; exact ⟨_, he, fun v q => nomatch q⟩
    · rw [z]; exact ⟨o, ho, fun v q => by rw [hd] at q; cases q⟩
  keep := fun i h h' st k => let ⟨⟨old, he⟩, hi, hne⟩ := st; ⟨⟨old, k e (by simp) _ he⟩, hi.at fun o q => k it (by simp) o q, hne⟩
  item := by
    intro X hP hw hK hc i pins s σ H E I hf st hg
    subst hP hw hK
    obtain ⟨⟨old, he⟩, hit, hne⟩ := st
    obtain ⟨xs, x, hqx, hx⟩ := hg
    obtain ⟨us, rv, p, _⟩ := I.tuple hqx
    obtain ⟨u, hu, ru⟩ := rv.get hx
    have hel : e < s.heap.objs.size := Heap.lt_size he
    have hil : it < s.heap.objs.size := by obtain ⟨_, q, _⟩ := hit; exact Heap.lt_size q
    have hh : X.A.in1.handled = none := I.ok.hd hc
    have li : i < us.toArray.size := by
      have := (List.getElem?_eq_some_iff.mp hu).1
      simpa using this
    refine wpAny_pyNext_enum_itemD (Draws.tuple hh it a ha us.toArray) he ⟨hit, p⟩ li hne (by simp [hne, hea]) fun v h' tk hPx ho hit' hT hsz hk => ?_
    have ev : v = u := by
      have : us.toArray[i]? = some u := by simpa using hu
      exact Option.some.inj (hPx.symm.trans this)
    subst ev
    refine ⟨_, rfl, wpAny_letOwnedTupleGo_enum (s := { s with heap := h', toks := tk + 1 }) ho fun h'' he' sb => ?_⟩
    have hT2 : h''.get? s.heap.objs.size = some { cls := .type "tuple", data := .seq #[.int i tk, v] } := (sb.2 _ (Nat.ne_of_gt hel)).trans hT
    have new : ObjOk X.prog X.w (upd H s.heap.objs.size (.tup [.int (i : Nat), x])) h'' s.heap.objs.size (.tup [.int (i : Nat), x]) := ⟨by show 2 ≤ sizeLine; decide, [.int i tk, v], .cons ⟨_, rfl⟩ (.cons ru .nil), ⟨_, hT2, rfl, _, rfl⟩⟩
    have I1 : Inv X pins σ (upd H s.heap.objs.size (.tup [.int (i : Nat), x])) { s with heap := h'', toks := tk + 1 } :=
      I.turnedNew (ch := [e, it]) (fun b ob hb q => (sb.2 b (fun z => hb (by simp [z]))).trans (hk b ob (fun z => hb (by simp [z])) (fun z => hb (by simp [z])) q)) hf (Nat.le_refl _) new
    refine ⟨.ref s.heap.objs.size, _, I1, rfl, ⟨_, x, rfl, I.hok.fresh (Nat.le_refl _), rfl, fun l hl => by rw [I.tuple_inj hl hqx]; exact hx⟩, ⟨⟨v, ?_⟩, ?_, hne⟩, fun b hb => ?_⟩
    · have e1 : ((i + 1 : Nat) : Int) = (i : Int) + 1 := by omega
      rw [e1]; exact he'
    · exact hit'.1.at fun o q => (sb.2 it (Ne.symm hne)).trans q
    · have hb' : b < s.heap.objs.size := by
        have e' : b = e ∨ b = it := by simpa using hb
        rcases e' with z | z
        · rw [z]; exact hel
        · rw [z]; exact hil
      rw [upd_ne (Nat.ne_of_lt hb')]
      exact (hf b hb).1
  done := by
    intro X hP hw hK hc i pins s σ H E I hf st hg
    subst hP hw hK
    obtain ⟨⟨old, he⟩, hit, hne⟩ := st
    obtain ⟨xs, hqx, rfl⟩ := hg
    obtain ⟨us, rv, p, _⟩ := I.tuple hqx
    obtain ⟨f0, f1, f2, f3, f4, f5⟩ := hf it (by simp)
    have hh : X.A.in1.handled = none := I.ok.hd hc
    have lu : us.toArray.size = xs.length := by rw [List.size_toArray, ← rv.length]
    exact wpAny_pyNext_enum_endD (Draws.tuple hh it a ha us.toArray) he (by rw [lu]; exact ⟨hit, p⟩) fun h' eb => ⟨rfl, I.turned (t' := s.toks) (fun b o hb q => eb b o hb q) f0 f1 f3 f4 f5⟩
  self := fun A i s Q E st h => let ⟨⟨_, he⟩, _⟩ := st; wpAny_pyIter_enum he h
end JsZ
namespace L2
open PySem PySem.Spec PyProof.Rows
def iEnumT (K : PySem.W.Frag) (ta : TA) : TI := fun σ H R => ta σ H fun vs H1 => ∃ a xs, vs = [.ref a] ∧ SqT K H1 a xs ∧ R (JsZ.ItE K a) H1
theorem pi_enumT {X : Cx} {e : Expr} {ta : TA} {p pos tpos : Pos} {elts : List Expr} {kk : Nat} (hg : Gl X "enumerate") (hm : X.mg "enumerate" = none) (ha : PA X [e] ta) (hs : starEach [e] X.env = [(false, eval e X.env)] := by rfl) :
    PI X (.Tuple elts kk tpos) (.Call (.Name "enumerate" p) [e] [] pos) (iEnumT X.K ta) := by
  refine ⟨fun pins s σ H R I h => ?_⟩
  refine Call_ (ld_blt I hg hm boot_enumerate (PyProof.Rows.callWith_type1 (thn (ha.run pos pins s σ H _ I h) fun us s1 ⟨vs, H1, I1, r1, q1⟩ => ?_) hs rfl))
  obtain ⟨a, xs, ex, hqx, q⟩ := q1
  subst ex
  obtain ⟨u, rfl, ru⟩ := vals1 r1
  cases (show u = Value.ref a from ru)
  obtain ⟨its, rv, p1, _⟩ := I1.tuple hqx
  obtain ⟨o1, ho1, _⟩ := id p1
  have la := Heap.lt_size ho1
  refine JsZ.call_enumT p1 fun h' he hit hsz hk => wpAny_pyIter_enum he ?_
  have I2 : Inv X pins σ H1 { s1 with heap := h' } := I1.kept (t' := s1.toks) hk
  refine ⟨s1.heap.objs.size + 1, [s1.heap.objs.size + 1, s1.heap.objs.size], _, _, H1, rfl, I2, JsZ.turn_E a (s1.heap.objs.size + 1) s1.heap.objs.size (Nat.ne_of_lt la) (fun z => absurd la (by rw [← z]; exact Nat.not_lt.mpr (Nat.le_succ _))), ⟨⟨.none, he⟩, hit, Nat.succ_ne_self _⟩, fun b hb => ?_, q⟩
  have e' : b = s1.heap.objs.size + 1 ∨ b = s1.heap.objs.size := by simpa using hb
  have hle : s1.heap.objs.size ≤ b := by
    rcases e' with z | z
    · rw [z]; exact Nat.le_add_right _ _
    · rw [z]; exact Nat.le_refl _
  exact I1.fpOk hle (I1.hok.fresh hle)
theorem walk_enumT {K : PySem.W.Frag} {a : Addr} {xs : List V} : Walk (JsZ.ItE K a) xs.length (fun H => SqT K H a xs) (fun i H v H' => ∃ T x, v = .ref T ∧ H T = none ∧ H' = upd H T (.tup [.int (i : Nat), x]) ∧ xs[i]? = some x) :=
  ⟨fun i H hi hq => ⟨xs, xs[i], hq, List.getElem?_eq_getElem hi⟩, fun H hq => ⟨xs, hq, rfl⟩, fun i H v H' hi hq y => by
      obtain ⟨T, x, e1, e2, e3, e4⟩ := y
      exact ⟨T, x, e1, e2, e3, e4 xs hq⟩⟩
end L2
set_option Elab.async false
set_option linter.all false
set_option maxRecDepth 100000
set_option maxHeartbeats 2000000
namespace Js
open PySem L2
abbrev sLay : Stmt := top 28
def Dd.isW : Dd → Bool
  | .wh _ _ => true
  | _ => false
def Dd.isF : Dd → Bool
  | .iff _ _ _ => true
  | _ => false
theorem kind_w : ∀ d : Dd, decide (V.str (kindOf d) = V.str "while") = d.isW
  | .told _ _ => (by decide +kernel : decide (V.str (("told" : Str)) = V.str "while") = false)
  | .take false _ _ => (by decide +kernel : decide (V.str (("first" : Str)) = V.str "while") = false)
  | .take true _ _ => (by decide +kernel : decide (V.str (("second" : Str)) = V.str "while") = false)
  | .two false _ _ _ => (by decide +kernel : decide (V.str (("pair" : Str)) = V.str "while") = false)
  | .two true _ _ _ => (by decide +kernel : decide (V.str (("same" : Str)) = V.str "while") = false)
  | .wh _ _ => (by decide +kernel : decide (V.str (("while" : Str)) = V.str "while") = true)
  | .iff _ _ _ => (by decide +kernel : decide (V.str (("if" : Str)) = V.str "while") = false)
theorem kind_f : ∀ d : Dd, (!decide (V.str (kindOf d) = V.str "if")) = !d.isF
  | .told _ _ => (by decide +kernel : (!decide (V.str (("told" : Str)) = V.str "if")) = true)
  | .take false _ _ => (by decide +kernel : (!decide (V.str (("first" : Str)) = V.str "if")) = true)
  | .take true _ _ => (by decide +kernel : (!decide (V.str (("second" : Str)) = V.str "if")) = true)
  | .two false _ _ _ => (by decide +kernel : (!decide (V.str (("pair" : Str)) = V.str "if")) = true)
  | .two true _ _ _ => (by decide +kernel : (!decide (V.str (("same" : Str)) = V.str "if")) = true)
  | .wh _ _ => (by decide +kernel : (!decide (V.str (("while" : Str)) = V.str "if")) = true)
  | .iff _ _ _ => (by decide +kernel : (!decide (V.str (("if" : Str)) = V.str "if")) = false)
def wayL : List (List Dd) → Nat → Nat → List Nat
  | [], _, _ => []
  | r :: rs, b, n => (if r.isEmpty then b else n) :: wayL rs b (n + manyR r)
def layL : List (List Dd) → Nat → Nat → List (Dd × List Nat)
  | [], _, _ => []
  | r :: rs, b, n => layR r b n ++ layL rs b (n + manyR r)
def Dd.back (d : Dd) (f n : Nat) : Nat := if d.isW then n else f
def Dd.ways (d : Dd) (f n : Nat) : List Nat := wayL d.rows (d.back f n) (n + 1) ++ (if d.isF then [] else [f])
theorem lay_rows : ∀ (d : Dd) (f n : Nat), d.lay f n = (d, d.ways f n) :: layL d.rows (d.back f n) (n + 1)
  | .told _ _, _, _ => rfl
  | .take _ _ _, _, _ => rfl
  | .two _ _ _ _, _, _ => rfl
  | .wh a r, f, n => by
    rw [Dd.lay]
    simp [Dd.ways, Dd.back, Dd.isW, Dd.isF, Dd.rows, wayL, layL]
  | .iff a r o, f, n => by
    rw [Dd.lay]
    simp [Dd.ways, Dd.back, Dd.isW, Dd.isF, Dd.rows, wayL, layL]
theorem layL_len : ∀ (rs : List (List Dd)) (b n : Nat), (layL rs b n).length = manyL rs
  | [], _, _ => rfl
  | r :: rs, b, n => by rw [layL, List.length_append, layR_len, layL_len rs, manyL]
theorem layL_app : ∀ (a c : List (List Dd)) (b n : Nat), layL (a ++ c) b n = layL a b n ++ layL c b (n + manyL a)
  | [], c, b, n => by rw [List.nil_append, manyL, layL, List.nil_append, Nat.add_zero]
  | r :: a, c, b, n => by rw [List.cons_append, layL, layL_app a c, layL, manyL, List.append_assoc, Nat.add_assoc]
theorem layL_one (r : List Dd) (b n : Nat) : layL [r] b n = layR r b n := by rw [layL, layL, List.append_nil]
theorem wayL_app : ∀ (a c : List (List Dd)) (b n : Nat), wayL (a ++ c) b n = wayL a b n ++ wayL c b (n + manyL a)
  | [], c, b, n => by rw [List.nil_append, manyL, wayL, List.nil_append, Nat.add_zero]
  | r :: a, c, b, n => by rw [List.cons_append, wayL, wayL_app a c, wayL, manyL, List.cons_append, Nat.add_assoc]
theorem wayL_one (r : List Dd) (b n : Nat) : wayL [r] b n = [if r.isEmpty then b else n] := rfl
theorem wayL_len : ∀ (rs : List (List Dd)) (b n : Nat), (wayL rs b n).length = rs.length
  | [], _, _ => rfl
  | r :: rs, b, n => by rw [wayL, List.length_cons, wayL_len rs, List.length_cons]
theorem take_over {α : Type} (L R : List α) (k m : Nat) (h : L.length = k) : (L ++ R).take (k + m) = L ++ R.take m := by
  subst h
  exact List.take_length_add_append m
theorem lay_step : ∀ (r : List Dd) (b n i : Nat) (d : Dd), r[i]? = some d →
    (layR r b n).take (manyR (r.take (i + 1))) = (layR r b n).take (manyR (r.take i)) ++ d.lay (if i + 1 < r.length then n + manyR (r.take i) + d.many else b) (n + manyR (r.take i))
  | e :: r, b, n, 0, d, h => by
    cases Option.some.inj h
    have t0 := take_over (e.lay (if r.isEmpty = true then b else n + e.many) n) (layR r b (n + e.many)) e.many 0 (lay_len _ _ _)
    rw [List.take_zero, List.append_nil] at t0
    show (layR (e :: r) b n).take (manyR [e]) = (layR (e :: r) b n).take 0 ++ e.lay (if 0 + 1 < (e :: r).length then n + 0 + e.many else b) (n + 0)
    rw [manyR_one, List.take_zero, List.nil_append, layR]
    refine t0.trans ?_
    cases r with
    | nil => rfl
    | cons x y =>
      rw [if_pos (show 0 + 1 < (e :: x :: y).length by simp only [List.length_cons]; omega)]
      rfl
  | e :: r, b, n, i + 1, d, h => by
    have ih := lay_step r b (n + e.many) i d h
    rw [List.take_succ_cons, List.take_succ_cons, many_cons, many_cons, layR, take_over _ _ _ _ (lay_len _ _ _), take_over _ _ _ _ (lay_len _ _ _), ih, List.append_assoc]
    have ec : (i + 1 + 1 < (e :: r).length) = (i + 1 < r.length) := by
      rw [List.length_cons]
      exact propext ⟨fun h => by omega, fun h => by omega⟩
    simp only [ec, Nat.add_assoc]
theorem seq_via {ta : TE} {g : TG} {rest : TS} {D : Ends} {σ : L2.St} {H : Hp} (v : V) (h : ∀ R : VK, R v H → ta σ H R) (k : g v σ H (rest D)) : tSeq (tAsg ta g) rest D σ H := h _ k
theorem via {T : VK → Prop} {K0 : VK} (v : V) (H : Hp) (h : ∀ R : VK, R v H → T R) (k : K0 v H) : T K0 := h K0 k
theorem ends_at : ∀ (r : List Dd) (n i : Nat) (d : Dd), r[i]? = some d → ∃ rest, endsR r n = endsR (r.take i) n ++ (d.ends (n + manyR (r.take i)) ++ rest)
  | e :: r, n, 0, d, h => by
    cases Option.some.inj h
    exact ⟨endsR r (n + e.many), by rw [List.take_zero, many_nil, endsR, endsR, List.nil_append, Nat.add_zero]⟩
  | e :: r, n, i + 1, d, h => by
    obtain ⟨rest, ih⟩ := ends_at r (n + e.many) i d h
    exact ⟨rest, by rw [List.take_succ_cons, many_cons, endsR, ih, endsR, List.append_assoc, Nat.add_assoc]⟩
theorem endsL_at : ∀ (rs : List (List Dd)) (n j : Nat) (r : List Dd), rs[j]? = some r → ∃ rest, endsL rs n = endsL (rs.take j) n ++ (endsR r (n + manyL (rs.take j)) ++ rest)
  | e :: rs, n, 0, r, h => by
    cases Option.some.inj h
    exact ⟨endsL rs (n + manyR e), by rw [List.take_zero, manyL, endsL, endsL, List.nil_append, Nat.add_zero]⟩
  | e :: rs, n, j + 1, r, h => by
    obtain ⟨rest, ih⟩ := endsL_at rs (n + manyR e) j r h
    exact ⟨rest, by rw [List.take_succ_cons, manyL, endsL, ih, endsL, List.append_assoc, Nat.add_assoc]⟩
def Pre (E : List Nat) (k : Nat) (l : List Nat) : Prop := ∀ i x, l[i]? = some x → E[k + i]? = some x
theorem Pre.right {E : List Nat} {k : Nat} {a b : List Nat} (h : Pre E k (a ++ b)) : Pre E (k + a.length) b := fun i x e => by
  have := h (a.length + i) x (by rw [List.getElem?_append_right (Nat.le_add_right _ _), Nat.add_sub_cancel_left]; exact e)
  rw [Nat.add_assoc]
  exact this
theorem Pre.left {E : List Nat} {k : Nat} {a b : List Nat} (h : Pre E k (a ++ b)) : Pre E k a := fun i x e => h i x (by
  rw [List.getElem?_append_left (List.getElem?_eq_some_iff.mp e).1]
  exact e)
theorem Pre.whole (E : List Nat) : Pre E 0 E := fun i x e => by
  rw [Nat.zero_add]
  exact e
def PlE (K : PySem.W.Frag) (C : Addr) (H : Hp) (v : V) (x : Dd × List Nat) : Prop := ∃ t wv dv, v = .ref t ∧ H t = some (.tup [dv, .ref wv]) ∧ H wv = some (.tup (numsV x.2)) ∧ DAt K C H dv x.1
theorem PlE.kt {K : PySem.W.Frag} {C : Addr} {H H' : Hp} (k : KT H H') {v : V} {x : Dd × List Nat} (h : PlE K C H v x) : PlE K C H' v x := by
  obtain ⟨t, wv, dv, e, h1, h2, h3⟩ := h
  exact ⟨t, wv, dv, e, k _ _ h1 (fun _ e => nomatch e), k _ _ h2 (fun _ e => nomatch e), DAt_kt k _ _ h3⟩
theorem pls_kt {K : PySem.W.Frag} {C : Addr} {H H' : Hp} (k : KT H H') : ∀ {ys : List V} {ps : List (Dd × List Nat)}, Paired (PlE K C H) ys ps → Paired (PlE K C H') ys ps
  | _, _, .nil => .nil
  | _, _, .cons h t => .cons (h.kt k) (pls_kt k t)
theorem paired_app {α β : Type} {R : α → β → Prop} : ∀ {xs : List α} {ys : List β} {xs' : List α} {ys' : List β}, Paired R xs ys → Paired R xs' ys' → Paired R (xs ++ xs') (ys ++ ys')
  | _, _, _, _, .nil, h => h
  | _, _, _, _, .cons h t, h' => .cons h (paired_app t h')
def spLay (K : PySem.W.Frag) (C : Addr) (n : Nat) : Sp := fun vs H Q _ => ∃ (q e p : Addr) (f : Nat) (r : List Dd) (E : List Nat) (xs : List V), vs = [.ref q, .int (f : Nat), .ref e, .ref p] ∧ RAt K C H q r ∧ deepR r < n ∧ H e = some (.lst (numsV E)) ∧ Pre E xs.length (endsR r xs.length) ∧
  H p = some (.lst xs) ∧ e ≠ p ∧ xs.length + manyR r ≤ 4000 ∧ ∀ H' ys, KB p H H' → H' p = some (.lst (xs ++ ys)) → Paired (PlE K C H') ys (layR r f xs.length) → Q .non H'
section
variable {P : Program} {w : World} {K : PySem.W.Frag} {mg : Str → Option Value} {base : Heap} {C : Addr}
theorem scLy : FnScope ["row", "behind", "ends", "plan", "at", "deed", "point", "after", "back", "ways", "part"] ["row", "behind", "ends", "plan"] (defScope sLay) := ⟨rfl, rfl, rfl, by decide +kernel, rfl, by decide +kernel, by decide +kernel⟩
theorem ok_lay {f : Addr} {fd : FuncData} (F : Fun K "lay_out" "lay_out" sLay f fd) (mgf : mg "lay_out" = some (.ref f)) (b : Binds K fd ["row", "behind", "ends", "plan"] []) (B : Blt mg) (G : FrmC K w mg)
    (DR : Def P w K mg base "rows_in" 1 ["deed"] (spRowsIn K C)) : ∀ n, FnOk P w K mg base CX0 (n + 2) f fd ["row", "behind", "ends", "plan"] (spLay K C n) := by
  intro n
  induction n with
  | zero =>
    refine F.ok scLy (fun vs H Q E h => ?_) (fun cdv A outer s H vs Q E hr h => ?_)
    · obtain ⟨q, e, p, f, r, E, xs, rfl, _⟩ := h
      rfl
    · obtain ⟨q, e, p, f, r, E, xs, _, _, h, _⟩ := h
      exact absurd h (Nat.not_lt_zero _)
  | succ n G' =>
  refine F.ok scLy (fun vs H Q E h => ?_) (fun cdv A outer s H vs Q E hr h => ?_)
  · obtain ⟨q, e, p, f, r, E, xs, rfl, _⟩ := h
    rfl
  · obtain ⟨q, e, p, f, r, En, xs, rfl, ⟨vs, hq, hvs⟩, hdp, he, hpre, hp, hep, hmany, k⟩ := h
    have hr1 : Room 1 _ := hr.mono (by omega)
    refine ⟨_, pss_one (ps_for PassesOwn.never rfl (pi_enumT rfl G.me (pa_cons (pv 0) pa_nil)) (pg_tup rfl (pgs_cons (pg_name (i := 4) scLy.nd rfl (Or.inl rfl)) (pgs_cons (pg_name (i := 5) scLy.nd rfl (Or.inl rfl)) pgs_nil))) (pss_cons (ps_set (i := 6) scLy.nd rfl (Or.inl rfl) (pe_callB call_len_seq (by rfl) B.len PySem.boot_len (pa_cons (pv 3) pa_nil))) (pss_cons (ps_set (i := 7) scLy.nd rfl (Or.inl rfl) (pe_ifExp (pt_cmpR op_lt (pe_op op_add (pv 4) pe_int) (pe_callB call_len_seq (by rfl) B.len PySem.boot_len (pa_cons (pv 0) pa_nil)) (nomark _)) (pe_ix (r := rIxL K) ix_list (pv 2) (pv 6) (fun _ _ => rfl)) (pv 1))) (pss_cons (ps_set (i := 8) scLy.nd rfl (Or.inl rfl) (pe_ifExp (pt_cmpR op_eq (pe_ix (r := rIxT K) ix_tup (pv 5) pe_int (fun _ _ => rfl)) pe_str (nomark _)) (pv 6) (pv 7))) (pss_cons (ps_expr (pe_bm PySem.F.plainAttrs_list PySem.F.slot_list_append PySem.F.type_list_append mt_append (pv 3) (pa_cons pe_non pa_nil))) (pss_cons (ps_set (i := 9) scLy.nd rfl (Or.inl rfl) (pe_lst pa_nil)) (pss_cons (ps_for PassesOwn.never rfl (pi_tup (pe_def DR hr1 rfl (pa_cons (pv 5) pa_nil))) (pg_name (i := 10) scLy.nd rfl (Or.inl rfl)) (pss_cons (ps_expr (pe_bm PySem.F.plainAttrs_list PySem.F.slot_list_append PySem.F.type_list_append mt_append (pv 9) (pa_cons (pe_ifExp (pt_truth (pv 10) (by intro _; rfl)) (pe_callB call_len_seq (by rfl) B.len PySem.boot_len (pa_cons (pv 3) pa_nil)) (pv 8)) pa_nil))) (pss_one (ps_expr (pe_call G' hr rfl mgf F.kp b .nil pass0 (pa_cons (pv 10) (pa_cons (pv 8) (pa_cons (pv 2) (pa_cons (pv 3) pa_nil))))))))) (pss_cons (ps_if (pt_cmpR op_ne (pe_ix (r := rIxT K) ix_tup (pv 5) pe_int (fun _ _ => rfl)) pe_str (nomark _)) (pss_one (ps_expr (pe_bm PySem.F.plainAttrs_list PySem.F.slot_list_append PySem.F.type_list_append mt_append (pv 9) (pa_cons (pv 7) pa_nil)))) pss_nil) (pss_one (ps_asg (pe_tup (pa_cons (pv 5) (pa_cons (pe_callTy call_tuple_of (by rfl) G.mt PyProof.Rows.boot_tuple (pa_cons (pv 9) pa_nil)) pa_nil))) (pg_sub (pv 3) (pv 6) set_list))))))))))), ?_⟩
    have hsl := line4
    have hlen := DsAt.length r vs hvs
    refine ⟨_, rfl, q, vs, rfl, hq, for_it (walk_enumT (K := K) (a := q) (xs := vs)) (fun i σ H' => ∃ x4 x5 x6 x7 x8 x9 x10 : Option V, ∃ ys : List V, σ = [some (.ref q), some (.int (f : Nat)), some (.ref e), some (.ref p), x4, x5, x6, x7, x8, x9, x10] ∧ KB p H H' ∧ H' p = some (.lst (xs ++ ys)) ∧ Paired (PlE K C H') ys ((layR r f xs.length).take (manyR (r.take i)))) ⟨none, none, none, none, none, none, none, [], rfl, KB.refl p H, by rw [List.append_nil]; exact hp, by rw [List.take_zero, many_nil, List.take_zero]; exact .nil⟩ ?_ ?_ ?_⟩
    · rintro i σ H1 _ ⟨x4, x5, x6, x7, x8, x9, x10, ys, rfl, kb1, hp1, hys⟩
      exact sqt_kt (kb1.kt hp) hq
    · rintro i y σ H1 H2 hi ⟨x4, x5, x6, x7, x8, x9, x10, ys, rfl, kb1, hp1, hys⟩ ⟨T, v, rfl, nT, rfl, hv⟩
      obtain ⟨d, hd, hdv⟩ := DsAt.get r vs i v hvs hv
      have hdd := deepR_mem r d (List.mem_of_getElem? hd)
      have hmt := manyR_take r i d hd
      have hpos := many_pos d
      have hmr := many_rows d
      have sT := Same.new nT (o := .tup [.int (i : Nat), v])
      have kb2 : KB p H (upd H1 T (.tup [.int (i : Nat), v])) := kb1.trans (KB.of sT)
      have hp2 := sT _ _ hp1
      have hys2 := pls_kt (KT.of sT) hys
      have hdv2 : DAt K C (upd H1 T (.tup [.int (i : Nat), v])) v d := DAt_kt (kb2.kt hp) d v hdv
      have hq2 : SqT K (upd H1 T (.tup [.int (i : Nat), v])) q vs := sqt_kt (kb2.kt hp) hq
      have he2 := kb2 _ _ hep he
      have hT2 : (upd H1 T (.tup [.int (i : Nat), v])) T = some (.tup [.int (i : Nat), v]) := upd_same
      revert kb2 hp2 hys2 hdv2 hq2 he2 hT2
      generalize upd H1 T (.tup [.int (i : Nat), v]) = H2
      intro kb2 hp2 hys2 hdv2 hq2 he2 hT2
      refine ⟨T, _, rfl, SqT.of hT2, rfl, _, _, rfl, _, _, rfl, rfl, ?_⟩
      obtain ⟨pt, hpt⟩ : ∃ pt, xs.length + manyR (r.take i) = pt := ⟨_, rfl⟩
      have lys : ys.length = manyR (r.take i) := by
        rw [Paired.length hys, List.length_take, layR_len]
        omega
      have lxy : (xs ++ ys).length = pt := by rw [List.length_append, lys, hpt]
      refine ⟨_, rfl, p, _, rfl, .inl (SqL.of hp2), ?_⟩
      rw [lxy]
      -- after
      obtain ⟨af, haf⟩ : ∃ af, (if i + 1 < r.length then pt + d.many else f) = af := ⟨_, rfl⟩
      obtain ⟨rest, hen⟩ := ends_at r xs.length i d hd
      have hpre2 : Pre En pt (d.ends pt) := by
        rw [hen] at hpre
        have := hpre.right
        rw [endsR_len, hpt] at this
        exact this.left
      have hpre3 : En[pt]? = some (pt + d.many) := by
        have := hpre2 0 (pt + d.many) (by rw [ends_rows]; rfl)
        exact this
      dsimp only [gName]
      refine seq_via (.int (af : Nat)) (fun R hR => ?_) ?_
      · refine ⟨_, rfl, _, _, rfl, rfl, _, rfl, q, vs, rfl, .inr hq2, _, _, rfl, rfl, _, rfl, ?_⟩
        rw [hlen]
        by_cases hlt : i + 1 < r.length
        · rw [decide_eq_true (show ((i : Nat) : Int) + 1 < ((r.length : Nat) : Int) by omega)]
          refine iteT ?_
          rw [if_pos hlt] at haf
          refine ⟨_, rfl, _, rfl, e, _, _, .int (af : Nat), rfl, rfl, SqL.of he2, ?_, hR⟩
          refine atI_nat ?_
          rw [numsV, List.getElem?_map, hpre3, ← haf]
          rfl
        · rw [decide_eq_false (show ¬ ((i : Nat) : Int) + 1 < ((r.length : Nat) : Int) by omega)]
          refine iteF ?_
          rw [if_neg hlt] at haf
          subst haf
          exact ⟨_, rfl, hR⟩
      -- back
      obtain ⟨pd, its, ev, hpd, _⟩ := shape d hdv2
      subst ev
      refine seq_via (.int ((d.back af pt : Nat) : Int)) (fun R hR => ?_) ?_
      · refine ⟨_, rfl, pd, _, 0, _, rfl, rfl, hpd, at0 _ _, rfl, _, rfl, ?_⟩
        rw [kind_w]
        unfold Dd.back at hR
        cases hw : d.isW with
        | true =>
          rw [hw] at hR
          exact iteT ⟨_, rfl, hR⟩
        | false =>
          rw [hw] at hR
          exact iteF ⟨_, rfl, hR⟩
      obtain ⟨bk, hbk⟩ : ∃ bk, d.back af pt = bk := ⟨_, rfl⟩
      rw [hbk]
      refine ⟨_, rfl, .inl ⟨rfl, _, SqL.of hp2⟩, p, _, _, rfl, rfl, hp2, by omega, ?_⟩
      have kb3 : KB p H (upd H2 p (.lst (xs ++ ys ++ [.non]))) := kb2.trans KB.set
      have kt3 : KT H2 (upd H2 p (.lst (xs ++ ys ++ [.non]))) := KT.lst hp2
      have hp3 : (upd H2 p (.lst (xs ++ ys ++ [.non]))) p = some (.lst (xs ++ ys ++ [.non])) := upd_same
      have he3 : (upd H2 p (.lst (xs ++ ys ++ [.non]))) e = some (.lst (numsV En)) := by rw [upd_ne hep]; exact he2
      revert kb3 kt3 hp3 he3
      generalize upd H2 p (.lst (xs ++ ys ++ [.non])) = H3
      intro kb3 kt3 hp3 he3
      refine ⟨Nat.zero_le _, fun wl nwl => ?_⟩
      have s4 : Same H3 (upd H3 wl (.lst [])) := Same.new nwl
      have hwl4 : (upd H3 wl (.lst [])) wl = some (.lst []) := upd_same
      have hwp : wl ≠ p := fun z => by rw [z, hp3] at nwl; cases nwl
      have hwe : wl ≠ e := fun z => by rw [z, he3] at nwl; cases nwl
      have nwH : H wl = none := by
        cases hw : H wl with
        | none => rfl
        | some o =>
          have := kb3 _ _ hwp hw
          rw [nwl] at this
          cases this
      revert s4 hwl4
      generalize upd H3 wl (.lst []) = H4
      intro s4 hwl4
      have kt24 : KT H2 H4 := kt3.trans (KT.of s4)
      have hdv4 := DAt_kt kt24 d _ hdv2
      refine ⟨_, rfl, _, d, rfl, hdv4, fun ip ws H5 s5 hip hws => ?_⟩
      have hwl5 := Paired.length hws
      have kb5 : KB p H H5 := (kb3.trans (KB.of s4)).trans (KB.of s5)
      have kt25 : KT H2 H5 := kt24.trans (KT.of s5)
      have hp5 := s5 _ _ (s4 _ _ hp3)
      have he5 := s5 _ _ (s4 _ _ he3)
      have hw5 := s5 _ _ hwl4
      refine ⟨ip, rfl, ⟨_, hip⟩, for_tup (K := K) (a := ip) (xs := ws) (fun j σ H' => ∃ (x10 : Option V) (zs : List V), σ = [some (.ref q), some (.int (f : Nat)), some (.ref e), some (.ref p), some (.int (i : Nat)), some (.ref pd), some (.int (pt : Nat)), some (.int (af : Nat)), some (.int (bk : Nat)), some (.ref wl), x10] ∧ KB p H H' ∧ KT H5 H' ∧ H' e = some (.lst (numsV En)) ∧ H' wl = some (.lst (numsV (wayL (d.rows.take j) bk (pt + 1)))) ∧ H' p = some (.lst (xs ++ ys ++ [.non] ++ zs)) ∧ Paired (PlE K C H') zs (layL (d.rows.take j) bk (pt + 1))) ⟨_, [], rfl, kb5, KT.refl H5, he5, hw5, by rw [List.append_nil]; exact hp5, .nil⟩ ?_ ?_ ?_⟩
      · rintro j σ H6 _ ⟨x10, zs, rfl, kb6, kt6, he6, hw6, hp6, hzs⟩
        exact sqt_kt kt6 hip
      · rintro j v10 σ H6 hv10 ⟨x10, zs, rfl, kb6, kt6, he6, hw6, hp6, hzs⟩
        obtain ⟨r6, hr6, q6, rfl, hq6⟩ := paired_get hws hv10
        have hml := manyL_take d.rows j r6 hr6
        have hdl := deepL_mem d.rows r6 (List.mem_of_getElem? hr6)
        have hne : d.rows ≠ [] := fun z => by
          rw [z] at hr6
          cases hr6
        have hdr := deep_rows d hne
        have hjl := (List.getElem?_eq_some_iff.mp hv10).1
        have lzs : zs.length = manyL (d.rows.take j) := by rw [Paired.length hzs, layL_len]
        have lp6 : (xs ++ ys ++ [V.non] ++ zs).length = pt + 1 + manyL (d.rows.take j) := by
          rw [List.length_append, List.length_append, lxy, lzs]
          rfl
        obtain ⟨vs6, hsq6, hds6⟩ := hq6.kt kt6
        have l6 := DsAt.length r6 vs6 hds6
        refine ⟨_, rfl, .inl ⟨rfl, _, SqL.of hw6⟩, ?_⟩
        refine via (T := (tIf _ _ _) _ H6) (.int (((if r6.isEmpty then bk else pt + 1 + manyL (d.rows.take j) : Nat)) : Int)) H6 (fun R hR => ?_) ?_
        · refine ⟨_, rfl, !vs6.isEmpty, .inr (.inl ⟨vs6, hsq6, rfl⟩), ?_⟩
          cases r6 with
          | nil =>
            cases vs6 with
            | nil => exact iteF ⟨_, rfl, hR⟩
            | cons x y => cases l6
          | cons x y =>
            cases vs6 with
            | nil => cases l6
            | cons x' y' =>
              refine iteT ⟨_, rfl, p, _, rfl, .inl (SqL.of hp6), ?_⟩
              rw [lp6]
              exact hR
        obtain ⟨wn, hwn⟩ : ∃ wn, (if r6.isEmpty then bk else pt + 1 + manyL (d.rows.take j) : Nat) = wn := ⟨_, rfl⟩
        rw [hwn]
        have hrl : d.rows.length ≤ 2 := by
          cases d <;> simp [Dd.rows]
        refine ⟨wl, _, _, rfl, rfl, hw6, by rw [numsV_len, wayL_len, List.length_take]; omega, ?_⟩
        have kt7 : KT H6 (upd H6 wl (.lst (numsV (wayL (d.rows.take j) bk (pt + 1)) ++ [.int (wn : Nat)]))) := KT.lst hw6
        have e7 : numsV (wayL (d.rows.take j) bk (pt + 1)) ++ [.int (wn : Nat)] = numsV (wayL (d.rows.take (j + 1)) bk (pt + 1)) := by
          rw [take_snoc hr6, wayL_app, wayL_one, numsV_app, hwn]
          rfl
        rw [e7] at kt7 ⊢
        have hw7 : (upd H6 wl (.lst (numsV (wayL (d.rows.take (j + 1)) bk (pt + 1))))) wl = some (.lst (numsV (wayL (d.rows.take (j + 1)) bk (pt + 1)))) := upd_same
        have he7 : (upd H6 wl (.lst (numsV (wayL (d.rows.take (j + 1)) bk (pt + 1))))) e = some (.lst (numsV En)) := by rw [upd_ne (Ne.symm hwe)]; exact he6
        have hp7 : (upd H6 wl (.lst (numsV (wayL (d.rows.take (j + 1)) bk (pt + 1))))) p = some (.lst (xs ++ ys ++ [.non] ++ zs)) := by rw [upd_ne (Ne.symm hwp)]; exact hp6
        have kb7 : KB p H (upd H6 wl (.lst (numsV (wayL (d.rows.take (j + 1)) bk (pt + 1))))) := fun a o na ha => by
          rw [upd_ne (ne_of_none ha nwH)]
          exact kb6 _ _ na ha
        revert kt7 hw7 he7 hp7 kb7
        generalize upd H6 wl (.lst (numsV (wayL (d.rows.take (j + 1)) bk (pt + 1)))) = H7
        intro kt7 hw7 he7 hp7 kb7
        have hpre7 : Pre En (xs ++ ys ++ [V.non] ++ zs).length (endsR r6 (xs ++ ys ++ [V.non] ++ zs).length) := by
          rw [lp6]
          have h1 : Pre En (pt + 1) (endsL d.rows (pt + 1)) := by
            have := hpre2
            rw [ends_rows] at this
            exact Pre.right (a := [pt + d.many]) this
          obtain ⟨rest2, hen2⟩ := endsL_at d.rows (pt + 1) j r6 hr6
          rw [hen2] at h1
          have h2 := h1.right
          rw [endsL_len] at h2
          exact h2.left
        refine ⟨_, rfl, _, rfl, _, rfl, _, rfl, q6, e, p, bk, r6, En, _, rfl, (hq6.kt kt6).kt kt7, by omega, he7, hpre7, hp7, hep, by rw [lp6]; omega, fun H8 zs2 kb8 hp8 hzs2 => ?_⟩
        have kt8 : KT H7 H8 := kb8.kt hp7
        rw [lp6] at hzs2
        refine ⟨_, zs ++ zs2, rfl, kb7.trans kb8, (kt6.trans kt7).trans kt8, kb8 _ _ hep he7, kb8 _ _ hwp hw7, by rw [hp8, List.append_assoc (xs ++ ys ++ [V.non])], ?_⟩
        rw [take_snoc hr6, layL_app, layL_one]
        exact paired_app (pls_kt (kt7.trans kt8) hzs) hzs2
      · rintro σ H6 ⟨x10, zs, rfl, kb6, kt6, he6, hw6, hp6, hzs⟩
        rw [hwl5, List.take_length] at hw6 hzs
        have hpd6 := sqt_kt (kt25.trans kt6) hpd
        refine ⟨_, rfl, pd, _, 0, _, rfl, rfl, hpd6, at0 _ _, rfl, _, rfl, ?_⟩
        rw [kind_f]
        cases hF : d.isF with
        | true =>
          refine iteF ?_
          have ew : wayL d.rows bk (pt + 1) = d.ways af pt := by
            rw [Dd.ways, hbk, hF, if_pos rfl, List.append_nil]
          rw [ew] at hw6
          refine ⟨_, rfl, _, rfl, wl, _, rfl, .inl ⟨SqL.of hw6, fun wt nwt => ?_⟩⟩
          have s8 : Same H6 (upd H6 wt (.tup (numsV (d.ways af pt)))) := Same.new nwt
          have hwt8 : (upd H6 wt (.tup (numsV (d.ways af pt)))) wt = some (.tup (numsV (d.ways af pt))) := upd_same
          revert s8 hwt8
          generalize upd H6 wt (.tup (numsV (d.ways af pt))) = H8
          intro s8 hwt8
          refine ⟨by show 2 ≤ sizeLine; decide, fun tt ntt => ?_⟩
          have s9 : Same H8 (upd H8 tt (.tup [.ref pd, .ref wt])) := Same.new ntt
          have htt9 : (upd H8 tt (.tup [.ref pd, .ref wt])) tt = some (.tup [.ref pd, .ref wt]) := upd_same
          revert s9 htt9
          generalize upd H8 tt (.tup [.ref pd, .ref wt]) = H9
          intro s9 htt9
          have s79 := s8.trans s9
          have hp9 := s79 _ _ hp6
          have kt9 : KT H9 (upd H9 p (.lst ((xs ++ ys ++ [V.non] ++ zs).set pt (.ref tt)))) := KT.lst hp9
          refine ⟨_, rfl, _, rfl, p, _, _, pt, rfl, rfl, hp9, ixN_at _ _ (by rw [List.length_append, List.length_append, lxy]; simp only [List.length_cons]; omega), ?_⟩
          have es : (xs ++ ys ++ [V.non] ++ zs).set pt (.ref tt) = xs ++ (ys ++ (.ref tt :: zs)) := by
            rw [List.append_assoc (xs ++ ys), List.set_append_right _ _ (by rw [lxy]; exact Nat.le_refl _), lxy, Nat.sub_self, List.append_assoc]
            rfl
          have ktz : KT H2 (upd H9 p (.lst ((xs ++ ys ++ [V.non] ++ zs).set pt (.ref tt)))) := ((kt25.trans kt6).trans (KT.of s79)).trans kt9
          refine ⟨_, _, _, _, _, _, _, ys ++ (.ref tt :: zs), rfl, (kb6.trans (KB.of s79)).trans KB.set, by rw [upd_same, es], ?_⟩
          rw [lay_step r f xs.length i d hd, hpt, haf, lay_rows, hbk]
          refine paired_app (pls_kt ktz hys2) (.cons ⟨tt, wt, .ref pd, rfl, kt9 _ _ htt9 (fun _ e => nomatch e), kt9 _ _ (s9 _ _ hwt8) (fun _ e => nomatch e), DAt_kt ktz d _ hdv2⟩ (pls_kt ((KT.of s79).trans kt9) hzs))
        | false =>
          refine iteT ?_
          have hrl : d.rows.length ≤ 2 := by
            cases d <;> simp [Dd.rows]
          refine ⟨_, rfl, .inl ⟨rfl, _, SqL.of hw6⟩, _, rfl, wl, _, _, rfl, rfl, hw6, by rw [numsV_len, wayL_len]; omega, ?_⟩
          have ew : numsV (wayL d.rows bk (pt + 1)) ++ [.int (af : Nat)] = numsV (d.ways af pt) := by
            rw [Dd.ways, hbk, hF, if_neg Bool.false_ne_true, numsV_app]
            rfl
          rw [ew]
          have kt7 : KT H6 (upd H6 wl (.lst (numsV (d.ways af pt)))) := KT.lst hw6
          have hw7 : (upd H6 wl (.lst (numsV (d.ways af pt)))) wl = some (.lst (numsV (d.ways af pt))) := upd_same
          have hp7 : (upd H6 wl (.lst (numsV (d.ways af pt)))) p = some (.lst (xs ++ ys ++ [.non] ++ zs)) := by rw [upd_ne (Ne.symm hwp)]; exact hp6
          have kb7 : KB p H (upd H6 wl (.lst (numsV (d.ways af pt)))) := fun a o na ha => by
            rw [upd_ne (ne_of_none ha nwH)]
            exact kb6 _ _ na ha
          have hzs7 := pls_kt kt7 hzs
          revert kt7 hw7 hp7 kb7 hzs7
          generalize upd H6 wl (.lst (numsV (d.ways af pt))) = H7
          intro kt7 hw7 hp7 kb7 hzs7
          refine ⟨_, rfl, _, rfl, wl, _, rfl, .inl ⟨SqL.of hw7, fun wt nwt => ?_⟩⟩
          have s8 : Same H7 (upd H7 wt (.tup (numsV (d.ways af pt)))) := Same.new nwt
          have hwt8 : (upd H7 wt (.tup (numsV (d.ways af pt)))) wt = some (.tup (numsV (d.ways af pt))) := upd_same
          revert s8 hwt8
          generalize upd H7 wt (.tup (numsV (d.ways af pt))) = H8
          intro s8 hwt8
          refine ⟨by show 2 ≤ sizeLine; decide, fun tt ntt => ?_⟩
          have s9 : Same H8 (upd H8 tt (.tup [.ref pd, .ref wt])) := Same.new ntt
          have htt9 : (upd H8 tt (.tup [.ref pd, .ref wt])) tt = some (.tup [.ref pd, .ref wt]) := upd_same
          revert s9 htt9
          generalize upd H8 tt (.tup [.ref pd, .ref wt]) = H9
          intro s9 htt9
          have s79 := s8.trans s9
          have hp9 := s79 _ _ hp7
          have kt9 : KT H9 (upd H9 p (.lst ((xs ++ ys ++ [V.non] ++ zs).set pt (.ref tt)))) := KT.lst hp9
          refine ⟨_, rfl, _, rfl, p, _, _, pt, rfl, rfl, hp9, ixN_at _ _ (by rw [List.length_append, List.length_append, lxy]; simp only [List.length_cons]; omega), ?_⟩
          have es : (xs ++ ys ++ [V.non] ++ zs).set pt (.ref tt) = xs ++ (ys ++ (.ref tt :: zs)) := by
            rw [List.append_assoc (xs ++ ys), List.set_append_right _ _ (by rw [lxy]; exact Nat.le_refl _), lxy, Nat.sub_self, List.append_assoc]
            rfl
          have ktz : KT H2 (upd H9 p (.lst ((xs ++ ys ++ [V.non] ++ zs).set pt (.ref tt)))) := ((kt25.trans (kt6.trans kt7)).trans (KT.of s79)).trans kt9
          refine ⟨_, _, _, _, _, _, _, ys ++ (.ref tt :: zs), rfl, (kb7.trans (KB.of s79)).trans KB.set, by rw [upd_same, es], ?_⟩
          rw [lay_step r f xs.length i d hd, hpt, haf, lay_rows, hbk]
          refine paired_app (pls_kt ktz hys2) (.cons ⟨tt, wt, .ref pd, rfl, kt9 _ _ htt9 (fun _ e => nomatch e), kt9 _ _ (s9 _ _ hwt8) (fun _ e => nomatch e), DAt_kt ktz d _ hdv2⟩ (pls_kt ((KT.of s79).trans kt9) hzs7))
    · rintro σ H1 ⟨x4, x5, x6, x7, x8, x9, x10, ys, rfl, kb1, hp1, hys⟩
      rw [hlen, List.take_length, List.take_of_length_le (by rw [layR_len]; exact Nat.le_refl _)] at hys
      exact k H1 ys kb1 hp1 hys
end
end Js
set_option Elab.async false
set_option linter.all false
set_option maxRecDepth 100000
set_option maxHeartbeats 2000000
namespace Js
open PySem L2
open PySem.Spec PyProof.Rows
inductive Rw where
  | bad
  | told (a : Option Nat) (t : Tr)
  | take (s : Bool) (a b : Option Nat)
  | two (s : Bool) (a b c : Option Nat)
  | wh (a : Option Nat) (r : List Rw)
  | iff (a : Option Nat) (r o : List Rw)
def nmW : Option Nat → Option Nat
  | some a => if a < 10 then some a else none
  | none => none
mutual
def Rw.dd : Rw → Option Dd
  | .bad => none
  | .told a t => match nmW a with
    | some n => some (.told n t)
    | none => none
  | .take s a b => match nmW a, nmW b with
    | some n, some m => some (.take s n m)
    | _, _ => none
  | .two s a b c => match nmW a, nmW b, nmW c with
    | some n, some m, some k => some (.two s n m k)
    | _, _, _ => none
  | .wh a r => match nmW a, rowD r with
    | some n, some q => some (.wh n q)
    | _, _ => none
  | .iff a r o => match nmW a, rowD r, rowD o with
    | some n, some q, some p => some (.iff n q p)
    | _, _, _ => none
def rowD : List Rw → Option (List Dd)
  | [] => some []
  | x :: l => match x.dd, rowD l with
    | some d, some r => some (d :: r)
    | _, _ => none
end
theorem rowD_cons {x : Rw} {l : List Rw} {r : List Dd} (h : rowD (x :: l) = some r) : ∃ d q, x.dd = some d ∧ rowD l = some q ∧ r = d :: q := by
  rw [rowD] at h
  cases e1 : x.dd with
  | none => rw [e1] at h; cases h
  | some d =>
    cases e2 : rowD l with
    | none => rw [e1, e2] at h; cases h
    | some q => rw [e1, e2] at h; exact ⟨d, q, rfl, rfl, (Option.some.inj h).symm⟩
def bsW : Rw → List Bool
  | .bad => []
  | .told a _ => [(nmW a).isSome, true]
  | .take _ a b => [(nmW a).isSome, (nmW b).isSome]
  | .two _ a b c => [(nmW a).isSome, (nmW b).isSome, (nmW c).isSome]
  | .wh a _ => [(nmW a).isSome, true]
  | .iff a _ _ => [(nmW a).isSome, true, true]
def formB : Rw → Bool
  | .bad => false
  | x => (bsW x).all id
def Rw.rows : Rw → List (List Rw)
  | .wh _ r => [r]
  | .iff _ r o => [r, o]
  | _ => []
theorem rowD_pair : ∀ {l : List Rw} {r : List Dd}, rowD l = some r → Paired (fun x d => Rw.dd x = some d) l r
  | [], r, h => by cases Option.some.inj h; exact .nil
  | x :: l, r, h => by
    obtain ⟨d, q, h1, h2, rfl⟩ := rowD_cons h
    exact .cons h1 (rowD_pair h2)
theorem pair_rowD : ∀ {l : List Rw} {r : List Dd}, Paired (fun x d => Rw.dd x = some d) l r → rowD l = some r
  | _, _, .nil => by rw [rowD]
  | _, _, .cons h t => by rw [rowD, h, pair_rowD t]
theorem rowD_snoc {l : List Rw} {r : List Dd} {x : Rw} {d : Dd} (h : rowD l = some r) (hx : x.dd = some d) : rowD (l ++ [x]) = some (r ++ [d]) := pair_rowD (paired_app (rowD_pair h) (.cons hx .nil))
theorem formB_of {x : Rw} {d : Dd} (h : x.dd = some d) : formB x = true := by
  cases x with
  | bad => rw [Rw.dd] at h; cases h
  | told a t =>
    rw [Rw.dd] at h
    cases e : nmW a with
    | none => rw [e] at h; cases h
    | some n => simp [formB, bsW, e]
  | take s a b =>
    rw [Rw.dd] at h
    cases e : nmW a with
    | none => rw [e] at h; cases h
    | some n =>
      cases e2 : nmW b with
      | none => rw [e, e2] at h; cases h
      | some m => simp [formB, bsW, e, e2]
  | two s a b c =>
    rw [Rw.dd] at h
    cases e : nmW a with
    | none => rw [e] at h; cases h
    | some n =>
      cases e2 : nmW b with
      | none => rw [e, e2] at h; cases h
      | some m =>
        cases e3 : nmW c with
        | none => rw [e, e2, e3] at h; cases h
        | some k => simp [formB, bsW, e, e2, e3]
  | wh a r =>
    rw [Rw.dd] at h
    cases e : nmW a with
    | none => rw [e] at h; cases h
    | some n => simp [formB, bsW, e]
  | iff a r o =>
    rw [Rw.dd] at h
    cases e : nmW a with
    | none => rw [e] at h; cases h
    | some n => simp [formB, bsW, e]
theorem paired_1 {α β : Type} {R : α → β → Prop} {a : α} {l : List β} (h : Paired R [a] l) : ∃ b, l = [b] ∧ R a b := by
  cases h with
  | cons h t => cases t; exact ⟨_, rfl, h⟩
theorem paired_2 {α β : Type} {R : α → β → Prop} {a c : α} {l : List β} (h : Paired R [a, c] l) : ∃ b d, l = [b, d] ∧ R a b ∧ R c d := by
  cases h with
  | cons h t =>
    obtain ⟨d, rfl, h2⟩ := paired_1 t
    exact ⟨_, d, rfl, h, h2⟩
theorem dd_of {x : Rw} {rs : List (List Dd)} (hf : formB x = true) (h : Paired (fun l r => rowD l = some r) x.rows rs) : ∃ d, x.dd = some d ∧ d.rows = rs := by
  cases x with
  | bad => cases hf
  | told a t =>
    cases h
    cases e : nmW a with
    | none => simp [formB, bsW, e] at hf
    | some n => exact ⟨.told n t, by rw [Rw.dd, e], rfl⟩
  | take s a b =>
    cases h
    cases e : nmW a with
    | none => simp [formB, bsW, e] at hf
    | some n =>
      cases e2 : nmW b with
      | none => simp [formB, bsW, e2] at hf
      | some m => exact ⟨.take s n m, by rw [Rw.dd, e, e2], rfl⟩
  | two s a b c =>
    cases h
    cases e : nmW a with
    | none => simp [formB, bsW, e] at hf
    | some n =>
      cases e2 : nmW b with
      | none => simp [formB, bsW, e2] at hf
      | some m =>
        cases e3 : nmW c with
        | none => simp [formB, bsW, e3] at hf
        | some k => exact ⟨.two s n m k, by rw [Rw.dd, e, e2, e3], rfl⟩
  | wh a r =>
    obtain ⟨q, rfl, h1⟩ := paired_1 h
    cases e : nmW a with
    | none => simp [formB, bsW, e] at hf
    | some n => exact ⟨.wh n q, by rw [Rw.dd, e, h1], rfl⟩
  | iff a r o =>
    obtain ⟨q, p, rfl, h1, h2⟩ := paired_2 h
    cases e : nmW a with
    | none => simp [formB, bsW, e] at hf
    | some n => exact ⟨.iff n q p, by rw [Rw.dd, e, h1, h2], rfl⟩
def okRow (rws : List Rw) (f l : Nat) (r : List Dd) : Prop := rowD rws = some r ∧ f + deepR r ≤ 8 ∧ l + manyR r ≤ 4000
theorem deepR_ap : ∀ (a b : List Dd), deepR (a ++ b) = max (deepR a) (deepR b)
  | [], b => by rw [List.nil_append, deepR, Nat.zero_max]
  | d :: a, b => by rw [List.cons_append, deepR, deepR_ap a b, deepR, Nat.max_assoc]
theorem deepL_ap : ∀ (a b : List (List Dd)), deepL (a ++ b) = max (deepL a) (deepL b)
  | [], b => by rw [List.nil_append, deepL, Nat.zero_max]
  | d :: a, b => by rw [List.cons_append, deepL, deepL_ap a b, deepL, Nat.max_assoc]
def errA {α : Type} (g : α → Nat → Bool × Nat) : List α → Nat → Bool × Nat
  | [], l => (false, l)
  | x :: xs, l => match g x l with
    | (true, m) => (true, m)
    | (false, m) => errA g xs m
def errX : Nat → Rw → Nat → Bool × Nat
  | 0, x, l => if l = 4000 ∨ formB x = false then (true, l) else if x.rows.isEmpty = true then (false, l + 1) else (true, l)
  | k + 1, x, l => if l = 4000 ∨ formB x = false then (true, l) else errA (errA (errX k)) x.rows (l + 1)
theorem errX_bad {k : Nat} {x : Rw} {l : Nat} (h : l = 4000 ∨ formB x = false) : errX k x l = (true, l) := by
  cases k with
  | zero => rw [errX, if_pos h]
  | succ k => rw [errX, if_pos h]
theorem errA_at {α : Type} {g : α → Nat → Bool × Nat} {x : α} {n : Nat} : ∀ {xs : List α} {i l m : Nat}, errA g (xs.take i) l = (false, m) → xs[i]? = some x → g x m = (true, n) → errA g xs l = (true, n)
  | [], i, l, m, _, hx, _ => by cases hx
  | y :: xs, 0, l, m, h, hx, hg => by
    cases Option.some.inj hx
    rw [List.take_zero, errA] at h
    cases h
    rw [errA, hg]
  | y :: xs, i + 1, l, m, h, hx, hg => by
    rw [List.take_succ_cons, errA] at h
    rw [errA]
    cases e : g y l with
    | mk b p =>
      rw [e] at h
      cases b with
      | true => cases h
      | false => exact errA_at h hx hg
theorem errA_snoc {α : Type} {g : α → Nat → Bool × Nat} {x : α} : ∀ {xs : List α} {l m : Nat}, errA g xs l = (false, m) → errA g (xs ++ [x]) l = g x m
  | [], l, m, h => by
    rw [errA] at h
    cases h
    rw [List.nil_append, errA]
    cases e : g x l with
    | mk b p => cases b <;> rfl
  | y :: xs, l, m, h => by
    rw [errA] at h
    rw [List.cons_append, errA]
    cases e : g y l with
    | mk b p =>
      rw [e] at h
      cases b with
      | true => cases h
      | false => exact errA_snoc h
end Js
set_option Elab.async false
set_option linter.all false
set_option maxRecDepth 100000
set_option maxHeartbeats 2000000
namespace Js
open PySem L2
noncomputable instance : DecidableEq Dd := Classical.typeDecidableEq Dd
end Js
set_option Elab.async false
set_option linter.all false
set_option maxRecDepth 100000
set_option maxHeartbeats 2000000
namespace Js
open PySem L2
abbrev sPInit : Stmt := inClass (top 21) 0
abbrev sPLen : Stmt := inClass (top 21) 2
abbrev sPEq : Stmt := inClass (top 21) 3
def pf (q pl : Addr) : List (Str × V) := putF "plan" (.ref pl) (putF "deeds" (.ref q) [])
theorem pf_plan (q pl : Addr) : (pf q pl).lookup ("plan" : Str) = some (.ref pl) := by
  unfold pf
  rw [lookup_putF, if_pos rfl]
structure Fr (H H' : Hp) : Prop where
  t : ∀ a xs, H a = some (.tup xs) → H' a = some (.tup xs)
  z : ∀ a o xs, H a = some (.frz o (.tup xs)) → H' a = some (.frz o (.tup xs))
  i : ∀ a C dx f s n, H a = some (.ins C dx (tf f s n)) → H' a = some (.ins C dx (tf f s n))
theorem Fr.kb {H H' : Hp} {p D dx : Addr} (hp : H p = some (.ins D dx [])) (k : KB p H H') : Fr H H' :=
  ⟨fun a xs h => k _ _ (fun z => by rw [z, hp] at h; cases h) h, fun a o xs h => k _ _ (fun z => by rw [z, hp] at h; cases h) h, fun a C dx f s n h => k _ _ (fun z => by
    rw [z, hp] at h
    have e := Option.some.inj h
    injection e with _ _ e3
    have := tf_size f s n
    rw [← e3] at this
    cases this) h⟩
theorem Th.fr {C : Addr} {H H' : Hp} (k : Fr H H') {a : Addr} {t : Tr} (h : Th C H a t) : Th C H' a t := by
  induction h with
  | nil h => exact .nil (k.i _ _ _ _ _ _ h)
  | pr h _ _ ih1 ih2 => exact .pr (k.i _ _ _ _ _ _ h) ih1 ih2
theorem sqt_fr {K : PySem.W.Frag} {H H' : Hp} (k : Fr H H') {a : Addr} {xs : List V} (h : SqT K H a xs) : SqT K H' a xs :=
  h.elim (fun h => .inl (h.elim (fun h => .inl (k.t _ _ h)) fun ⟨o, h⟩ => .inr ⟨o, k.z _ _ _ h⟩)) fun h => .inr h
mutual
theorem DAt_fr {K : PySem.W.Frag} {C : Addr} {H H' : Hp} (k : Fr H H') : ∀ (d : Dd) (v : V), DAt K C H v d → DAt K C H' v d
  | .told a t, v, h => by
    obtain ⟨p, x, e, h1, h2, h3, h4⟩ := h
    exact ⟨p, x, e, sqt_fr k h1, h2, h3.fr k, h4⟩
  | .take s a b, v, h => by
    obtain ⟨p, e, h1, h2⟩ := h
    exact ⟨p, e, sqt_fr k h1, h2⟩
  | .two s a b c, v, h => by
    obtain ⟨p, e, h1, h2⟩ := h
    exact ⟨p, e, sqt_fr k h1, h2⟩
  | .wh a r, v, h => by
    obtain ⟨p, q, vs, e, h1, h2, h3, h4⟩ := h
    exact ⟨p, q, vs, e, sqt_fr k h1, h2, sqt_fr k h3, DsAt_fr k r vs h4⟩
  | .iff a r o, v, h => by
    obtain ⟨p, q, vs, q2, vs2, e, h1, h2, h3, h4, h5, h6⟩ := h
    exact ⟨p, q, vs, q2, vs2, e, sqt_fr k h1, h2, sqt_fr k h3, DsAt_fr k r vs h4, sqt_fr k h5, DsAt_fr k o vs2 h6⟩
theorem DsAt_fr {K : PySem.W.Frag} {C : Addr} {H H' : Hp} (k : Fr H H') : ∀ (r : List Dd) (vs : List V), DsAt K C H vs r → DsAt K C H' vs r
  | [], vs, h => h
  | d :: r, vs, h => by
    obtain ⟨v, us, e, h1, h2⟩ := h
    exact ⟨v, us, e, DAt_fr k d v h1, DsAt_fr k r us h2⟩
end
theorem RAt.fr {K : PySem.W.Frag} {C : Addr} {H H' : Hp} (k : Fr H H') {q : Addr} {r : List Dd} (h : RAt K C H q r) : RAt K C H' q r := by
  obtain ⟨vs, h1, h2⟩ := h
  exact ⟨vs, sqt_fr k h1, DsAt_fr k r vs h2⟩
theorem pls_fr {K : PySem.W.Frag} {C : Addr} {H H' : Hp} (k : Fr H H') : ∀ {ys : List V} {ps : List (Dd × List Nat)}, Paired (PlE K C H) ys ps → Paired (PlE K C H') ys ps
  | _, _, .nil => .nil
  | _, _, .cons ⟨t, wv, dv, e, h1, h2, h3⟩ u => .cons ⟨t, wv, dv, e, k.t _ _ h1, k.t _ _ h2, DAt_fr k _ _ h3⟩ (pls_fr k u)
structure TxtP (K : PySem.W.Frag) (mg : Str → Option Value) (CP : Addr) : Prop where
  cl : Cls K CP
  nD : NoAttr K CP "deeds"
  nP : NoAttr K CP "plan"
  mgP : mg "Program" = some (.ref CP)
  ca : PySem.W.findIn K (.ref CP) "__class__" = some (some (.builtin "object.__class__"))
  cn : PySem.W.specialIn K (.builtin "object.__class__") "__get__" = some (some (.builtin "getset_descriptor.__get__"))
  ct : PySem.W.takesIn K (.builtin "object.__class__") = some true
  cm : PySem.W.mroIn K CP (.type "object") = some true
  ne : PySem.W.findIn K (.ref CP) "__ne__" = some (some (.builtin "object.__ne__"))
structure PgAt (K : PySem.W.Frag) (C CP : Addr) (H : Hp) (a : Addr) (r : List Dd) : Prop where
  ex : ∃ dx q pl ys, H a = some (.ins CP dx (pf q pl)) ∧ RAt K C H q r ∧ H pl = some (.tup ys) ∧ Paired (PlE K C H) ys (layR r (manyR r) 0)
  dp : deepR r ≤ 8
  mn : manyR r ≤ 4000
theorem PgAt.kt {K : PySem.W.Frag} {C CP : Addr} {H H' : Hp} (k : KT H H') {a : Addr} {r : List Dd} (h : PgAt K C CP H a r) : PgAt K C CP H' a r := by
  obtain ⟨dx, q, pl, ys, h1, h2, h3, h4⟩ := h.ex
  exact ⟨⟨dx, q, pl, ys, k _ _ h1 (fun _ e => nomatch e), h2.kt k, k _ _ h3 (fun _ e => nomatch e), pls_kt k h4⟩, h.dp, h.mn⟩
theorem PgAt.same {K : PySem.W.Frag} {C CP : Addr} {H H' : Hp} (s : Same H H') {a : Addr} {r : List Dd} (h : PgAt K C CP H a r) : PgAt K C CP H' a r := h.kt (KT.of s)
def spPInit (K : PySem.W.Frag) (C CP : Addr) : Sp := fun vs H Q _ => ∃ (p dx q : Addr) (r : List Dd), vs = [.ref p, .ref q] ∧ H p = some (.ins CP dx []) ∧ RAt K C H q r ∧ deepR r ≤ 8 ∧ manyR r ≤ 4000 ∧
  ∀ pl ys H', KB p H H' → H' p = some (.ins CP dx (pf q pl)) → H' pl = some (.tup ys) → RAt K C H' q r → Paired (PlE K C H') ys (layR r (manyR r) 0) → Q .non H'
def spPLen (K : PySem.W.Frag) (C CP : Addr) : Sp := fun vs H Q _ => ∃ a r, vs = [.ref a] ∧ PgAt K C CP H a r ∧ Q (.int ((manyR r : Nat) : Int)) H
section
variable {P : Program} {w : World} {K : PySem.W.Frag} {mg : Str → Option Value} {base : Heap} {C CP : Addr}
theorem scPI : FnScope ["self", "deeds", "ends", "plan"] ["self", "deeds"] (defScope sPInit) := ⟨rfl, rfl, rfl, by decide +kernel, rfl, by decide +kernel, by decide +kernel⟩
theorem ok_pinit {f : Addr} {fd : FuncData} (F : Fun K "__init__" "Program.__init__" sPInit f fd) (B : Blt mg) (T : Txt K mg C) (G : FrmC K w mg) (TP : TxtP K mg CP) (DL : Def P w K mg base "look_through" 13 ["row", "floors", "ends"] (spLook K C 9)) (DY : Def P w K mg base "lay_out" 11 ["row", "behind", "ends", "plan"] (spLay K C 9)) : FnOk P w K mg base CX0 14 f fd ["self", "deeds"] (spPInit K C CP) := by
  refine F.ok scPI (fun vs H Q E h => ?_) (fun cdv A outer s H vs Q E hr h => ?_)
  · obtain ⟨p, dx, q, r, rfl, _⟩ := h
    rfl
  · obtain ⟨p, dx, q, r, rfl, hp, hq, hd, hm, k⟩ := h
    have hr11 : Room 11 _ := hr.mono (by decide)
    refine ⟨_, PSs.nox (pss_cons (ps_if (pt_not (pt_val (pe_callB (r := rIsi K) call_isi (by rfl) T.isi PyProof.Rows.boot_isinstance (pa_cons (pv 1) (pa_cons (pe_bltn (v := .ty "tuple") rfl G.mt PyProof.Rows.boot_tuple rfl) pa_nil))))) (pss_one ps_never) pss_nil) (pss_cons (ps_set (i := 2) scPI.nd rfl (Or.inl rfl) (pe_lst pa_nil)) (pss_cons (ps_expr (pe_def DL hr rfl (pa_cons (pv 1) (pa_cons pe_int (pa_cons (pv 2) pa_nil))))) (pss_cons (ps_set (i := 3) scPI.nd rfl (Or.inl rfl) (pe_lst pa_nil)) (pss_cons (ps_expr (pe_def DY hr11 rfl (pa_cons (pv 1) (pa_cons (pe_callB call_len_seq (by rfl) B.len PySem.boot_len (pa_cons (pv 2) pa_nil)) (pa_cons (pv 2) (pa_cons (pv 3) pa_nil)))))) (pss_cons (ps_fld (pv 0) (pv 1) rfl) (pss_one (ps_fld (pv 0) (pe_callTy call_tuple_of (by rfl) G.mt PyProof.Rows.boot_tuple (pa_cons (pv 3) pa_nil)) rfl)))))))), ?_⟩
    have hsl := line4
    obtain ⟨vs, hqv, hvs⟩ := id hq
    refine ⟨_, rfl, _, _, _, _, true, rfl, .ty "tuple", sqt_ty hqv, G.tt, _, rfl, iteF ?_⟩
    refine ⟨Nat.zero_le _, fun e ne => ?_⟩
    have s1 : Same H (upd H e (.lst [])) := Same.new ne
    have he1 : (upd H e (.lst [])) e = some (.lst (numsV [])) := upd_same
    revert s1 he1
    generalize upd H e (.lst []) = H1
    intro s1 he1
    refine ⟨_, rfl, _, rfl, q, e, 0, r, [], rfl, hq.same s1, by omega, by omega, he1, by simpa using hm, fun H2 kb2 he2 => ?_⟩
    rw [List.nil_append] at he2
    have kt2 : KT H1 H2 := kb2.kt he1
    have hep : e ≠ p := fun z => by rw [z, hp] at ne; cases ne
    refine ⟨Nat.zero_le _, fun pn npn => ?_⟩
    have s3 : Same H2 (upd H2 pn (.lst [])) := Same.new npn
    have hpn3 : (upd H2 pn (.lst [])) pn = some (.lst []) := upd_same
    have hpe : e ≠ pn := fun z => by rw [← z, he2] at npn; cases npn
    have hpp : pn ≠ p := fun z => by
      have : H2 p = some (.ins CP dx []) := kb2 _ _ (Ne.symm hep) (s1 _ _ hp)
      rw [z, this] at npn
      cases npn
    revert s3 hpn3
    generalize upd H2 pn (.lst []) = H3
    intro s3 hpn3
    have he3 := s3 _ _ he2
    have hq3 : RAt K C H3 q r := ((hq.same s1).kt kt2).same s3
    refine ⟨_, rfl, _, rfl, e, _, rfl, .inl (SqL.of he3), ?_⟩
    rw [numsV_len, endsR_len]
    refine ⟨_, rfl, _, rfl, q, e, pn, manyR r, r, endsR r 0, [], rfl, hq3, by omega, he3, Pre.whole _, hpn3, hpe, by simpa using hm, fun H4 ys kb4 hp4 hys => ?_⟩
    rw [List.nil_append] at hp4
    have kt4 : KT H3 H4 := kb4.kt hpn3
    have hpz : H4 p = some (.ins CP dx []) := kb4 _ _ (Ne.symm hpp) (s3 _ _ (kb2 _ _ (Ne.symm hep) (s1 _ _ hp)))
    refine ⟨_, rfl, _, rfl, p, CP, dx, [], rfl, hpz, TP.cl, TP.nD, (by show 0 < 1000; decide), ?_⟩
    have hp5 : (upd H4 p (.ins CP dx (putF "deeds" (.ref q) []))) pn = some (.lst ys) := by rw [upd_ne hpp]; exact hp4
    refine ⟨_, rfl, pn, _, rfl, .inl ⟨SqL.of hp5, fun pl npl => ?_⟩⟩
    have hplp : pl ≠ p := fun z => by rw [z, upd_same] at npl; cases npl
    refine ⟨_, rfl, p, CP, dx, _, rfl, by rw [upd_ne (Ne.symm hplp)]; exact upd_same, TP.cl, TP.nP, Nat.lt_of_le_of_lt (length_putF _ _ _) (by show 0 + 1 < 1000; decide), ?_⟩
    have kbz : KB p H4 (upd (upd (upd H4 p (.ins CP dx (putF "deeds" (.ref q) []))) pl (.tup ys)) p (.ins CP dx (pf q pl))) := fun a o na ha => by
      have npl4 : H4 pl = none := by
        rw [upd_ne hplp] at npl
        exact npl
      rw [upd_ne na, upd_ne (ne_of_none ha npl4), upd_ne na]
      exact ha
    have kbH : KB p H H4 := fun a o na ha => by
      have nae : a ≠ e := ne_of_none ha ne
      have h2 := kb2 _ _ nae (s1 _ _ ha)
      have nan : a ≠ pn := ne_of_none h2 npn
      exact kb4 _ _ nan (s3 _ _ h2)
    have fr := Fr.kb hpz kbz
    refine k pl ys _ (kbH.trans kbz) ?_ ?_ ((hq3.kt kt4).fr fr) (pls_fr fr hys)
    · exact upd_same
    · rw [upd_ne hplp, upd_same]
theorem scPL : FnScope ["self"] ["self"] (defScope sPLen) := ⟨rfl, rfl, rfl, by decide +kernel, rfl, by decide +kernel, by decide +kernel⟩
theorem ok_plen {f : Addr} {fd : FuncData} (F : Fun K "__len__" "Program.__len__" sPLen f fd) (B : Blt mg) (TP : TxtP K mg CP) : FnOk P w K mg base CX0 1 f fd ["self"] (spPLen K C CP) := by
  refine F.ok scPL (fun vs H Q E h => ?_) (fun cdv A outer s H vs Q E hr h => ?_)
  · obtain ⟨a, r, rfl, _⟩ := h
    rfl
  · obtain ⟨a, r, rfl, ha, k⟩ := h
    refine ⟨_, pss_one (ps_ret (pe_callB call_len_seq (by rfl) B.len PySem.boot_len (pa_cons (pe_fld (pv 0) rfl) pa_nil))), ?_⟩
    obtain ⟨dx, q, pl, ys, h1, h2, h3, h4⟩ := ha.ex
    refine ⟨_, rfl, _, _, _, _, _, rfl, h1, TP.cl, TP.nP, pf_plan _ _, pl, ys, rfl, .inr (SqT.of h3), ?_⟩
    rw [Paired.length h4, layR_len]
    exact k
end
structure MakerP (P : Program) (w : World) (K : PySem.W.Frag) (mg : Str → Option Value) (base : Heap) (C CP fI : Addr) (fdI : FuncData) : Prop where
  M : Mk K CP fI
  G : FnOk P w K mg base CX0 14 fI fdI ["self", "deeds"] (spPInit K C CP)
  mgP : mg "Program" = some (.ref CP)
  b : Binds K fdI ["self", "deeds"] []
def tP (K : PySem.W.Frag) (C CP : Addr) (t : TA) : TE := fun σ H Q => t σ H fun vs H1 => ∃ q r, vs = [.ref q] ∧ RAt K C H1 q r ∧ deepR r ≤ 8 ∧ manyR r ≤ 4000 ∧ ∀ z H', Same H1 H' → H1 z = none → PgAt K C CP H' z r → Q (.ref z) H'
theorem mk_pg {K : PySem.W.Frag} {C CP q : Addr} {H : Hp} {r : List Dd} {Q : VK} {E : XK} (hq : RAt K C H q r) (hd : deepR r ≤ 8) (hm : manyR r ≤ 4000) (k : ∀ z H', Same H H' → H z = none → PgAt K C CP H' z r → Q (.ref z) H') :
    ∀ x dx, H x = none → H dx = none → dx ≠ x → spPInit K C CP (.ref x :: ([.ref q] ++ [])) (upd (upd H dx (.own x)) x (.ins CP dx [])) (fun v H3 => v = .non ∧ Q (.ref x) H3) E := by
  intro x dx nx ndx ne
  have s0 : Same H (upd (upd H dx (.own x)) x (.ins CP dx [])) := fun b o e => by
    rw [upd_ne (ne_of_none e nx), upd_ne (ne_of_none e ndx)]
    exact e
  refine ⟨x, dx, q, r, rfl, upd_same, hq.same s0, hd, hm, fun pl ys H' kb h1 h2 h3 h4 => ⟨rfl, k x H' (fun b o e => kb _ _ (ne_of_none e nx) (s0 _ _ e)) nx ⟨⟨dx, q, pl, ys, h1, h3, h2, h4⟩, hd, hm⟩⟩⟩
section
open PyProof.Rows
variable {X : Cx} {C CP fI : Addr} {fdI : FuncData} {p pos : Pos} {e : Expr} {es : List Expr} {t : TA}
theorem pe_P (mk : MakerP X.prog X.w X.K X.mg X.base C CP fI fdI) (hr : Room 15 X.A) (hg : Gl X "Program") (ha : PA X (e :: es) t)
    (he : starEach (e :: es) X.env = (false, eval e X.env) :: starEach es X.env := by rfl) (hpl : (backTo pos (starEach es X.env)).any (·.1) = false := by rfl) : PE X (.Call (.Name "Program" p) (e :: es) [] pos) (tP X.K C CP t) := by
  refine ⟨fun pins s σ H Q I h => ?_⟩
  refine wpAny_Call_Name_kw (ld_glob I hg mk.mgP ?_ (by decide))
  refine PySem.W.callWith_K (h₀ := X.base) I.ok.mod.kin mk.M.kp (thn (ha.run pos pins s σ H _ I h) fun us s1 ⟨vs, H1, I1, r, q⟩ => ⟨I1.kIn, ?_⟩) he hpl
  obtain ⟨q, r', rfl, h1, h2, hz, k⟩ := q
  exact run_make mk.M mk.G hr mk.b .nil pass0 I1 r (mk_pg h1 h2 hz k)
end
end Js
set_option Elab.async false
set_option linter.all false
set_option maxRecDepth 100000
set_option maxHeartbeats 2000000
namespace Js
open PySem L2
open PySem.Spec PyProof.Rows
inductive Pv where
  | pg (r : List Dd)
  | th (t : Tr)
  | int (i : Int)
  | bl (b : Bool)
  | str (s : Str)
  | non
  | tup (xs : List Pv)
  | lst (xs : List Pv)
  | row (r : List Dd)
section
variable (K : PySem.W.Frag) (C CP : Addr) (p : List Addr) (H : Hp)
mutual
def PvAt : Pv → V → Prop
  | .pg r, v => ∃ a, v = .ref a ∧ PgAt K C CP H a r
  | .th t, v => ∃ a, v = .ref a ∧ Th C H a t ∧ t.size ≤ 4000
  | .int i, v => v = .int i
  | .bl b, v => v = .bl b
  | .str s, v => v = .str s
  | .non, v => v = .non
  | .tup xs, v => ∃ a vs, v = .ref a ∧ SqT K H a vs ∧ PvsAt xs vs
  | .lst xs, v => ∃ a vs, v = .ref a ∧ a ∉ p ∧ H a = some (.lst vs) ∧ PvsAt xs vs
  | .row r, v => ∃ a, v = .ref a ∧ RAt K C H a r
def PvsAt : List Pv → List V → Prop
  | [], vs => vs = []
  | x :: xs, vs => ∃ v ws, vs = v :: ws ∧ PvAt x v ∧ PvsAt xs ws
end
end
def Kp (p : List Addr) (H H' : Hp) : Prop := KT H H' ∧ ∀ a vs, a ∉ p → H a = some (.lst vs) → H' a = some (.lst vs)
theorem Kp.refl (p : List Addr) (H : Hp) : Kp p H H := ⟨KT.refl H, fun _ _ _ h => h⟩
theorem Kp.trans {p : List Addr} {H H1 H2 : Hp} (a : Kp p H H1) (b : Kp p H1 H2) : Kp p H H2 := ⟨a.1.trans b.1, fun x vs n h => b.2 x vs n (a.2 x vs n h)⟩
theorem Kp.same {p : List Addr} {H H' : Hp} (s : Same H H') : Kp p H H' := ⟨KT.of s, fun x vs n h => s _ _ h⟩
theorem Kp.kb {F : List Addr} {p : Addr} {H H' : Hp} (hp : p ∈ F) (b : BagOk H p) (k : KB p H H') : Kp F H H' := ⟨b.kt k, fun x vs n h => k _ _ (fun e => n (by rw [e]; exact hp)) h⟩
def Ex (F : List Addr) (H : Hp) : Prop := ∀ f ∈ F, ∃ o, H f = some o
theorem Ex.same {F : List Addr} {H H' : Hp} (s : Same H H') (h : Ex F H) : Ex F H' := fun f hf => by
  obtain ⟨o, ho⟩ := h f hf
  exact ⟨o, s _ _ ho⟩
theorem Ex.out {F : List Addr} {H : Hp} (h : Ex F H) {a : Addr} (n : H a = none) : a ∉ F := fun hm => by
  obtain ⟨o, ho⟩ := h a hm
  rw [ho] at n
  cases n
section
variable {K : PySem.W.Frag} {C CP : Addr} {p : List Addr} {H H' : Hp}
mutual
theorem PvAt.kp (k : Kp p H H') : ∀ (x : Pv) (v : V), PvAt K C CP p H x v → PvAt K C CP p H' x v
  | .pg r, v, h => by
    rw [PvAt] at h ⊢
    obtain ⟨a, e, h⟩ := h
    exact ⟨a, e, h.kt k.1⟩
  | .th t, v, h => by
    rw [PvAt] at h ⊢
    obtain ⟨a, e, h, z⟩ := h
    exact ⟨a, e, h.kt k.1, z⟩
  | .int i, v, h => by
    rw [PvAt] at h ⊢
    exact h
  | .bl i, v, h => by
    rw [PvAt] at h ⊢
    exact h
  | .str i, v, h => by
    rw [PvAt] at h ⊢
    exact h
  | .non, v, h => by
    rw [PvAt] at h ⊢
    exact h
  | .tup xs, v, h => by
    rw [PvAt] at h ⊢
    obtain ⟨a, vs, e, h, z⟩ := h
    exact ⟨a, vs, e, sqt_kt k.1 h, PvsAt.kp k xs vs z⟩
  | .lst xs, v, h => by
    rw [PvAt] at h ⊢
    obtain ⟨a, vs, e, n, h, z⟩ := h
    exact ⟨a, vs, e, n, k.2 _ _ n h, PvsAt.kp k xs vs z⟩
  | .row r, v, h => by
    rw [PvAt] at h ⊢
    obtain ⟨a, e, h⟩ := h
    exact ⟨a, e, h.kt k.1⟩
theorem PvsAt.kp (k : Kp p H H') : ∀ (xs : List Pv) (vs : List V), PvsAt K C CP p H xs vs → PvsAt K C CP p H' xs vs
  | [], vs, h => by
    rw [PvsAt] at h ⊢
    exact h
  | x :: xs, vs, h => by
    rw [PvsAt] at h ⊢
    obtain ⟨v, ws, e, h1, h2⟩ := h
    exact ⟨v, ws, e, PvAt.kp k x v h1, PvsAt.kp k xs ws h2⟩
end
theorem PvsAt.len : ∀ {xs : List Pv} {vs : List V}, PvsAt K C CP p H xs vs → vs.length = xs.length
  | [], vs, h => by
    rw [PvsAt] at h
    rw [h]
    rfl
  | x :: xs, vs, h => by
    rw [PvsAt] at h
    obtain ⟨v, ws, e, h1, h2⟩ := h
    rw [e, List.length_cons, List.length_cons, PvsAt.len h2]
theorem PvsAt.get : ∀ {xs : List Pv} {vs : List V} {i : Nat} {x : Pv}, PvsAt K C CP p H xs vs → xs[i]? = some x → ∃ v, vs[i]? = some v ∧ PvAt K C CP p H x v
  | x :: xs, vs, i, y, h, hi => by
    rw [PvsAt] at h
    obtain ⟨v, ws, e, h1, h2⟩ := h
    subst e
    match i, hi with
    | 0, hi =>
      cases Option.some.inj hi
      exact ⟨v, rfl, h1⟩
    | i + 1, hi => exact PvsAt.get (xs := xs) (i := i) h2 (by simpa using hi)
theorem PvsAt.getV {xs : List Pv} {vs : List V} {i : Nat} {v : V} (h : PvsAt K C CP p H xs vs) (hi : vs[i]? = some v) : ∃ x, xs[i]? = some x ∧ PvAt K C CP p H x v := by
  have hl : i < xs.length := by
    rw [← h.len]
    exact (List.getElem?_eq_some_iff.mp hi).1
  obtain ⟨u, hu, hx⟩ := h.get (List.getElem?_eq_getElem hl)
  cases Option.some.inj (hi.symm.trans hu)
  exact ⟨_, List.getElem?_eq_getElem hl, hx⟩
theorem PvsAt.nil : PvsAt K C CP p H [] [] := by
  rw [PvsAt]
theorem PvsAt.cons {x : Pv} {xs : List Pv} {v : V} {vs : List V} (h : PvAt K C CP p H x v) (t : PvsAt K C CP p H xs vs) : PvsAt K C CP p H (x :: xs) (v :: vs) := by
  rw [PvsAt]
  exact ⟨v, vs, rfl, h, t⟩
theorem PvsAt.inv {x : Pv} {xs : List Pv} {vs : List V} (h : PvsAt K C CP p H (x :: xs) vs) : ∃ v ws, vs = v :: ws ∧ PvAt K C CP p H x v ∧ PvsAt K C CP p H xs ws := by
  rw [PvsAt] at h
  exact h
theorem PvsAt.app : ∀ {xs ys : List Pv} {vs ws : List V}, PvsAt K C CP p H xs vs → PvsAt K C CP p H ys ws → PvsAt K C CP p H (xs ++ ys) (vs ++ ws)
  | [], ys, vs, ws, h, g => by
    rw [PvsAt] at h
    subst h
    exact g
  | x :: xs, ys, vs, ws, h, g => by
    obtain ⟨v, us, rfl, h1, h2⟩ := h.inv
    exact PvsAt.cons h1 (PvsAt.app h2 g)
theorem PvsAt.tk : ∀ {xs : List Pv} {vs : List V} (n : Nat), PvsAt K C CP p H xs vs → PvsAt K C CP p H (xs.take n) (vs.take n)
  | [], vs, n, h => by
    rw [PvsAt] at h
    subst h
    rw [List.take_nil, List.take_nil]
    exact PvsAt.nil
  | x :: xs, vs, 0, h => PvsAt.nil
  | x :: xs, vs, n + 1, h => by
    obtain ⟨v, us, rfl, h1, h2⟩ := h.inv
    exact PvsAt.cons h1 (PvsAt.tk n h2)
theorem PvsAt.dr : ∀ {xs : List Pv} {vs : List V} (n : Nat), PvsAt K C CP p H xs vs → PvsAt K C CP p H (xs.drop n) (vs.drop n)
  | [], vs, n, h => by
    rw [PvsAt] at h
    subst h
    rw [List.drop_nil, List.drop_nil]
    exact PvsAt.nil
  | x :: xs, vs, 0, h => h
  | x :: xs, vs, n + 1, h => by
    obtain ⟨v, us, rfl, h1, h2⟩ := h.inv
    exact PvsAt.dr n h2
theorem PvsAt.set : ∀ {xs : List Pv} {vs : List V} (n : Nat) {x : Pv} {v : V}, PvsAt K C CP p H xs vs → PvAt K C CP p H x v → PvsAt K C CP p H (xs.set n x) (vs.set n v)
  | [], vs, n, x, v, h, g => by
    rw [PvsAt] at h
    subst h
    exact PvsAt.nil
  | y :: xs, vs, 0, x, v, h, g => by
    obtain ⟨u, us, rfl, h1, h2⟩ := h.inv
    exact PvsAt.cons g h2
  | y :: xs, vs, n + 1, x, v, h, g => by
    obtain ⟨u, us, rfl, h1, h2⟩ := h.inv
    exact PvsAt.cons h1 (PvsAt.set n h2 g)
end
inductive Ck where
  | P
  | T
  | int
  | bool
  | str
  | tup
  | lst
  deriving DecidableEq
def Ck.n : Ck → String
  | .int => "int"
  | .bool => "bool"
  | .str => "str"
  | .tup => "tuple"
  | .lst => "list"
  | _ => "object"
def Ck.v (C CP : Addr) : Ck → V
  | .P => .ref CP
  | .T => .ref C
  | c => .ty c.n
def Ck.u (C CP : Addr) : Ck → Value
  | .P => .ref CP
  | .T => .ref C
  | c => .type c.n
theorem Ck.cls (C CP : Addr) : ∀ c : Ck, ClsV (c.v C CP) (c.u C CP)
  | .P => ClsV.own CP
  | .T => ClsV.own C
  | .int => ClsV.ty _
  | .bool => ClsV.ty _
  | .str => ClsV.ty _
  | .tup => ClsV.ty _
  | .lst => ClsV.ty _
def Pv.ty (C CP : Addr) : Pv → Value
  | .pg _ => .ref CP
  | .th _ => .ref C
  | .int _ => .type "int"
  | .bl _ => .type "bool"
  | .str _ => .type "str"
  | .non => .type "NoneType"
  | .tup _ => .type "tuple"
  | .lst _ => .type "list"
  | .row _ => .type "tuple"
def Pv.is : Pv → Ck → Bool
  | .pg _, .P => true
  | .th _, .T => true
  | .int _, .int => true
  | .bl _, .int => true
  | .bl _, .bool => true
  | .str _, .str => true
  | .tup _, .tup => true
  | .row _, .tup => true
  | .lst _, .lst => true
  | _, _ => false
structure PvK (K : PySem.W.Frag) (C CP : Addr) : Prop where
  tC : ∀ n ∈ (["NoneType", "int", "bool", "str", "tuple", "list"] : List String), PySem.W.kitOne K (.type n) (.ref C) = some false
  tP : ∀ n ∈ (["NoneType", "int", "bool", "str", "tuple", "list"] : List String), PySem.W.kitOne K (.type n) (.ref CP) = some false
  Ct : ∀ n ∈ (["int", "bool", "str", "tuple", "list"] : List String), PySem.W.kitOne K (.ref C) (.type n) = some false
  Pt : ∀ n ∈ (["int", "bool", "str", "tuple", "list"] : List String), PySem.W.kitOne K (.ref CP) (.type n) = some false
  cp : PySem.W.kitOne K (.ref C) (.ref CP) = some false
  pc : PySem.W.kitOne K (.ref CP) (.ref C) = some false
theorem PvK.kit {K : PySem.W.Frag} {C CP : Addr} (k : PvK K C CP) (x : Pv) (c : Ck) : PySem.W.kitOne K (x.ty C CP) (c.u C CP) = some (x.is c) := by
  cases x <;> cases c
  all_goals first
    | exact kit_self _ _
    | (dsimp only [Pv.ty, Ck.u, Ck.n, Pv.is]; exact kit_ty (by decide +kernel))
    | exact k.tC _ (by decide)
    | exact k.tP _ (by decide)
    | exact k.Ct _ (by decide)
    | exact k.Pt _ (by decide)
    | exact k.cp
    | exact k.pc
section
variable {K : PySem.W.Frag} {C CP : Addr} {p : List Addr} {H : Hp} {mg : Str → Option Value}
theorem tyPv (T : Txt K mg C) (TP : TxtP K mg CP) : ∀ {x : Pv} {v : V}, PvAt K C CP p H x v → TyX K H v (x.ty C CP)
  | .pg r, v, h => by
    rw [PvAt] at h
    obtain ⟨a, rfl, h⟩ := h
    obtain ⟨_, _, _, _, hpa, _⟩ := h.ex
    exact .base (.ins hpa TP.cl TP.ca TP.cn TP.ct TP.cm)
  | .th t, v, h => by
    rw [PvAt] at h
    obtain ⟨a, rfl, h, _⟩ := h
    obtain ⟨dx, f1, g1, h1⟩ := h.obj
    exact .base (.ins h1 T.cl T.ca T.cn T.ct T.cm)
  | .int i, v, h => by
    rw [PvAt] at h
    subst h
    exact .base (.int _)
  | .bl i, v, h => by
    rw [PvAt] at h
    subst h
    exact .base (.bl _)
  | .str i, v, h => by
    rw [PvAt] at h
    subst h
    exact .base (.str _)
  | .non, v, h => by
    rw [PvAt] at h
    subst h
    exact .base .non
  | .tup xs, v, h => by
    rw [PvAt] at h
    obtain ⟨a, vs, rfl, h, _⟩ := h
    exact sqt_ty h
  | .lst xs, v, h => by
    rw [PvAt] at h
    obtain ⟨a, vs, rfl, _, h, _⟩ := h
    exact .base (.lst h)
  | .row r, v, h => by
    rw [PvAt] at h
    obtain ⟨a, rfl, vs, h, _⟩ := h
    exact sqt_ty h
end
end Js
set_option Elab.async false
set_option linter.all false
set_option maxRecDepth 100000
set_option maxHeartbeats 2000000
namespace Js
open PySem L2
open PySem.Spec PyProof.Rows
mutual
def ddPv : Dd → Pv
  | .told a t => .tup [.str "told", .int (a : Nat), .th t]
  | .take s a b => .tup [.str (takeS s), .int (a : Nat), .int (b : Nat)]
  | .two s a b c => .tup [.str (twoS s), .int (a : Nat), .int (b : Nat), .int (c : Nat)]
  | .wh a r => .tup [.str "while", .int (a : Nat), .tup (rPv r)]
  | .iff a r o => .tup [.str "if", .int (a : Nat), .tup (rPv r), .tup (rPv o)]
def rPv : List Dd → List Pv
  | [] => []
  | d :: r => ddPv d :: rPv r
end
theorem rPv_len : ∀ r, (rPv r).length = r.length
  | [] => by rw [rPv]; rfl
  | d :: r => by rw [rPv, List.length_cons, List.length_cons, rPv_len r]
section
variable {K : PySem.W.Frag} {C CP : Addr} {p : List Addr} {H : Hp}
theorem pvI (i : Int) : PvAt K C CP p H (.int i) (.int i) := by rw [PvAt]
theorem pvS (i : Str) : PvAt K C CP p H (.str i) (.str i) := by rw [PvAt]
mutual
theorem DAt_pv : ∀ (d : Dd) (v : V), DAt K C H v d → PvAt K C CP p H (ddPv d) v
  | .told a t, v, h => by
    obtain ⟨q, x, e, h1, h2, h3, h4⟩ := h
    rw [ddPv, PvAt]
    exact ⟨q, _, e, h1, .cons (pvS _) (.cons (pvI _) (.cons (by rw [PvAt]; exact ⟨x, rfl, h3, h4⟩) .nil))⟩
  | .take s a b, v, h => by
    obtain ⟨q, e, h1, h2, h3⟩ := h
    rw [ddPv, PvAt]
    exact ⟨q, _, e, h1, .cons (pvS _) (.cons (pvI _) (.cons (pvI _) .nil))⟩
  | .two s a b c, v, h => by
    obtain ⟨q, e, h1, h2, h3, h4⟩ := h
    rw [ddPv, PvAt]
    exact ⟨q, _, e, h1, .cons (pvS _) (.cons (pvI _) (.cons (pvI _) (.cons (pvI _) .nil)))⟩
  | .wh a r, v, h => by
    obtain ⟨q, q1, vs, e, h1, h2, h3, h4⟩ := h
    rw [ddPv, PvAt]
    exact ⟨q, _, e, h1, .cons (pvS _) (.cons (pvI _) (.cons (by rw [PvAt]; exact ⟨q1, vs, rfl, h3, DsAt_pv r vs h4⟩) .nil))⟩
  | .iff a r o, v, h => by
    obtain ⟨q, q1, vs, q2, vs2, e, h1, h2, h3, h4, h5, h6⟩ := h
    rw [ddPv, PvAt]
    exact ⟨q, _, e, h1, .cons (pvS _) (.cons (pvI _) (.cons (by rw [PvAt]; exact ⟨q1, vs, rfl, h3, DsAt_pv r vs h4⟩) (.cons (by rw [PvAt]; exact ⟨q2, vs2, rfl, h5, DsAt_pv o vs2 h6⟩) .nil)))⟩
theorem DsAt_pv : ∀ (r : List Dd) (vs : List V), DsAt K C H vs r → PvsAt K C CP p H (rPv r) vs
  | [], vs, h => by
    rw [DsAt] at h
    rw [rPv, PvsAt]
    exact h
  | d :: r, vs, h => by
    rw [DsAt] at h
    obtain ⟨v, us, rfl, h1, h2⟩ := h
    rw [rPv]
    exact .cons (DAt_pv d v h1) (DsAt_pv r us h2)
end
end
def Pv.its : Pv → Option (List Pv)
  | .tup xs => some xs
  | .row r => some (rPv r)
  | _ => none
theorem its_is {x : Pv} : x.is .tup = x.its.isSome := by cases x <;> rfl
theorem PvAt.its {K : PySem.W.Frag} {C CP : Addr} {p : List Addr} {H : Hp} {x : Pv} {v : V} {xs : List Pv} (h : PvAt K C CP p H x v) (e : x.its = some xs) : ∃ a us, v = .ref a ∧ SqT K H a us ∧ PvsAt K C CP p H xs us := by
  cases x with
  | tup ys =>
    cases Option.some.inj e
    rw [PvAt] at h
    exact h
  | row r =>
    cases Option.some.inj e
    rw [PvAt] at h
    obtain ⟨a, rfl, vs, h1, h2⟩ := h
    exact ⟨a, vs, rfl, h1, DsAt_pv r vs h2⟩
  | _ => cases e
def kNms : List Str := [("told" : Str), ("first" : Str), ("second" : Str), ("pair" : Str), ("same" : Str), ("while" : Str), ("if" : Str)]
def fP : Nat → List Nat
  | 0 => [110, 116]
  | 1 => [110, 110]
  | 2 => [110, 110]
  | 3 => [110, 110, 110]
  | 4 => [110, 110, 110]
  | 5 => [110, 114]
  | _ => [110, 114, 114]
def fPS : Nat → Str
  | 0 => "nt"
  | 1 => "nn"
  | 2 => "nn"
  | 3 => "nnn"
  | 4 => "nnn"
  | 5 => "nr"
  | _ => "nrr"
def kix (z : Str) : Option Nat := kNms.findIdx? (· == z)
theorem kix_some {z : Str} {k : Nat} (h : kix z = some k) : k < 7 ∧ kNms[k]? = some z := by
  unfold kix at h
  rw [List.findIdx?_eq_some_iff_getElem] at h
  obtain ⟨h1, h2, _⟩ := h
  refine ⟨h1, ?_⟩
  rw [List.getElem?_eq_getElem h1]
  rw [eq_of_beq h2]
theorem fPS_cps : ∀ k, (fPS k).cps.toList = fP k
  | 0 => by rw [fPS, cps_nt]; rfl
  | 1 => by rw [fPS, cps_nn]; rfl
  | 2 => by rw [fPS, cps_nn]; rfl
  | 3 => by rw [fPS, cps_nnn]; rfl
  | 4 => by rw [fPS, cps_nnn]; rfl
  | 5 => by rw [fPS, cps_nr]; rfl
  | k + 6 => by
    show ("nrr" : Str).cps.toList = [110, 114, 114]
    rw [cps_nrr]
theorem kix_form {z : Str} {k : Nat} (h : kix z = some k) : (z, fPS k) ∈ forms := by
  obtain ⟨h7, h⟩ := kix_some h
  match k, h7, h with
  | 0, _, h => cases Option.some.inj h; simp [forms, fPS]
  | 1, _, h => cases Option.some.inj h; simp [forms, fPS]
  | 2, _, h => cases Option.some.inj h; simp [forms, fPS]
  | 3, _, h => cases Option.some.inj h; simp [forms, fPS]
  | 4, _, h => cases Option.some.inj h; simp [forms, fPS]
  | 5, _, h => cases Option.some.inj h; simp [forms, fPS]
  | 6, _, h => cases Option.some.inj h; simp [forms, fPS]
theorem kix0 : kix "told" = some 0 := by decide +kernel
theorem kix1 : kix "first" = some 1 := by decide +kernel
theorem kix2 : kix "second" = some 2 := by decide +kernel
theorem kix3 : kix "pair" = some 3 := by decide +kernel
theorem kix4 : kix "same" = some 4 := by decide +kernel
theorem kix5 : kix "while" = some 5 := by decide +kernel
theorem kix6 : kix "if" = some 6 := by decide +kernel
def nmB : Pv → Bool
  | .int i => decide (0 ≤ i) && decide (i < 10)
  | _ => false
def fitP (x : Pv) (c : Nat) : Bool := if c = 110 then nmB x else if c = 116 then x.is .T else x.is .tup
def fitsP : List Pv → List Nat → List Bool
  | x :: xs, c :: cs => fitP x c :: fitsP xs cs
  | _, _ => []
theorem fitsP_take : ∀ (i : Nat) (xs : List Pv) (cs : List Nat) {x : Pv} {c : Nat}, xs[i]? = some x → cs[i]? = some c → (fitsP xs cs).take (i + 1) = (fitsP xs cs).take i ++ [fitP x c]
  | 0, x :: xs, c :: cs, _, _, h1, h2 => by
    cases Option.some.inj h1
    cases Option.some.inj h2
    rfl
  | i + 1, y :: xs, d :: cs, x, c, h1, h2 => by
    rw [fitsP, List.take_succ_cons, List.take_succ_cons, fitsP_take i xs cs (by simpa using h1) (by simpa using h2)]
    rfl
  | 0, [], _, _, _, h1, _ => by cases h1
  | i + 1, [], _, _, _, h1, _ => by cases h1
  | 0, _ :: _, [], _, _, _, h2 => by cases h2
  | i + 1, _ :: _, [], _, _, _, h2 => by cases h2
theorem fitsP_len : ∀ (xs : List Pv) (cs : List Nat), xs.length = cs.length → (fitsP xs cs).length = xs.length
  | [], [], _ => rfl
  | [], _ :: _, h => by cases h
  | _ :: _, [], h => by cases h
  | x :: xs, c :: cs, h => by
    rw [fitsP, List.length_cons, List.length_cons, fitsP_len xs cs (by simpa using h)]
def formP (x : Pv) : Bool := match x.its with
  | some (.str z :: xs) => match kix z with
    | some k => decide (xs.length = (fP k).length) && (fitsP xs (fP k)).all id
    | none => false
  | _ => false
theorem nmB_inv {x : Pv} (h : fitP x 110 = true) : ∃ a : Nat, a < 10 ∧ x = .int (a : Nat) := by
  cases x with
  | int i =>
    have h : (decide (0 ≤ i) && decide (i < 10)) = true := h
    rw [Bool.and_eq_true, decide_eq_true_eq, decide_eq_true_eq] at h
    exact ⟨i.toNat, by omega, by congr 1; omega⟩
  | _ => cases h
theorem fitT_inv {x : Pv} (h : fitP x 116 = true) : ∃ t, x = .th t := by
  cases x with
  | th t => exact ⟨t, rfl⟩
  | _ => cases h
theorem fitR_inv {x : Pv} (h : fitP x 114 = true) : ∃ r, x.its = some r := by
  cases x with
  | tup t => exact ⟨_, rfl⟩
  | row t => exact ⟨_, rfl⟩
  | _ => cases h
theorem len2 {α : Type} {l : List α} (h : l.length = 2) : ∃ a b, l = [a, b] := by
  match l, h with
  | [a, b], _ => exact ⟨a, b, rfl⟩
theorem len3 {α : Type} {l : List α} (h : l.length = 3) : ∃ a b c, l = [a, b, c] := by
  match l, h with
  | [a, b, c], _ => exact ⟨a, b, c, rfl⟩
theorem formP_inv {x : Pv} (h : formP x = true) : (∃ (a : Nat) (t : Tr), a < 10 ∧ x.its = some [.str "told", .int (a : Nat), .th t]) ∨
    (∃ (s : Bool) (a b : Nat), a < 10 ∧ b < 10 ∧ x.its = some [.str (takeS s), .int (a : Nat), .int (b : Nat)]) ∨
    (∃ (s : Bool) (a b c : Nat), a < 10 ∧ b < 10 ∧ c < 10 ∧ x.its = some [.str (twoS s), .int (a : Nat), .int (b : Nat), .int (c : Nat)]) ∨
    (∃ (a : Nat) (y : Pv) (r : List Pv), a < 10 ∧ y.its = some r ∧ x.its = some [.str "while", .int (a : Nat), y]) ∨
    (∃ (a : Nat) (y z : Pv) (r o : List Pv), a < 10 ∧ y.its = some r ∧ z.its = some o ∧ x.its = some [.str "if", .int (a : Nat), y, z]) := by
  unfold formP at h
  split at h
  rotate_left
  · cases h
  rename_i z xs hi
  rw [hi]
  split at h
  rotate_left
  · cases h
  rename_i k hk
  obtain ⟨h7, hz⟩ := kix_some hk
  rw [Bool.and_eq_true, decide_eq_true_eq] at h
  obtain ⟨hl, hf⟩ := h
  match k, h7, hz, hl, hf with
  | 0, _, hz, hl, hf =>
    cases Option.some.inj hz
    obtain ⟨a, b, rfl⟩ := len2 hl
    simp only [fP, fitsP, List.all_cons, List.all_nil, Bool.and_true, id, Bool.and_eq_true] at hf
    obtain ⟨f1, f2⟩ := hf
    obtain ⟨a, h1, rfl⟩ := nmB_inv f1
    obtain ⟨t, rfl⟩ := fitT_inv f2
    exact .inl ⟨a, t, h1, rfl⟩
  | 1, _, hz, hl, hf =>
    cases Option.some.inj hz
    obtain ⟨a, b, rfl⟩ := len2 hl
    simp only [fP, fitsP, List.all_cons, List.all_nil, Bool.and_true, id, Bool.and_eq_true] at hf
    obtain ⟨f1, f2⟩ := hf
    obtain ⟨a, h1, rfl⟩ := nmB_inv f1
    obtain ⟨b, h2, rfl⟩ := nmB_inv f2
    exact .inr (.inl ⟨false, a, b, h1, h2, rfl⟩)
  | 2, _, hz, hl, hf =>
    cases Option.some.inj hz
    obtain ⟨a, b, rfl⟩ := len2 hl
    simp only [fP, fitsP, List.all_cons, List.all_nil, Bool.and_true, id, Bool.and_eq_true] at hf
    obtain ⟨f1, f2⟩ := hf
    obtain ⟨a, h1, rfl⟩ := nmB_inv f1
    obtain ⟨b, h2, rfl⟩ := nmB_inv f2
    exact .inr (.inl ⟨true, a, b, h1, h2, rfl⟩)
  | 3, _, hz, hl, hf =>
    cases Option.some.inj hz
    obtain ⟨a, b, c, rfl⟩ := len3 hl
    simp only [fP, fitsP, List.all_cons, List.all_nil, Bool.and_true, id, Bool.and_eq_true] at hf
    obtain ⟨f1, f2, f3⟩ := hf
    obtain ⟨a, h1, rfl⟩ := nmB_inv f1
    obtain ⟨b, h2, rfl⟩ := nmB_inv f2
    obtain ⟨c, h3, rfl⟩ := nmB_inv f3
    exact .inr (.inr (.inl ⟨false, a, b, c, h1, h2, h3, rfl⟩))
  | 4, _, hz, hl, hf =>
    cases Option.some.inj hz
    obtain ⟨a, b, c, rfl⟩ := len3 hl
    simp only [fP, fitsP, List.all_cons, List.all_nil, Bool.and_true, id, Bool.and_eq_true] at hf
    obtain ⟨f1, f2, f3⟩ := hf
    obtain ⟨a, h1, rfl⟩ := nmB_inv f1
    obtain ⟨b, h2, rfl⟩ := nmB_inv f2
    obtain ⟨c, h3, rfl⟩ := nmB_inv f3
    exact .inr (.inr (.inl ⟨true, a, b, c, h1, h2, h3, rfl⟩))
  | 5, _, hz, hl, hf =>
    cases Option.some.inj hz
    obtain ⟨a, b, rfl⟩ := len2 hl
    simp only [fP, fitsP, List.all_cons, List.all_nil, Bool.and_true, id, Bool.and_eq_true] at hf
    obtain ⟨f1, f2⟩ := hf
    obtain ⟨a, h1, rfl⟩ := nmB_inv f1
    obtain ⟨r, h2⟩ := fitR_inv f2
    exact .inr (.inr (.inr (.inl ⟨a, b, r, h1, h2, rfl⟩)))
  | 6, _, hz, hl, hf =>
    cases Option.some.inj hz
    obtain ⟨a, b, c, rfl⟩ := len3 hl
    simp only [fP, fitsP, List.all_cons, List.all_nil, Bool.and_true, id, Bool.and_eq_true] at hf
    obtain ⟨f1, f2, f3⟩ := hf
    obtain ⟨a, h1, rfl⟩ := nmB_inv f1
    obtain ⟨r, h2⟩ := fitR_inv f2
    obtain ⟨o, h3⟩ := fitR_inv f3
    exact .inr (.inr (.inr (.inr ⟨a, b, c, r, o, h1, h2, h3, rfl⟩)))
def nmO (ps : List Pv) (i : Nat) : Option Nat := match ps[i]? with
  | some (.int a) => some a.toNat
  | _ => some 0
def thO (ps : List Pv) (i : Nat) : Tr := match ps[i]? with
  | some (.th a) => a
  | _ => .nil
def rwO (ps : List Pv) (i : Nat) : List Pv := match ps[i]? with
  | some y => y.its.getD []
  | _ => []
def bldP (c : List Pv → List Rw) : Nat → List Pv → Rw
  | 0, ps => .told (nmO ps 0) (thO ps 1)
  | 1, ps => .take false (nmO ps 0) (nmO ps 1)
  | 2, ps => .take true (nmO ps 0) (nmO ps 1)
  | 3, ps => .two false (nmO ps 0) (nmO ps 1) (nmO ps 2)
  | 4, ps => .two true (nmO ps 0) (nmO ps 1) (nmO ps 2)
  | 5, ps => .wh (nmO ps 0) (c (rwO ps 1))
  | _, ps => .iff (nmO ps 0) (c (rwO ps 1)) (c (rwO ps 2))
def pvR0 (c : List Pv → List Rw) (x : Pv) : Rw := if formP x = true then (match x.its with
  | some (.str z :: ps) => bldP c ((kix z).getD 0) ps
  | _ => .bad) else .bad
def pvR : Nat → Pv → Rw
  | 0 => pvR0 (fun _ => [.bad])
  | k + 1 => pvR0 (fun r => r.map (pvR k))
def cutP : Nat → List Pv → List Rw
  | 0 => fun _ => [.bad]
  | k + 1 => fun r => r.map (pvR k)
theorem pvR_0 (k : Nat) : pvR k = pvR0 (cutP k) := by cases k <;> rfl
def rowsP (x : Pv) : List (List Pv) := if formP x = true then (match x.its with
  | some (.str z :: ps) => if kix z = some 5 then [rwO ps 1] else if kix z = some 6 then [rwO ps 1, rwO ps 2] else []
  | _ => []) else []
section
variable {c : List Pv → List Rw} {x : Pv}
theorem pvR0_of {z : Str} {ps : List Pv} {k : Nat} (h : formP x = true) (hi : x.its = some (.str z :: ps)) (hk : kix z = some k) : pvR0 c x = bldP c k ps := by
  unfold pvR0
  rw [if_pos h, hi]
  simp only [hk, Option.getD_some]
theorem rowsP_of {z : Str} {ps : List Pv} (h : formP x = true) (hi : x.its = some (.str z :: ps)) : rowsP x = if kix z = some 5 then [rwO ps 1] else if kix z = some 6 then [rwO ps 1, rwO ps 2] else [] := by
  unfold rowsP
  rw [if_pos h, hi]
theorem nmW_lt {a : Nat} (h : a < 10) : nmW (some a) = some a := by rw [nmW, if_pos h]
theorem pvR0_form : formB (pvR0 c x) = formP x ∧ (pvR0 c x).rows = (rowsP x).map c := by
  cases hf : formP x with
  | false =>
    unfold pvR0 rowsP
    rw [if_neg (by rw [hf]; decide), if_neg (by rw [hf]; decide)]
    exact ⟨rfl, rfl⟩
  | true =>
    rcases formP_inv hf with ⟨a, t, h1, hi⟩ | ⟨s, a, b, h1, h2, hi⟩ | ⟨s, a, b, d, h1, h2, h3, hi⟩ | ⟨a, y, r, h1, h2, hi⟩ | ⟨a, y, z, r, o, h1, h2, h3, hi⟩
    · rw [pvR0_of hf hi kix0, rowsP_of hf hi, kix0]
      refine ⟨?_, rfl⟩
      show ((nmW (some a)).isSome && (true && true)) = true
      rw [nmW_lt h1]
      rfl
    · cases s
      · rw [takeS] at hi
        rw [pvR0_of hf hi kix1, rowsP_of hf hi, kix1]
        refine ⟨?_, rfl⟩
        show ((nmW (some a)).isSome && ((nmW (some b)).isSome && true)) = true
        rw [nmW_lt h1, nmW_lt h2]
        rfl
      · rw [takeS] at hi
        rw [pvR0_of hf hi kix2, rowsP_of hf hi, kix2]
        refine ⟨?_, rfl⟩
        show ((nmW (some a)).isSome && ((nmW (some b)).isSome && true)) = true
        rw [nmW_lt h1, nmW_lt h2]
        rfl
    · cases s
      · rw [twoS] at hi
        rw [pvR0_of hf hi kix3, rowsP_of hf hi, kix3]
        refine ⟨?_, rfl⟩
        show ((nmW (some a)).isSome && ((nmW (some b)).isSome && ((nmW (some d)).isSome && true))) = true
        rw [nmW_lt h1, nmW_lt h2, nmW_lt h3]
        rfl
      · rw [twoS] at hi
        rw [pvR0_of hf hi kix4, rowsP_of hf hi, kix4]
        refine ⟨?_, rfl⟩
        show ((nmW (some a)).isSome && ((nmW (some b)).isSome && ((nmW (some d)).isSome && true))) = true
        rw [nmW_lt h1, nmW_lt h2, nmW_lt h3]
        rfl
    · rw [pvR0_of hf hi kix5, rowsP_of hf hi, kix5]
      refine ⟨?_, rfl⟩
      show ((nmW (some a)).isSome && (true && true)) = true
      rw [nmW_lt h1]
      rfl
    · rw [pvR0_of hf hi kix6, rowsP_of hf hi, kix6]
      refine ⟨?_, rfl⟩
      show ((nmW (some a)).isSome && (true && (true && true))) = true
      rw [nmW_lt h1]
      rfl
end
theorem pvR_form (k : Nat) (x : Pv) : formB (pvR k x) = formP x := by rw [pvR_0]; exact pvR0_form.1
theorem pvR_rows (k : Nat) (x : Pv) : (pvR k x).rows = (rowsP x).map (cutP k) := by rw [pvR_0]; exact pvR0_form.2
section
variable {K : PySem.W.Frag} {C CP : Addr} {p : List Addr} {H : Hp}
theorem pvI_inv {i : Int} {v : V} (h : PvAt K C CP p H (.int i) v) : v = .int i := by rw [PvAt] at h; exact h
theorem pvS_inv {i : Str} {v : V} (h : PvAt K C CP p H (.str i) v) : v = .str i := by rw [PvAt] at h; exact h
theorem pvs_nil {vs : List V} (h : PvsAt K C CP p H [] vs) : vs = [] := by rw [PvsAt] at h; exact h
theorem pv_dd {c : List Pv → List Rw} (hc : ∀ (r : List Pv) (us : List V) (q : List Dd), PvsAt K C CP p H r us → rowD (c r) = some q → DsAt K C H us q) {x : Pv} {v : V} {d : Dd} (h : PvAt K C CP p H x v) (e : (pvR0 c x).dd = some d) : DAt K C H v d := by
  have hf : formP x = true := by
    rw [← (pvR0_form (c := c)).1]
    exact formB_of e
  rcases formP_inv hf with ⟨a, t, h1, hi⟩ | ⟨s, a, b, h1, h2, hi⟩ | ⟨s, a, b, g, h1, h2, h3, hi⟩ | ⟨a, y, r, h1, h2, hi⟩ | ⟨a, y, z, r, o, h1, h2, h3, hi⟩
  · obtain ⟨q, us, rfl, hq, hus⟩ := h.its hi
    obtain ⟨u0, us, rfl, g0, hus⟩ := hus.inv
    obtain ⟨u1, us, rfl, g1, hus⟩ := hus.inv
    obtain ⟨u2, us, rfl, g2, hus⟩ := hus.inv
    cases pvs_nil hus
    cases pvS_inv g0
    cases pvI_inv g1
    rw [PvAt] at g2
    obtain ⟨w, rfl, g3, g4⟩ := g2
    rw [pvR0_of hf hi kix0] at e
    have e : (Rw.told (some a) t).dd = some d := e
    rw [Rw.dd, nmW_lt h1] at e
    cases Option.some.inj e
    exact ⟨q, w, rfl, hq, h1, g3, g4⟩
  · obtain ⟨q, us, rfl, hq, hus⟩ := h.its hi
    obtain ⟨u0, us, rfl, g0, hus⟩ := hus.inv
    obtain ⟨u1, us, rfl, g1, hus⟩ := hus.inv
    obtain ⟨u2, us, rfl, g2, hus⟩ := hus.inv
    cases pvs_nil hus
    cases pvS_inv g0
    cases pvI_inv g1
    cases pvI_inv g2
    have e : (Rw.take s (some a) (some b)).dd = some d := by
      cases s
      · rw [takeS] at hi
        rw [pvR0_of hf hi kix1] at e
        exact e
      · rw [takeS] at hi
        rw [pvR0_of hf hi kix2] at e
        exact e
    rw [Rw.dd, nmW_lt h1, nmW_lt h2] at e
    cases Option.some.inj e
    exact ⟨q, rfl, hq, h1, h2⟩
  · obtain ⟨q, us, rfl, hq, hus⟩ := h.its hi
    obtain ⟨u0, us, rfl, g0, hus⟩ := hus.inv
    obtain ⟨u1, us, rfl, g1, hus⟩ := hus.inv
    obtain ⟨u2, us, rfl, g2, hus⟩ := hus.inv
    obtain ⟨u3, us, rfl, g3, hus⟩ := hus.inv
    cases pvs_nil hus
    cases pvS_inv g0
    cases pvI_inv g1
    cases pvI_inv g2
    cases pvI_inv g3
    have e : (Rw.two s (some a) (some b) (some g)).dd = some d := by
      cases s
      · rw [twoS] at hi
        rw [pvR0_of hf hi kix3] at e
        exact e
      · rw [twoS] at hi
        rw [pvR0_of hf hi kix4] at e
        exact e
    rw [Rw.dd, nmW_lt h1, nmW_lt h2, nmW_lt h3] at e
    cases Option.some.inj e
    exact ⟨q, rfl, hq, h1, h2, h3⟩
  · obtain ⟨q, us, rfl, hq, hus⟩ := h.its hi
    obtain ⟨u0, us, rfl, g0, hus⟩ := hus.inv
    obtain ⟨u1, us, rfl, g1, hus⟩ := hus.inv
    obtain ⟨u2, us, rfl, g2, hus⟩ := hus.inv
    cases pvs_nil hus
    cases pvS_inv g0
    cases pvI_inv g1
    obtain ⟨q1, vs1, rfl, g3, g4⟩ := g2.its h2
    have e : (Rw.wh (some a) (c r)).dd = some d := by
      rw [pvR0_of hf hi kix5] at e
      have er : rwO [Pv.int (a : Nat), y] 1 = r := by
        show y.its.getD [] = r
        rw [h2]
        rfl
      rw [bldP, er] at e
      exact e
    rw [Rw.dd, nmW_lt h1] at e
    cases er : rowD (c r) with
    | none => rw [er] at e; cases e
    | some rr =>
      rw [er] at e
      cases Option.some.inj e
      exact ⟨q, q1, vs1, rfl, hq, h1, g3, hc _ _ _ g4 er⟩
  · obtain ⟨q, us, rfl, hq, hus⟩ := h.its hi
    obtain ⟨u0, us, rfl, g0, hus⟩ := hus.inv
    obtain ⟨u1, us, rfl, g1, hus⟩ := hus.inv
    obtain ⟨u2, us, rfl, g2, hus⟩ := hus.inv
    obtain ⟨u3, us, rfl, g3, hus⟩ := hus.inv
    cases pvs_nil hus
    cases pvS_inv g0
    cases pvI_inv g1
    obtain ⟨q1, vs1, rfl, g4, g5⟩ := g2.its h2
    obtain ⟨q2, vs2, rfl, g6, g7⟩ := g3.its h3
    have e : (Rw.iff (some a) (c r) (c o)).dd = some d := by
      rw [pvR0_of hf hi kix6] at e
      have er : rwO [Pv.int (a : Nat), y, z] 1 = r := by
        show y.its.getD [] = r
        rw [h2]
        rfl
      have eo : rwO [Pv.int (a : Nat), y, z] 2 = o := by
        show z.its.getD [] = o
        rw [h3]
        rfl
      have e : (Rw.iff (some a) (c (rwO [Pv.int (a : Nat), y, z] 1)) (c (rwO [Pv.int (a : Nat), y, z] 2))).dd = some d := e
      rw [er, eo] at e
      exact e
    rw [Rw.dd, nmW_lt h1] at e
    cases er : rowD (c r) with
    | none => rw [er] at e; cases e
    | some rr =>
      cases eo : rowD (c o) with
      | none => rw [er, eo] at e; cases e
      | some oo =>
        rw [er, eo] at e
        cases Option.some.inj e
        exact ⟨q, q1, vs1, q2, vs2, rfl, hq, h1, g4, hc _ _ _ g5 er, g6, hc _ _ _ g7 eo⟩
theorem pvs_dd {k : Nat} (hk : ∀ (x : Pv) (v : V) (d : Dd), PvAt K C CP p H x v → (pvR k x).dd = some d → DAt K C H v d) : ∀ (r : List Pv) (us : List V) (q : List Dd), PvsAt K C CP p H r us → rowD (r.map (pvR k)) = some q → DsAt K C H us q
  | [], us, q, h, e => by
    cases Option.some.inj e
    cases pvs_nil h
    rfl
  | x :: r, us, q, h, e => by
    obtain ⟨v, us, rfl, h1, h2⟩ := h.inv
    rw [List.map_cons] at e
    obtain ⟨d, q, e1, e2, rfl⟩ := rowD_cons e
    exact ⟨v, us, rfl, hk x v d h1 e1, pvs_dd hk r us q h2 e2⟩
theorem pvR_dd : ∀ (k : Nat) (x : Pv) (v : V) (d : Dd), PvAt K C CP p H x v → (pvR k x).dd = some d → DAt K C H v d
  | 0, x, v, d, h, e => pv_dd (c := fun _ => [.bad]) (fun r us q _ e => by
    have : rowD [Rw.bad] = none := by rw [rowD, Rw.dd]
    rw [this] at e
    cases e) h e
  | k + 1, x, v, d, h, e => pv_dd (c := fun r => r.map (pvR k)) (pvs_dd (pvR_dd k)) h e
theorem pvsR_dd {k : Nat} {r : List Pv} {us : List V} {q : List Dd} (h : PvsAt K C CP p H r us) (e : rowD (r.map (pvR k)) = some q) : DsAt K C H us q := pvs_dd (pvR_dd k) r us q h e
end
mutual
def OkP (W : Str → Prop) : Pv → Prop
  | .str z => kix z = none → W z
  | .tup xs => OksP W xs
  | _ => True
def OksP (W : Str → Prop) : List Pv → Prop
  | [] => True
  | x :: xs => OkP W x ∧ OksP W xs
end
theorem OksP_mem {W : Str → Prop} : ∀ {xs : List Pv} {x : Pv}, OksP W xs → x ∈ xs → OkP W x
  | y :: xs, x, h, hm => by
    rw [OksP] at h
    rcases List.mem_cons.mp hm with rfl | hm
    · exact h.1
    · exact OksP_mem h.2 hm
theorem OksP_of {W : Str → Prop} : ∀ {xs : List Pv}, (∀ x ∈ xs, OkP W x) → OksP W xs
  | [], _ => by rw [OksP]; trivial
  | y :: xs, h => by
    rw [OksP]
    exact ⟨h y List.mem_cons_self, OksP_of fun x hx => h x (List.mem_cons_of_mem _ hx)⟩
theorem okP_int {W : Str → Prop} {i : Int} : OkP W (.int i) := by simp only [OkP]
theorem okP_kind {W : Str → Prop} {z : Str} {k : Nat} (h : kix z = some k) : OkP W (.str z) := by
  rw [OkP]
  intro e
  rw [h] at e
  cases e
mutual
theorem okP_dd {W : Str → Prop} : ∀ d : Dd, OkP W (ddPv d)
  | .told a t => by
    rw [ddPv, OkP, OksP, OksP, OksP, OksP]
    exact ⟨okP_kind kix0, okP_int, by simp only [OkP], trivial⟩
  | .take s a b => by
    rw [ddPv, OkP, OksP, OksP, OksP, OksP]
    exact ⟨by cases s; exact okP_kind kix1; exact okP_kind kix2, okP_int, okP_int, trivial⟩
  | .two s a b c => by
    rw [ddPv, OkP, OksP, OksP, OksP, OksP, OksP]
    exact ⟨by cases s; exact okP_kind kix3; exact okP_kind kix4, okP_int, okP_int, okP_int, trivial⟩
  | .wh a r => by
    rw [ddPv, OkP, OksP, OksP, OksP, OksP]
    exact ⟨okP_kind kix5, okP_int, by rw [OkP]; exact okP_row r, trivial⟩
  | .iff a r o => by
    rw [ddPv, OkP, OksP, OksP, OksP, OksP, OksP]
    exact ⟨okP_kind kix6, okP_int, by rw [OkP]; exact okP_row r, by rw [OkP]; exact okP_row o, trivial⟩
theorem okP_row {W : Str → Prop} : ∀ r : List Dd, OksP W (rPv r)
  | [] => by rw [rPv, OksP]; trivial
  | d :: r => by
    rw [rPv, OksP]
    exact ⟨okP_dd d, okP_row r⟩
end
theorem OkP.its {W : Str → Prop} {x : Pv} {xs : List Pv} (h : OkP W x) (e : x.its = some xs) : OksP W xs := by
  cases x with
  | tup ys =>
    cases Option.some.inj e
    rw [OkP] at h
    exact h
  | row r =>
    cases Option.some.inj e
    exact okP_row r
  | _ => cases e
end Js
set_option Elab.async false
set_option linter.all false
set_option maxRecDepth 100000
set_option maxHeartbeats 2000000
namespace Js
open PySem L2
open PySem.Spec PyProof.Rows
theorem ite_blV {b : Bool} {X Y : Prop} (ht : b = true → X) (hf : b = false → Y) : if b = true then X else Y := by
  cases b with
  | true => exact iteT (ht rfl)
  | false => exact iteF (hf rfl)
def WfP (K : PySem.W.Frag) (mg : Str → Option Value) (z : Str) : Prop := ∀ d, mg "FORMS" = some (.ref d) → PySem.W.nsIn K d z = some none
def sgnP (c : Nat) : Prop := c = 110 ∨ c = 116 ∨ c = 114
theorem sgn_fP : ∀ (k c : Nat), c ∈ fP k → sgnP c
  | 0, c, h => by simp [fP] at h; rcases h with rfl | rfl <;> simp [sgnP]
  | 1, c, h => by simp [fP] at h; simp [sgnP, h]
  | 2, c, h => by simp [fP] at h; simp [sgnP, h]
  | 3, c, h => by simp [fP] at h; simp [sgnP, h]
  | 4, c, h => by simp [fP] at h; simp [sgnP, h]
  | 5, c, h => by simp [fP] at h; rcases h with rfl | rfl <;> simp [sgnP]
  | k + 6, c, h => by
    have h : c ∈ [110, 114, 114] := h
    simp at h
    rcases h with rfl | rfl <;> simp [sgnP]
def spIsNameV (K : PySem.W.Frag) (C CP : Addr) : Sp := fun vs H Q _ => ∃ p v x, vs = [v] ∧ PvAt K C CP p H x v ∧ Q (.bl (nmB x)) H
def spFitsV (K : PySem.W.Frag) (C CP : Addr) : Sp := fun vs H Q _ => ∃ p v x c, vs = [v, .str ⟨#[c]⟩] ∧ sgnP c ∧ PvAt K C CP p H x v ∧ Q (.bl (fitP x c)) H
def spHasFormV (K : PySem.W.Frag) (C CP : Addr) (mg : Str → Option Value) : Sp := fun vs H Q _ => ∃ p v x, vs = [v] ∧ PvAt K C CP p H x v ∧ OkP (WfP K mg) x ∧ ∀ H', Same H H' → Q (.bl (formP x)) H'
section
variable {P : Program} {w : World} {K : PySem.W.Frag} {mg : Str → Option Value} {base : Heap} {C CP : Addr}
theorem ok_isNameV {f : Addr} {fd : FuncData} (F : Fun K "is_name" "is_name" sIsName f fd) (B : Blt mg) (T : Txt K mg C) (TP : TxtP K mg CP) (G : FrmC K w mg) (PK : PvK K C CP) : FnOk P w K mg base CX0 1 f fd ["part"] (spIsNameV K C CP) := by
  obtain ⟨tm, mM⟩ := G.mM
  refine F.ok scIN (fun vs H Q E h => ?_) (fun cdv A outer s H vs Q E hr h => ?_)
  · obtain ⟨p, v, x, rfl, _⟩ := h
    rfl
  · obtain ⟨p, v, x, rfl, hx, k⟩ := h
    refine ⟨_, pss_one (ps_ret (pe_and (pe_callB (r := rIsi K) call_isi (by rfl) T.isi PyProof.Rows.boot_isinstance (pa_cons (pv 0) (pa_cons (pe_bltn (v := .ty "int") rfl B.int PyProof.Rows.boot_int rfl) pa_nil))) (pe_and (pe_not (pe_callB (r := rIsi K) call_isi (by rfl) T.isi PyProof.Rows.boot_isinstance (pa_cons (pv 0) (pa_cons (pe_bltn (v := .ty "bool") rfl G.mb PyProof.Rows.boot_bool rfl) pa_nil)))) (pe_one (pe_chain op_le op_lt pe_int (pv 0) (pe_glob (v := .int 10) rfl mM ⟨_, rfl⟩)))))), ?_⟩
    refine ⟨_, rfl, _, _, _, _, _, rfl, Ck.cls C CP .int, tyPv T TP hx, PK.kit _ .int, ?_⟩
    refine ⟨_, rfl, ite_blV (fun h1 => ?_) (fun h1 => ?_)⟩
    · refine ⟨_, rfl, _, _, _, _, _, rfl, Ck.cls C CP .bool, tyPv T TP hx, PK.kit _ .bool, ?_⟩
      refine ⟨_, rfl, _, rfl, ite_blV (fun h2 => ?_) (fun h2 => ?_)⟩
      · cases x with
        | int i =>
          cases pvI_inv hx
          refine ⟨_, rfl, _, _, rfl, rfl, _, rfl, ite_blV (fun h3 => ?_) (fun h3 => ?_)⟩
          · refine ⟨_, _, rfl, rfl, ?_⟩
            have e : nmB (.int i) = decide (i < 10) := by
              rw [decide_eq_true_eq] at h3
              show (decide (0 ≤ i) && decide (i < 10)) = _
              rw [decide_eq_true h3, Bool.true_and]
            rw [e] at k
            exact k
          · have e : nmB (.int i) = false := by
              rw [decide_eq_false_iff_not] at h3
              show (decide (0 ≤ i) && decide (i < 10)) = _
              rw [decide_eq_false h3, Bool.false_and]
            rw [e] at k
            exact k
        | bl b => cases h2
        | _ => cases h1
      · have e : nmB x = false := by cases x <;> first | rfl | (cases h2; done) | (cases h1; done)
        rw [e] at k
        exact k
    · have e : nmB x = false := by cases x <;> first | rfl | cases h1
      rw [e] at k
      exact k
theorem ok_fitsV {f : Addr} {fd : FuncData} (F : Fun K "fits" "fits" sFits f fd) (B : Blt mg) (T : Txt K mg C) (TP : TxtP K mg CP) (G : FrmC K w mg) (PK : PvK K C CP) (DI : Def P w K mg base "is_name" 1 ["part"] (spIsNameV K C CP)) : FnOk P w K mg base CX0 2 f fd ["part", "sign"] (spFitsV K C CP) := by
  refine F.ok scFt (fun vs H Q E h => ?_) (fun cdv A outer s H vs Q E hr h => ?_)
  · obtain ⟨p, v, x, c, rfl, _⟩ := h
    rfl
  · obtain ⟨p, v, x, c, rfl, hc, hx, k⟩ := h
    refine ⟨_, pss_cons (ps_if (pt_cmpR op_eq (pv 1) pe_str (nomark _)) (pss_one (ps_ret (pe_def DI hr rfl (pa_cons (pv 0) pa_nil)))) pss_nil) (pss_cons (ps_if (pt_cmpR op_eq (pv 1) pe_str (nomark _)) (pss_one (ps_ret (pe_callB (r := rIsi K) call_isi (by rfl) T.isi PyProof.Rows.boot_isinstance (pa_cons (pv 0) (pa_cons (pe_glob (v := .ref C) rfl T.mgC rfl) pa_nil))))) pss_nil) (pss_one (ps_ret (pe_callB (r := rIsi K) call_isi (by rfl) T.isi PyProof.Rows.boot_isinstance (pa_cons (pv 0) (pa_cons (pe_bltn (v := .ty "tuple") rfl G.mt PyProof.Rows.boot_tuple rfl) pa_nil)))))), ?_⟩
    unfold fitP at k
    refine ⟨_, rfl, rfl, _, rfl, ?_⟩
    rw [c_n, sg_eq]
    by_cases c1 : c = 110
    · rw [decide_eq_true c1]
      rw [if_pos c1] at k
      exact iteT ⟨_, rfl, p, v, x, rfl, hx, k⟩
    rw [decide_eq_false c1]
    rw [if_neg c1] at k
    refine iteF ⟨_, rfl, rfl, _, rfl, ?_⟩
    rw [c_t, sg_eq]
    by_cases c2 : c = 116
    · rw [decide_eq_true c2]
      rw [if_pos c2] at k
      exact iteT ⟨_, rfl, _, _, _, _, _, rfl, Ck.cls C CP .T, tyPv T TP hx, PK.kit _ .T, k⟩
    rw [decide_eq_false c2]
    rw [if_neg c2] at k
    exact iteF ⟨_, rfl, _, _, _, _, _, rfl, Ck.cls C CP .tup, tyPv T TP hx, PK.kit _ .tup, k⟩
theorem ok_hasFormV {f : Addr} {fd : FuncData} (F : Fun K "has_form" "has_form" sHasForm f fd) (B : Blt mg) (T : Txt K mg C) (TP : TxtP K mg CP) (G : FrmC K w mg) (PK : PvK K C CP) (DF : Def P w K mg base "fits" 2 ["part", "sign"] (spFitsV K C CP)) : FnOk P w K mg base CX0 3 f fd ["deed"] (spHasFormV K C CP mg) := by
  obtain ⟨dF, es, n, mF, kd, hkf⟩ := G.ex
  refine F.ok scHF (fun vs H Q E h => ?_) (fun cdv A outer s H vs Q E hr h => ?_)
  · obtain ⟨p, v, x, rfl, _⟩ := h
    rfl
  · obtain ⟨pb, v, x, rfl, hx, hwd, k⟩ := h
    refine ⟨_, pss_cons (ps_if (PW.pt (pw_or (pt_not (pt_val (pe_callB (r := rIsi K) call_isi (by rfl) T.isi PyProof.Rows.boot_isinstance (pa_cons (pv 0) (pa_cons (pe_bltn (v := .ty "tuple") rfl G.mt PyProof.Rows.boot_tuple rfl) pa_nil))))) (pw_or1 (pt_cmpR op_eq (pe_callB call_len_seq (by rfl) B.len PySem.boot_len (pa_cons (pv 0) pa_nil)) pe_int (nomark _))))) (pss_one (ps_ret pe_bl)) pss_nil) (pss_cons (ps_set (i := 1) scHF.nd rfl (Or.inl rfl) (pe_ix (r := rIxT K) ix_tup (pv 0) pe_int (fun _ _ => rfl))) (pss_cons (ps_if (PW.pt (pw_or (pt_not (pt_val (pe_callB (r := rIsi K) call_isi (by rfl) T.isi PyProof.Rows.boot_isinstance (pa_cons (pv 1) (pa_cons (pe_bltn (v := .ty "str") rfl B.str PyProof.Rows.boot_str rfl) pa_nil))))) (pw_or1 (pt_cmpR (op_notIn_kd kd) (pv 1) (pe_glob (v := .ref dF) rfl mF rfl) rfl)))) (pss_one (ps_ret pe_bl)) pss_nil) (pss_cons (ps_set (i := 2) scHF.nd rfl (Or.inl rfl) (pe_ix (r := rIxD K w) ix_kdict (pe_glob (v := .ref dF) rfl mF rfl) (pv 1) (fun _ _ => rfl))) (pss_one (ps_ret (pe_and (pe_cmpR op_eq (pe_callB call_len_seq (by rfl) B.len PySem.boot_len (pa_cons (pv 0) pa_nil)) (pe_op op_add pe_int (pe_callB call_len_str (by rfl) B.len PySem.boot_len (pa_cons (pv 2) pa_nil))) (nomark _)) (pe_one (pe_callB (cr_all rfl) (by rfl) B.all (by decide +kernel) (pa_cons (pe_lc (own := [("part", 3), ("sign", 4)]) (g := gTup K 2 (gCons (gName 3) (gCons (gName 4) gNil))) (tt := tYes) rfl scHF.nd (pi_zipTS rfl G.mz (pa_cons (pe_slice sl_tup (pv 0) (po_some pe_int) po_none) (pa_cons (pv 2) pa_nil))) (blkOk_by (N := ["deed", "kind", "form", "part", "sign"]) (sc := defScope sHasForm) (by decide +kernel)) (fun _ _ _ _ _ => by exact (pg_tup rfl (pgs_cons (pg_name (i := 3) scHF.nd rfl (Or.inl rfl)) (pgs_cons (pg_name (i := 4) scHF.nd rfl (Or.inl rfl)) pgs_nil)))) (fun _ _ _ _ _ => pts_nil) (fun _ _ _ _ _ => (pe_def DF hr rfl (pa_cons (pv 3) (pa_cons (pv 4) pa_nil))))) pa_nil))))))))), ?_⟩
    have hsl := line4
    refine ⟨_, rfl, _, _, _, _, _, rfl, Ck.cls C CP .tup, tyPv T TP hx, PK.kit _ .tup, ?_⟩
    refine ⟨_, rfl, ?_⟩
    cases hits : x.its with
    | none =>
      have e1 : x.is .tup = false := by rw [its_is, hits]; rfl
      have e2 : formP x = false := by unfold formP; rw [hits]
      rw [e1]
      rw [e2] at k
      exact iteT (k H (Same.refl H))
    | some xs =>
    have e1 : x.is .tup = true := by rw [its_is, hits]; rfl
    rw [e1]
    refine iteF ?_
    have hwx := hwd.its hits
    obtain ⟨q, us, rfl, hq, hus⟩ := hx.its hits
    refine ⟨_, rfl, q, _, rfl, .inr hq, rfl, _, rfl, ?_⟩
    cases xs with
    | nil =>
      cases pvs_nil hus
      have e2 : formP x = false := by unfold formP; rw [hits]
      rw [e2] at k
      exact iteT (k H (Same.refl H))
    | cons y ys =>
      obtain ⟨v0, its, rfl, hy, hys⟩ := hus.inv
      have e0 : decide (V.int (((v0 :: its).length : Nat) : Int) = V.int 0) = false := by
        rw [List.length_cons]
        simp only [decide_eq_false_iff_not, V.int.injEq]
        omega
      rw [e0]
      refine iteF ?_
      refine ⟨_, rfl, q, _, 0, _, rfl, rfl, hq, at0 _ _, ?_⟩
      refine ⟨_, rfl, _, _, _, _, _, rfl, Ck.cls C CP .str, tyPv T TP hy, PK.kit _ .str, ?_⟩
      refine ⟨_, rfl, ?_⟩
      by_cases hst : ∃ z, y = .str z
      rotate_left
      · have e1 : y.is .str = false := by cases y <;> first | rfl | exact absurd ⟨_, rfl⟩ hst
        have e2 : formP x = false := by
          unfold formP
          rw [hits]
          cases y <;> first | rfl | exact absurd ⟨_, rfl⟩ hst
        rw [e1]
        rw [e2] at k
        exact iteT (k H (Same.refl H))
      obtain ⟨z, rfl⟩ := hst
      refine iteF ?_
      cases pvS_inv hy
      cases hk : kix z with
      | none =>
        have hwz : WfP K mg z := by
          rw [OksP, OkP] at hwx
          exact hwx.1 hk
        refine ⟨_, rfl, _, _, rfl, rfl, hwz dF mF, _, rfl, iteT ?_⟩
        have e2 : formP x = false := by
          unfold formP
          rw [hits]
          simp only [hk]
        rw [e2] at k
        exact k H (Same.refl H)
      | some ki =>
        obtain ⟨fo, hfo⟩ : ∃ fo, fPS ki = fo := ⟨_, rfl⟩
        have hin := kix_form hk
        obtain ⟨tk, hkk⟩ := hkf _ hin
        dsimp only at hkk
        have hcps := fPS_cps ki
        rw [hfo] at hkk hcps
        have ek : formP x = (decide (ys.length = (fP ki).length) && (fitsP ys (fP ki)).all id) := by
          unfold formP
          rw [hits]
          simp only [hk]
        rw [ek] at k
        have hil := hys.len
        have hfl : fo.length = (fP ki).length := by
          have e := congrArg List.length hcps
          rw [Array.length_toList] at e
          exact e
        have hf3 : 2 ≤ (fP ki).length ∧ (fP ki).length ≤ 3 := by
          match ki with
          | 0 => exact ⟨by decide, by decide⟩
          | 1 => exact ⟨by decide, by decide⟩
          | 2 => exact ⟨by decide, by decide⟩
          | 3 => exact ⟨by decide, by decide⟩
          | 4 => exact ⟨by decide, by decide⟩
          | 5 => exact ⟨by decide, by decide⟩
          | k + 6 => exact ⟨by show 2 ≤ 3; decide, by show 3 ≤ 3; decide⟩
        refine ⟨_, rfl, _, _, rfl, rfl, hkk, _, rfl, iteF ?_⟩
        refine ⟨_, rfl, dF, _, .str fo, rfl, rfl, ⟨es, n, _, kd.at_, kd.lit, hkk, ⟨_, rfl⟩⟩, ?_⟩
        refine ⟨_, rfl, q, _, rfl, .inr hq, ?_⟩
        refine ⟨_, rfl, fo, rfl, by omega, _, _, rfl, rfl, rfl, _, rfl, ?_⟩
        by_cases hlen : ys.length = (fP ki).length
        rotate_left
        · have e1 : decide (V.int ((((V.str z) :: its).length : Nat) : Int) = V.int (1 + ((fo.length : Nat) : Int))) = false := by
            rw [List.length_cons]
            simp only [decide_eq_false_iff_not, V.int.injEq]
            omega
          rw [e1]
          rw [decide_eq_false hlen, Bool.false_and] at k
          exact iteF (k H (Same.refl H))
        have e1 : decide (V.int ((((V.str z) :: its).length : Nat) : Int) = V.int (1 + ((fo.length : Nat) : Int))) = true := by
          rw [List.length_cons]
          simp only [decide_eq_true_eq, V.int.injEq]
          omega
        rw [e1]
        rw [decide_eq_true hlen, Bool.true_and] at k
        refine iteT ?_
        have hne : its.length ≠ 0 := by omega
        refine ⟨_, rfl, _, rfl, q, _, rfl, hq, ?_, fun r nr => ?_⟩
        · rintro ⟨h0, _⟩
          have e : HT.sIx (its.length + 1) 0 (some 1) = 1 := by
            show min 1 (its.length + 1) = 1
            omega
          rw [List.length_cons, e] at h0
          cases h0
        rw [cut1]
        have sq := Same.new nr (o := .tup its)
        refine ⟨_, rfl, r, _, its, rfl, SqT.of upd_same, fun D nD => lc_it (n := its.length) (walk_zipTS (K := K) (a := r) (t := fo) (xs := its) (by show its.length = min its.length fo.length; omega)) (fun i H' => Same (upd H r (.tup its)) H' ∧ SqT K H' r its ∧ H' D = some (.lst (((fitsP ys (fP ki)).take i).map V.bl))) ⟨Same.new nD, SqT.of (Same.new nD _ _ upd_same), upd_same⟩ (fun i H' _ z => z.2.1) ?_ ?_⟩
        · rintro i y H1 H2 hi ⟨s1, hq1, hD1⟩ ⟨T0, x0, c, rfl, nT, rfl, hx0, hc⟩
          have sT := Same.new nT (o := .tup [x0, .str ⟨#[c]⟩])
          obtain ⟨px, hpx1, hpx2⟩ := hys.getV hx0
          have hc' : (fP ki)[i]? = some c := by rw [← hcps, Array.getElem?_toList]; exact hc
          have hsgn : sgnP c := sgn_fP ki c (List.mem_of_getElem? hc')
          refine ⟨T0, _, rfl, SqT.of upd_same, rfl, _, _, rfl, _, _, rfl, rfl, rfl, lc_yes ?_⟩
          refine ⟨_, rfl, _, rfl, pb, x0, px, c, rfl, hsgn, hpx2.kp (Kp.same ((sq.trans s1).trans sT)), ?_⟩
          refine ⟨_, sT _ _ hD1, by rw [List.length_map, List.length_take]; omega, (s1.trans sT).set nD, ?_, ?_⟩
          · have nDq : r ≠ D := fun z => by
              rw [← z, upd_same] at nD
              cases nD
            exact sqt_kt (KT.lst (sT _ _ hD1)) (sqt_kt (KT.of sT) hq1)
          · rw [upd_same, fitsP_take i _ _ hpx1 hc', List.map_append]
            rfl
        · rintro H1 ⟨s1, hq1, hD1⟩
          refine ⟨D, fitsP ys (fP ki), rfl, SqL.of ?_, ?_⟩
          · rw [hD1, List.take_of_length_le (by rw [fitsP_len _ _ (hlen)]; omega)]
          · exact k H1 (sq.trans s1)
end
end Js
set_option Elab.async false
set_option linter.all false
set_option maxRecDepth 100000
set_option maxHeartbeats 2000000
namespace Js
open PySem L2
open PySem.Spec PyProof.Rows
def RowsV (K : PySem.W.Frag) (C CP : Addr) (F : List Addr) (H : Hp) (ws : List V) (rs : List (List Pv)) : Prop := Paired (fun v r => ∃ q us, v = .ref q ∧ SqT K H q us ∧ PvsAt K C CP F H r us) ws rs
theorem RowsV.kp {K : PySem.W.Frag} {C CP : Addr} {F : List Addr} {H H' : Hp} (k : Kp F H H') : ∀ {ws : List V} {rs : List (List Pv)}, RowsV K C CP F H ws rs → RowsV K C CP F H' ws rs
  | _, _, .nil => .nil
  | _, _, .cons ⟨q, us, e, h1, h2⟩ t => .cons ⟨q, us, e, sqt_kt k.1 h1, PvsAt.kp k _ _ h2⟩ (RowsV.kp k t)
theorem rwO_1 {y z : Pv} {xs r : List Pv} (h : y.its = some r) : rwO (z :: y :: xs) 1 = r := by
  show y.its.getD [] = r
  rw [h]
  rfl
theorem rwO_2 {y z u : Pv} {xs r : List Pv} (h : y.its = some r) : rwO (z :: u :: y :: xs) 2 = r := by
  show y.its.getD [] = r
  rw [h]
  rfl
theorem rows_lookV {K : PySem.W.Frag} {C CP : Addr} {F : List Addr} {H : Hp} {v : V} {x : Pv} (h : PvAt K C CP F H x v) (hf : formP x = true) : ∃ (p : Addr) (k : Str) (y : V) (its : List V) (ki : Nat), v = .ref p ∧ SqT K H p (.str k :: y :: its) ∧ kix k = some ki ∧ ((114 ∈ fP ki ∧ RowsV K C CP F H its (rowsP x)) ∨ (¬ 114 ∈ fP ki ∧ rowsP x = [])) := by
  rcases formP_inv hf with ⟨a, t, h1, hi⟩ | ⟨s, a, b, h1, h2, hi⟩ | ⟨s, a, b, g, h1, h2, h3, hi⟩ | ⟨a, y, r, h1, h2, hi⟩ | ⟨a, y, z, r, o, h1, h2, h3, hi⟩
  · obtain ⟨q, us, rfl, hq, hus⟩ := h.its hi
    obtain ⟨u0, us, rfl, g0, hus⟩ := hus.inv
    obtain ⟨u1, us, rfl, g1, hus⟩ := hus.inv
    cases pvS_inv g0
    rw [rowsP_of hf hi, kix0]
    exact ⟨q, _, _, _, 0, rfl, hq, kix0, .inr ⟨by decide, rfl⟩⟩
  · obtain ⟨q, us, rfl, hq, hus⟩ := h.its hi
    obtain ⟨u0, us, rfl, g0, hus⟩ := hus.inv
    obtain ⟨u1, us, rfl, g1, hus⟩ := hus.inv
    cases pvS_inv g0
    cases s
    · rw [takeS] at hi hq
      rw [rowsP_of hf hi, kix1]
      exact ⟨q, _, _, _, 1, rfl, hq, kix1, .inr ⟨by decide, rfl⟩⟩
    · rw [takeS] at hi hq
      rw [rowsP_of hf hi, kix2]
      exact ⟨q, _, _, _, 2, rfl, hq, kix2, .inr ⟨by decide, rfl⟩⟩
  · obtain ⟨q, us, rfl, hq, hus⟩ := h.its hi
    obtain ⟨u0, us, rfl, g0, hus⟩ := hus.inv
    obtain ⟨u1, us, rfl, g1, hus⟩ := hus.inv
    cases pvS_inv g0
    cases s
    · rw [twoS] at hi hq
      rw [rowsP_of hf hi, kix3]
      exact ⟨q, _, _, _, 3, rfl, hq, kix3, .inr ⟨by decide, rfl⟩⟩
    · rw [twoS] at hi hq
      rw [rowsP_of hf hi, kix4]
      exact ⟨q, _, _, _, 4, rfl, hq, kix4, .inr ⟨by decide, rfl⟩⟩
  · obtain ⟨q, us, rfl, hq, hus⟩ := h.its hi
    obtain ⟨u0, us, rfl, g0, hus⟩ := hus.inv
    obtain ⟨u1, us, rfl, g1, hus⟩ := hus.inv
    obtain ⟨u2, us, rfl, g2, hus⟩ := hus.inv
    cases pvs_nil hus
    cases pvS_inv g0
    obtain ⟨q1, vs1, rfl, g3, g4⟩ := g2.its h2
    rw [rowsP_of hf hi, kix5, if_pos rfl, rwO_1 h2]
    exact ⟨q, _, _, _, 5, rfl, hq, kix5, .inl ⟨by decide, .cons ⟨q1, vs1, rfl, g3, g4⟩ .nil⟩⟩
  · obtain ⟨q, us, rfl, hq, hus⟩ := h.its hi
    obtain ⟨u0, us, rfl, g0, hus⟩ := hus.inv
    obtain ⟨u1, us, rfl, g1, hus⟩ := hus.inv
    obtain ⟨u2, us, rfl, g2, hus⟩ := hus.inv
    obtain ⟨u3, us, rfl, g3, hus⟩ := hus.inv
    cases pvs_nil hus
    cases pvS_inv g0
    obtain ⟨q1, vs1, rfl, g4, g5⟩ := g2.its h2
    obtain ⟨q2, vs2, rfl, g6, g7⟩ := g3.its h3
    rw [rowsP_of hf hi, kix6, if_neg (by decide), if_pos rfl, rwO_1 h2, rwO_2 h3]
    exact ⟨q, _, _, _, 6, rfl, hq, kix6, .inl ⟨by decide, .cons ⟨q1, vs1, rfl, g4, g5⟩ (.cons ⟨q2, vs2, rfl, g6, g7⟩ .nil)⟩⟩
theorem okP_rows {W : Str → Prop} {x : Pv} (h : OkP W x) : ∀ r ∈ rowsP x, OksP W r := by
  intro r hr
  have hsub : ∀ {ps : List Pv} {i : Nat}, OksP W ps → OksP W (rwO ps i) := by
    intro ps i hp
    unfold rwO
    cases e : ps[i]? with
    | none => rw [OksP]; trivial
    | some y =>
      show OksP W (y.its.getD [])
      cases e2 : y.its with
      | none => rw [Option.getD_none, OksP]; trivial
      | some zs => exact (OksP_mem hp (List.mem_of_getElem? e)).its e2
  unfold rowsP at hr
  split at hr
  rotate_left
  · cases hr
  split at hr
  rotate_left
  · cases hr
  rename_i z ps hi
  have h1 := h.its hi
  rw [OksP] at h1
  split at hr
  · rw [List.mem_singleton.mp hr]
    exact hsub h1.2
  · split at hr
    · simp only [List.mem_cons, List.not_mem_nil, or_false] at hr
      rcases hr with rfl | rfl
      · exact hsub h1.2
      · exact hsub h1.2
    · cases hr
def spRowsInV (K : PySem.W.Frag) (C CP : Addr) : Sp := fun vs H Q _ => ∃ F v x, vs = [v] ∧ PvAt K C CP F H x v ∧ formP x = true ∧ ∀ p ws H', Same H H' → SqT K H' p ws → RowsV K C CP F H' ws (rowsP x) → Q (.ref p) H'
section
variable {P : Program} {w : World} {K : PySem.W.Frag} {mg : Str → Option Value} {base : Heap} {C CP : Addr}
theorem ok_rowsInV {f : Addr} {fd : FuncData} (F : Fun K "rows_in" "rows_in" sRowsIn f fd) (G : FrmC K w mg) : FnOk P w K mg base CX0 1 f fd ["deed"] (spRowsInV K C CP) := by
  obtain ⟨dF, es, n, mF, kd, hk⟩ := G.ex
  refine F.ok scRI (fun vs H Q E h => ?_) (fun cdv A outer s H vs Q E hr h => ?_)
  · obtain ⟨F0, v, x, rfl, _⟩ := h
    rfl
  · obtain ⟨F0, v, x, rfl, hd, hb, k⟩ := h
    refine ⟨_, pss_one (ps_ret (pe_ifExp (pt_cmpR op_in_sign pe_str (pe_ix (r := rIxD K w) ix_kdict (pe_glob (v := .ref dF) rfl mF rfl) (pe_ix (r := rIxT K) ix_tup (pv 0) pe_int (fun _ _ => rfl)) (fun _ _ => rfl)) rfl) (pe_slice sl_tup (pv 0) (po_some pe_int) po_none) (pe_tup pa_nil))), ?_⟩
    obtain ⟨p, kk, y, its, ki, rfl, hp, hki, hrs⟩ := rows_lookV hd hb
    obtain ⟨fo, hfo⟩ : ∃ fo, fPS ki = fo := ⟨_, rfl⟩
    have hcps := fPS_cps ki
    obtain ⟨tk, hk⟩ := hk _ (kix_form hki)
    dsimp only at hk
    rw [hfo] at hk hcps
    have hsl := line4
    refine ⟨_, rfl, p, _, 0, _, rfl, rfl, hp, at0 _ _, dF, _, .str fo, rfl, rfl, ⟨es, n, _, kd.at_, kd.lit, hk, ⟨_, rfl⟩⟩, 114, fo, congrArg V.str c_r, rfl, _, rfl, ?_⟩
    rcases hrs with ⟨e, hrs⟩ | ⟨e, hrs⟩
    · rw [decide_eq_true (show 114 ∈ fo.cps.toList by rw [hcps]; exact e)]
      refine iteT ?_
      refine ⟨_, rfl, _, rfl, p, _, rfl, hp, ?_, fun q nq => ?_⟩
      · rintro ⟨h0, _⟩
        have e : HT.sIx (its.length + 1 + 1) 0 (some 2) = 2 := by
          show min 2 (its.length + 1 + 1) = 2
          omega
        rw [List.length_cons, List.length_cons, e] at h0
        cases h0
      rw [cut2]
      exact k q its _ (Same.new nq) (SqT.of upd_same) (hrs.kp (Kp.same (Same.new nq)))
    · rw [decide_eq_false (show ¬ 114 ∈ fo.cps.toList by rw [hcps]; exact e)]
      refine iteF ?_
      refine ⟨Nat.zero_le _, fun q nq => ?_⟩
      exact k q [] _ (Same.new nq) (SqT.of upd_same) (by rw [hrs]; exact .nil)
end
end Js
set_option Elab.async false
set_option linter.all false
set_option maxRecDepth 100000
set_option maxHeartbeats 2000000
namespace Js
open PySem L2
theorem in_look : ∀ d : Dd, inV (.str (kindOf d)) [V.str "while", V.str "if"] = decide (d.rows ≠ [])
  | .told _ _ => (by rw [decide_eq_false (by simp [Dd.rows])]; exact (by decide +kernel : inV (.str "told") [V.str "while", V.str "if"] = false))
  | .take false _ _ => (by rw [decide_eq_false (by simp [Dd.rows])]; exact (by decide +kernel : inV (.str "first") [V.str "while", V.str "if"] = false))
  | .take true _ _ => (by rw [decide_eq_false (by simp [Dd.rows])]; exact (by decide +kernel : inV (.str "second") [V.str "while", V.str "if"] = false))
  | .two false _ _ _ => (by rw [decide_eq_false (by simp [Dd.rows])]; exact (by decide +kernel : inV (.str "pair") [V.str "while", V.str "if"] = false))
  | .two true _ _ _ => (by rw [decide_eq_false (by simp [Dd.rows])]; exact (by decide +kernel : inV (.str "same") [V.str "while", V.str "if"] = false))
  | .wh _ _ => (by rw [decide_eq_true (by simp [Dd.rows])]; exact (by decide +kernel : inV (.str "while") [V.str "while", V.str "if"] = true))
  | .iff _ _ _ => (by rw [decide_eq_true (by simp [Dd.rows])]; exact (by decide +kernel : inV (.str "if") [V.str "while", V.str "if"] = true))
end Js
set_option Elab.async false
set_option linter.all false
set_option maxRecDepth 100000
set_option maxHeartbeats 2000000
namespace Js
open PySem L2
open PySem PySem.Spec PyProof.Rows L2
abbrev sLN7 : Stmt := top 41
abbrev sLR7 : Stmt := top 39
abbrev sLF7 : Stmt := top 42
def lfB (d : Nat) (x : Pv) : Bool := formP x && ((rowsP x).isEmpty || decide (d < 9))
def spLForm7 (K : PySem.W.Frag) (C CP : Addr) : Sp := fun vs H Q _ => ∃ F v x d, vs = [v, .int ((d : Nat) : Int)] ∧ PvAt K C CP F H x v ∧ ∀ H', Same H H' → Q (.bl (lfB d x)) H'
def spLRows7 (K : PySem.W.Frag) (C CP : Addr) : Sp := fun vs H Q _ => ∃ F v x, vs = [v] ∧ PvAt K C CP F H x v ∧ formP x = true ∧ ∀ p ws H', Same H H' → H p = none → H' p = some (.lst ws) → RowsV K C CP F H' ws (rowsP x) → Q (.ref p) H'
theorem in_kix {k : Str} {ki : Nat} (h : kix k = some ki) : inV (.str k) [V.str "while", V.str "if"] = decide (114 ∈ fP ki) := by
  obtain ⟨h7, hz⟩ := kix_some h
  match ki, h7, hz with
  | 0, _, hz => cases Option.some.inj hz; decide +kernel
  | 1, _, hz => cases Option.some.inj hz; decide +kernel
  | 2, _, hz => cases Option.some.inj hz; decide +kernel
  | 3, _, hz => cases Option.some.inj hz; decide +kernel
  | 4, _, hz => cases Option.some.inj hz; decide +kernel
  | 5, _, hz => cases Option.some.inj hz; decide +kernel
  | 6, _, hz => cases Option.some.inj hz; decide +kernel
def formD7 : List (Key × V) := [(.inr "told", .int 2), (.inr "first", .int 2), (.inr "second", .int 2), (.inr "pair", .int 3), (.inr "same", .int 3), (.inr "while", .int 2), (.inr "if", .int 3)]
theorem merge_formD7 : mergeK [] formD7 = formD7 := by decide +kernel
theorem kix_none {z : Str} (h : kix z = none) : ∀ y ∈ kNms, ¬ y = z := by
  intro y hy e
  unfold kix at h
  rw [List.findIdx?_eq_none_iff] at h
  have := h y hy
  rw [e, beq_self_eq_true] at this
  cases this
theorem val_formD7 (z : Str) : valV formD7 (.inr z) = (kix z).map fun k => V.int (((fP k).length : Nat) : Int) := by
  cases h : kix z with
  | none =>
    have hn := kix_none h
    have e : ∀ y ∈ kNms, ¬ (Sum.inr y : Key) = .inr z := fun y hy e => hn y hy (Sum.inr.inj e)
    unfold formD7
    rw [valV_neg (e _ (by simp [kNms])), valV_neg (e _ (by simp [kNms])), valV_neg (e _ (by simp [kNms])), valV_neg (e _ (by simp [kNms])), valV_neg (e _ (by simp [kNms])), valV_neg (e _ (by simp [kNms])), valV_neg (e _ (by simp [kNms])), valV_nil]
    rfl
  | some k =>
    obtain ⟨h7, hz⟩ := kix_some h
    match k, h7, hz with
    | 0, _, hz => cases Option.some.inj hz; decide +kernel
    | 1, _, hz => cases Option.some.inj hz; decide +kernel
    | 2, _, hz => cases Option.some.inj hz; decide +kernel
    | 3, _, hz => cases Option.some.inj hz; decide +kernel
    | 4, _, hz => cases Option.some.inj hz; decide +kernel
    | 5, _, hz => cases Option.some.inj hz; decide +kernel
    | 6, _, hz => cases Option.some.inj hz; decide +kernel
theorem fitsP_rep (c : Nat) : ∀ ys : List Pv, fitsP ys (List.replicate ys.length c) = ys.map (fitP · c)
  | [] => rfl
  | y :: ys => by rw [List.length_cons, List.replicate_succ, fitsP, List.map_cons, fitsP_rep c ys]
theorem seq7 {a b : TS} {D : Ends} {σ : L2.St} {H : Hp} (M : L2.St → Hp → Prop) (ha : ∀ D' : Ends, (∀ σ' H', M σ' H' → D'.nx σ' H') → D'.rt = D.rt → a D' σ H) (hb : ∀ σ' H', M σ' H' → b D σ' H') : tSeq a b D σ H := ha { D with nx := fun σ' H' => b D σ' H' } hb rfl
theorem iteT7 {c : Bool} {p q : Prop} (h : c = true) (hp : p) : if c = true then p else q := by
  rw [if_pos h]
  exact hp
theorem iteF7 {c : Bool} {p q : Prop} (h : c = false) (hq : q) : if c = true then p else q := by
  rw [if_neg (by rw [h]; decide)]
  exact hq
theorem at1_7 (x y : V) (xs : List V) : atI (x :: y :: xs) 1 = some y := by
  have h : atI (x :: y :: xs) ((1 : Nat) : Int) = some y := atI_nat rfl
  exact h
theorem at2_7 (x y z : V) (xs : List V) : atI (x :: y :: z :: xs) 2 = some z := by
  have h : atI (x :: y :: z :: xs) ((2 : Nat) : Int) = some z := atI_nat rfl
  exact h
theorem told_kix {z : Str} {ki : Nat} (h : kix z = some ki) : decide (V.str z = V.str "told") = decide (ki = 0) := by
  obtain ⟨h7, hz⟩ := kix_some h
  match ki, h7, hz with
  | 0, _, hz => cases Option.some.inj hz; decide +kernel
  | 1, _, hz => cases Option.some.inj hz; decide +kernel
  | 2, _, hz => cases Option.some.inj hz; decide +kernel
  | 3, _, hz => cases Option.some.inj hz; decide +kernel
  | 4, _, hz => cases Option.some.inj hz; decide +kernel
  | 5, _, hz => cases Option.some.inj hz; decide +kernel
  | 6, _, hz => cases Option.some.inj hz; decide +kernel
theorem fP_tail {ki n : Nat} (h0 : ki ≠ 0) (hl : n + 1 = (fP ki).length) : (fP ki).tail = List.replicate n (if 5 ≤ ki then 114 else 110) ∧ decide (114 ∈ fP ki) = decide (5 ≤ ki) := by
  match ki, h0, hl with
  | 0, h0, _ => exact absurd rfl h0
  | 1, _, hl => cases hl; exact ⟨rfl, by decide⟩
  | 2, _, hl => cases hl; exact ⟨rfl, by decide⟩
  | 3, _, hl => cases hl; exact ⟨rfl, by decide⟩
  | 4, _, hl => cases hl; exact ⟨rfl, by decide⟩
  | 5, _, hl => cases hl; exact ⟨rfl, by decide⟩
  | k + 6, _, hl =>
    cases hl
    rw [if_pos (by omega), decide_eq_true (show 5 ≤ k + 6 by omega)]
    exact ⟨rfl, rfl⟩
section
variable {P : Program} {w : World} {K : PySem.W.Frag} {mg : Str → Option Value} {base : Heap} {C CP : Addr}
theorem scLN7 : FnScope ["_law_thing_here"] ["_law_thing_here"] (defScope sLN7) := ⟨rfl, rfl, rfl, by decide +kernel, rfl, by decide +kernel, by decide +kernel⟩
theorem scLR7 : FnScope ["_law_deed_here"] ["_law_deed_here"] (defScope sLR7) := ⟨rfl, rfl, rfl, by decide +kernel, rfl, by decide +kernel, by decide +kernel⟩
theorem scLF7 : FnScope ["_law_thing_here", "_law_deep", "_law_forms", "_law_kind", "_law_name_here", "_law_inner"] ["_law_thing_here", "_law_deep"] (defScope sLF7) := ⟨rfl, rfl, rfl, by decide +kernel, rfl, by decide +kernel, by decide +kernel⟩
theorem ok_lname7 {f : Addr} {fd : FuncData} (F : Fun K "_law_is_name" "_law_is_name" sLN7 f fd) (B : Blt mg) (T : Txt K mg C) (TP : TxtP K mg CP) (G : FrmC K w mg) (PK : PvK K C CP) : FnOk P w K mg base CX0 1 f fd ["_law_thing_here"] (spIsNameV K C CP) := by
  refine F.ok scLN7 (fun vs H Q E h => ?_) (fun cdv A outer s H vs Q E hr h => ?_)
  · obtain ⟨p, v, x, rfl, _⟩ := h
    rfl
  · obtain ⟨p, v, x, rfl, hx, k⟩ := h
    refine ⟨_, pss_one (ps_ret (pe_and (pe_callB (r := rIsi K) call_isi (by rfl) T.isi PyProof.Rows.boot_isinstance (pa_cons (pv 0) (pa_cons (pe_bltn (v := .ty "int") rfl B.int PyProof.Rows.boot_int rfl) pa_nil))) (pe_and (pe_not (pe_callB (r := rIsi K) call_isi (by rfl) T.isi PyProof.Rows.boot_isinstance (pa_cons (pv 0) (pa_cons (pe_bltn (v := .ty "bool") rfl G.mb PyProof.Rows.boot_bool rfl) pa_nil)))) (pe_one (pe_chain op_le op_le pe_int (pv 0) pe_int))))), ?_⟩
    refine ⟨_, rfl, _, _, _, _, _, rfl, Ck.cls C CP .int, tyPv T TP hx, PK.kit _ .int, ?_⟩
    refine ⟨_, rfl, ite_blV (fun h1 => ?_) (fun h1 => ?_)⟩
    · refine ⟨_, rfl, _, _, _, _, _, rfl, Ck.cls C CP .bool, tyPv T TP hx, PK.kit _ .bool, ?_⟩
      refine ⟨_, rfl, _, rfl, ite_blV (fun h2 => ?_) (fun h2 => ?_)⟩
      · cases x with
        | int i =>
          cases pvI_inv hx
          refine ⟨_, rfl, _, _, rfl, rfl, _, rfl, ite_blV (fun h3 => ?_) (fun h3 => ?_)⟩
          · refine ⟨_, _, rfl, rfl, ?_⟩
            have e : nmB (.int i) = decide (i ≤ 9) := by
              rw [decide_eq_true_eq] at h3
              show (decide (0 ≤ i) && decide (i < 10)) = _
              rw [decide_eq_true h3, Bool.true_and]
              exact decide_eq_decide.mpr (by omega)
            rw [e] at k
            exact k
          · have e : nmB (.int i) = false := by
              rw [decide_eq_false_iff_not] at h3
              show (decide (0 ≤ i) && decide (i < 10)) = _
              rw [decide_eq_false h3, Bool.false_and]
            rw [e] at k
            exact k
        | bl b => cases h2
        | _ => cases h1
      · have e : nmB x = false := by cases x <;> first | rfl | (cases h2; done) | (cases h1; done)
        rw [e] at k
        exact k
    · have e : nmB x = false := by cases x <;> first | rfl | cases h1
      rw [e] at k
      exact k
theorem ok_lrows7 {f : Addr} {fd : FuncData} (F : Fun K "_law_rows" "_law_rows" sLR7 f fd) (ml : mg "list" = none) : FnOk P w K mg base CX0 1 f fd ["_law_deed_here"] (spLRows7 K C CP) := by
  refine F.ok scLR7 (fun vs H Q E h => ?_) (fun cdv A outer s H vs Q E hr h => ?_)
  · obtain ⟨F0, v, x, rfl, _⟩ := h
    rfl
  · obtain ⟨F0, v, x, rfl, hd, hf, k⟩ := h
    refine ⟨_, pss_one (ps_ret (pe_ifExp (pt_cmpR op_in_seq (pe_ix (r := rIxT K) ix_tup (pv 0) pe_int (fun _ _ => rfl)) (pe_tup (pa_cons pe_str (pa_cons pe_str pa_nil))) rfl) (pe_callTy call_list_of (by rfl) ml PyProof.Rows.boot_list (pa_cons (pe_slice sl_tup (pv 0) (po_some pe_int) po_none) pa_nil)) (pe_lst pa_nil))), ?_⟩
    have hsl := line4
    obtain ⟨p, kk, y, its, ki, rfl, hp, hki, hrs⟩ := rows_lookV hd hf
    refine ⟨_, rfl, p, _, 0, _, rfl, rfl, hp, at0 _ _, by show 2 ≤ sizeLine; decide, fun U nU => ?_⟩
    have sU := Same.new nU (o := .tup [V.str "while", V.str "if"])
    refine ⟨U, _, rfl, .inr (SqT.of upd_same), rfl, rfl, _, rfl, ?_⟩
    rw [show (if false = true then !inV (.str kk) [V.str "while", V.str "if"] else inV (.str kk) [V.str "while", V.str "if"]) = decide (114 ∈ fP ki) from in_kix hki]
    have hpU := sqt_kt (KT.of sU) hp
    revert sU hpU
    generalize upd H U (.tup [V.str "while", V.str "if"]) = H1
    intro sU hpU
    rcases hrs with ⟨e, hrs⟩ | ⟨e, hrs⟩
    · rw [decide_eq_true e]
      refine iteT ?_
      refine ⟨_, rfl, _, rfl, p, _, rfl, hpU, ?_, fun q nq => ?_⟩
      · rintro ⟨h0, _⟩
        have e : HT.sIx (its.length + 1 + 1) 0 (some 2) = 2 := by
          show min 2 (its.length + 1 + 1) = 2
          omega
        rw [List.length_cons, List.length_cons, e] at h0
        cases h0
      rw [cut2]
      have sq := Same.new nq (o := .tup its)
      refine ⟨q, its, rfl, .inr (SqT.of upd_same), fun l nl => ?_⟩
      have s3 := (sU.trans sq).trans (Same.new nl (o := .lst its))
      refine k l its _ s3 ?_ upd_same (hrs.kp (Kp.same s3))
      exact (sU.trans sq).free nl
    · rw [decide_eq_false e]
      refine iteF ?_
      refine ⟨Nat.zero_le _, fun l nl => ?_⟩
      exact k l [] _ (sU.trans (Same.new nl)) (sU.free nl) upd_same (by rw [hrs]; exact .nil)
theorem ok_lform7 {f : Addr} {fd : FuncData} (F : Fun K "_law_form" "_law_form" sLF7 f fd) (B : Blt mg) (T : Txt K mg C) (TP : TxtP K mg CP) (G : FrmC K w mg) (PK : PvK K C CP) (DIn : Def P w K mg base "_law_is_name" 1 ["_law_thing_here"] (spIsNameV K C CP)) : FnOk P w K mg base CX0 2 f fd ["_law_thing_here", "_law_deep"] (spLForm7 K C CP) := by
  refine F.ok scLF7 (fun vs H Q E h => ?_) (fun cdv A outer s H vs Q E hr h => ?_)
  · obtain ⟨F0, v, x, d, rfl, _⟩ := h
    rfl
  · obtain ⟨F0, v, x, d, rfl, hx, kk⟩ := h
    have hr1 : Room 1 _ := hr.mono (by decide)
    refine ⟨_, pss_cons (ps_set (i := 2) scLF7.nd rfl (Or.inl rfl) (pe_disp (pps_cons pe_str pe_int (pps_cons pe_str pe_int (pps_cons pe_str pe_int (pps_cons pe_str pe_int (pps_cons pe_str pe_int (pps_cons pe_str pe_int (pps_cons pe_str pe_int pps_nil))))))) rfl rfl (by intro z; cases z) (by decide))) (pss_cons (ps_if (PW.pt (pw_or (pt_not (pt_val (pe_callB (r := rIsi K) call_isi (by rfl) T.isi PyProof.Rows.boot_isinstance (pa_cons (pv 0) (pa_cons (pe_bltn (v := .ty "tuple") rfl G.mt PyProof.Rows.boot_tuple rfl) pa_nil))))) (pw_or (pt_cmpR (op_eqTl (rcT_tup_eq (D := TFlat) (fun _ _ _ _ _ _ d => d) eqT_flat) hr1) (pv 0) (pe_tup pa_nil) (nomark _)) (pw_or1 (pt_not (pt_val (pe_callB (r := rIsi K) call_isi (by rfl) T.isi PyProof.Rows.boot_isinstance (pa_cons (pe_ix (r := rIxT K) ix_tup (pv 0) pe_int (fun _ _ => rfl)) (pa_cons (pe_bltn (v := .ty "str") rfl B.str PyProof.Rows.boot_str rfl) pa_nil))))))))) (pss_one (ps_ret pe_bl)) pss_nil) (pss_cons (ps_set (i := 3) scLF7.nd rfl (Or.inl rfl) (pe_ix (r := rIxT K) ix_tup (pv 0) pe_int (fun _ _ => rfl))) (pss_cons (ps_if (PW.pt (pw_or (pt_cmpR op_ne (pe_dget2 (Nat.lt_of_le_of_lt (Nat.add_le_add_left (by decide) _) hr.units) (pv 2) (pv 3) (pe_un un_neg pe_int) ⟨rfl, rfl, rfl, rfl⟩) (pe_op op_sub (pe_callB call_len_seq (by rfl) B.len PySem.boot_len (pa_cons (pv 0) pa_nil)) pe_int) (nomark _)) (pw_or1 (pt_not (pt_val (pe_def DIn hr1 rfl (pa_cons (pe_ix (r := rIxT K) ix_tup (pv 0) pe_int (fun _ _ => rfl)) pa_nil))))))) (pss_one (ps_ret pe_bl)) pss_nil) (pss_cons (ps_if (pt_cmpR op_eq (pv 3) pe_str (nomark _)) (pss_one (ps_ret (pe_callB (r := rIsi K) call_isi (by rfl) T.isi PyProof.Rows.boot_isinstance (pa_cons (pe_ix (r := rIxT K) ix_tup (pv 0) pe_int (fun _ _ => rfl)) (pa_cons (pe_glob (v := .ref C) rfl T.mgC rfl) pa_nil))))) pss_nil) (pss_cons (ps_if (pt_cmpR op_in_seq (pv 3) (pe_tup (pa_cons pe_str (pa_cons pe_str pa_nil))) rfl) (pss_one (ps_ret (pe_and (pe_cmpR op_lt (pv 1) pe_int (nomark _)) (pe_one (pe_callB (cr_all rfl) (by rfl) B.all (by decide +kernel) (pa_cons (pe_lc (own := [("_law_inner", 5)]) (g := gName 5) (tt := tYes) rfl scLF7.nd (pi_tup (pe_slice sl_tup (pv 0) (po_some pe_int) po_none)) (blkOk_by (N := ["_law_thing_here", "_law_deep", "_law_forms", "_law_kind", "_law_name_here", "_law_inner"]) (sc := defScope sLF7) (by decide +kernel)) (fun _ _ _ _ _ => (pg_name (i := 5) scLF7.nd rfl (Or.inl rfl))) (fun _ _ _ _ _ => pts_nil) (fun _ _ _ _ _ => (pe_callB (r := rIsi K) call_isi (by rfl) T.isi PyProof.Rows.boot_isinstance (pa_cons (pv 5) (pa_cons (pe_bltn (v := .ty "tuple") rfl G.mt PyProof.Rows.boot_tuple rfl) pa_nil))))) pa_nil)))))) pss_nil) (pss_one (ps_ret (pe_callB (cr_all rfl) (by rfl) B.all (by decide +kernel) (pa_cons (pe_lc (own := [("_law_name_here", 4)]) (g := gName 4) (tt := tYes) rfl scLF7.nd (pi_tup (pe_slice sl_tup (pv 0) (po_some pe_int) po_none)) (blkOk_by (N := ["_law_thing_here", "_law_deep", "_law_forms", "_law_kind", "_law_name_here", "_law_inner"]) (sc := defScope sLF7) (by decide +kernel)) (fun _ _ _ _ _ => (pg_name (i := 4) scLF7.nd rfl (Or.inl rfl))) (fun _ _ _ _ _ => pts_nil) (fun _ _ _ _ _ => (pe_def DIn hr1 rfl (pa_cons (pv 4) pa_nil)))) pa_nil))))))))), ?_⟩
    have hsl := line4
    dsimp only [gName]
    intro p np
    refine ⟨upd_same, formD7, rfl, by decide, ?_⟩
    have s1 : Same H (upd (upd H p (.dK [])) p (.dK (mergeK [] formD7))) := (Same.new np).set np
    have e1 : (upd (upd H p (.dK [])) p (.dK (mergeK [] formD7))) p = some (.dK formD7) := by rw [upd_same, merge_formD7]
    revert s1 e1
    generalize upd (upd H p (.dK [])) p (.dK (mergeK [] formD7)) = H1
    intro s1 e1
    dsimp only [gName]
    have hx1 := PvAt.kp (Kp.same s1) _ _ hx
    have fin : ∀ (H' : Hp), Same H1 H' → lfB d x = false → Q (.bl false) H' := fun H' s hf => by
      have := kk H' (s1.trans s)
      rw [hf] at this
      exact this
    have lff : formP x = false → lfB d x = false := fun z => by
      unfold lfB
      rw [z]
      rfl
    refine seq7 (a := tIfS _ _ _) (fun σ' H' => ∃ (q : Addr) (its : List V) (ys : List Pv) (z : Str), v = .ref q ∧ σ' = [some v, some (.int (d : Nat)), some (.ref p), none, none, none] ∧ Same H1 H' ∧ x.its = some (.str z :: ys) ∧ SqT K H' q (.str z :: its) ∧ PvsAt K C CP F0 H' ys its) (fun D' hD hrt => ?_) ?_
    · refine ⟨_, rfl, _, _, _, _, _, rfl, Ck.cls C CP .tup, tyPv T TP hx1, PK.kit _ .tup, ?_⟩
      refine ⟨_, rfl, ?_⟩
      cases hits : x.its with
      | none =>
        have ea : x.is .tup = false := by rw [its_is, hits]; rfl
        have eb : formP x = false := by unfold formP; rw [hits]
        rw [ea]
        refine iteT (iteT ?_)
        show D'.rt _ _
        rw [hrt]
        exact fin H1 (Same.refl _) (lff eb)
      | some xs =>
      have ea : x.is .tup = true := by rw [its_is, hits]; rfl
      rw [ea]
      refine iteF ?_
      obtain ⟨q, us, rfl, hq, hus⟩ := hx1.its hits
      refine ⟨_, rfl, Nat.zero_le _, fun U nU => ?_⟩
      have s2 := Same.new nU (o := .tup [])
      have e2 : (upd H1 U (.tup [])) U = some (.tup []) := upd_same
      revert s2 e2
      generalize upd H1 U (.tup []) = H2
      intro s2 e2
      have hq2 := sqt_kt (KT.of s2) hq
      have hus2 := PvsAt.kp (Kp.same s2) _ _ hus
      refine ⟨tells us [] [], ⟨q, U, us, [], [], rfl, rfl, hq2, SqT.of e2, ⟨by simp, fun i x y b g1 g2 => by cases g2⟩, rfl⟩, fun H3 s3 => ⟨_, rfl, ?_⟩⟩
      have s13 := s2.trans s3
      cases xs with
      | nil =>
        cases pvs_nil hus2
        have eb : formP x = false := by unfold formP; rw [hits]
        refine iteT (iteT ?_)
        show D'.rt _ _
        rw [hrt]
        exact fin H3 s13 (lff eb)
      | cons y ys =>
      obtain ⟨v0, its, rfl, hy, hys⟩ := hus2.inv
      refine iteF ?_
      have hq3 := sqt_kt (KT.of s3) hq2
      have hy3 := PvAt.kp (Kp.same s3) _ _ hy
      refine ⟨_, rfl, q, _, 0, _, rfl, rfl, hq3, at0 _ _, ?_⟩
      refine ⟨_, _, _, _, _, rfl, Ck.cls C CP .str, tyPv T TP hy3, PK.kit _ .str, ?_⟩
      refine ⟨_, rfl, ?_⟩
      by_cases hst : ∃ z, y = .str z
      rotate_left
      · have ea : y.is .str = false := by cases y <;> first | rfl | exact absurd ⟨_, rfl⟩ hst
        have eb : formP x = false := by
          unfold formP
          rw [hits]
          cases y <;> first | rfl | exact absurd ⟨_, rfl⟩ hst
        rw [ea]
        refine iteT ?_
        show D'.rt _ _
        rw [hrt]
        exact fin H3 s13 (lff eb)
      obtain ⟨z, rfl⟩ := hst
      refine iteF ?_
      cases pvS_inv hy3
      exact hD _ _ ⟨q, its, ys, z, rfl, rfl, s13, hits, hq3, PvsAt.kp (Kp.same s3) _ _ hys⟩
    rintro σ1 H2 ⟨q, its, ys, z, rfl, rfl, s2, hits, hq, hys⟩
    have hil := hys.len
    refine ⟨_, rfl, q, _, 0, _, rfl, rfl, hq, at0 _ _, ?_⟩
    dsimp only [gName]
    have e2 := s2 _ _ e1
    refine seq7 (a := tIfS _ _ _) (fun σ' H' => ∃ (ki : Nat) (v1 : V) (y1 : Pv) (us : List V) (rs : List Pv), σ' = [some (.ref q), some (.int (d : Nat)), some (.ref p), some (.str z), none, none] ∧ H2 = H' ∧ kix z = some ki ∧ its = v1 :: us ∧ ys = y1 :: rs ∧ rs.length + 1 = (fP ki).length ∧ nmB y1 = true ∧ PvsAt K C CP F0 H2 rs us) (fun D' hD hrt => ?_) ?_
    · have lfx : (∀ ki, kix z = some ki → (decide (ys.length = (fP ki).length) && (fitsP ys (fP ki)).all id) = false) → formP x = false := fun h => by
        unfold formP
        rw [hits]
        dsimp only
        cases hk : kix z with
        | none => rfl
        | some ki => exact h ki hk
      have bad : ∀ H', Same H2 H' → lfB d x = false → D'.rt (.bl false) H' := fun H' s h => by
        rw [hrt]
        exact fin H' (s2.trans s) h
      have hg : DGet H2 p (.str z) ((kix z).map fun k => V.int (((fP k).length : Nat) : Int)) := .inl ⟨_, .inr z, .inl e2, rfl, (val_formD7 z).symm⟩
      refine ⟨_, rfl, p, rfl, .inl ⟨_, .inl e2⟩, _, rfl, _, rfl, _, hg, ?_⟩
      cases hk : kix z with
      | none =>
        refine ⟨_, rfl, q, _, rfl, .inr hq, _, _, rfl, rfl, rfl, _, rfl, ?_⟩
        have e : (!decide (V.int (-1) = V.int ((((V.str z :: its).length : Nat) : Int) - 1))) = true := by
          rw [decide_eq_false (fun h => by have := V.int.inj h; rw [List.length_cons] at this; omega)]
          rfl
        refine iteT7 e (iteT (bad H2 (Same.refl _) (lff (lfx fun ki h => by rw [hk] at h; cases h))))
      | some ki =>
      refine ⟨_, rfl, q, _, rfl, .inr hq, _, _, rfl, rfl, rfl, _, rfl, ?_⟩
      have hf3 : 2 ≤ (fP ki).length := by
        match ki with
        | 0 => decide
        | 1 => decide
        | 2 => decide
        | 3 => decide
        | 4 => decide
        | 5 => decide
        | k + 6 => show 2 ≤ 3; decide
      by_cases hl : ys.length = (fP ki).length
      rotate_left
      · have e : (!decide (V.int (((fP ki).length : Nat) : Int) = V.int ((((V.str z :: its).length : Nat) : Int) - 1))) = true := by
          rw [decide_eq_false (fun h => by have := V.int.inj h; rw [List.length_cons] at this; omega)]
          rfl
        refine iteT7 e (iteT (bad H2 (Same.refl _) (lff (lfx fun k2 h => by rw [hk] at h; cases Option.some.inj h; rw [decide_eq_false hl]; rfl))))
      have e : (!decide (V.int (((fP ki).length : Nat) : Int) = V.int ((((V.str z :: its).length : Nat) : Int) - 1))) = false := by
        rw [decide_eq_true (by rw [List.length_cons]; congr 1; omega)]
        rfl
      refine iteF7 e ?_
      cases ys with
      | nil => rw [← hl] at hf3; cases hf3
      | cons y1 rs =>
      obtain ⟨v1, vs, rfl, hy1, hrs⟩ := hys.inv
      have hc0 : ∃ cs, fP ki = 110 :: cs := by
        match ki with
        | 0 => exact ⟨_, rfl⟩
        | 1 => exact ⟨_, rfl⟩
        | 2 => exact ⟨_, rfl⟩
        | 3 => exact ⟨_, rfl⟩
        | 4 => exact ⟨_, rfl⟩
        | 5 => exact ⟨_, rfl⟩
        | k + 6 => exact ⟨_, rfl⟩
      refine ⟨_, rfl, q, _, 1, _, rfl, rfl, hq, at1_7 _ _ _, ?_⟩
      refine ⟨F0, v1, y1, rfl, hy1, ?_⟩
      refine ⟨_, rfl, ?_⟩
      cases hnm : nmB y1 with
      | false =>
        refine iteT (bad H2 (Same.refl _) (lff (lfx fun k2 h => ?_)))
        rw [hk] at h
        cases Option.some.inj h
        obtain ⟨cs, hcs⟩ := hc0
        rw [hcs, fitsP, List.all_cons]
        have : fitP y1 110 = false := hnm
        rw [this]
        exact Bool.and_false _
      | true =>
        exact iteF (hD _ _ ⟨ki, v1, y1, vs, rs, rfl, rfl, hk, rfl, rfl, hl, hnm, hrs⟩)
    rintro σ2 _ ⟨ki, v1, y1, vs, rs, rfl, rfl, hk, rfl, rfl, hl, hnm, hrs⟩
    have hfr : formP x = (fitsP rs (fP ki).tail).all id := by
      have hc0 : ∃ cs, fP ki = 110 :: cs := by
        match ki with
        | 0 => exact ⟨_, rfl⟩
        | 1 => exact ⟨_, rfl⟩
        | 2 => exact ⟨_, rfl⟩
        | 3 => exact ⟨_, rfl⟩
        | 4 => exact ⟨_, rfl⟩
        | 5 => exact ⟨_, rfl⟩
        | k + 6 => exact ⟨_, rfl⟩
      obtain ⟨cs, hcs⟩ := hc0
      unfold formP
      rw [hits]
      simp only [hk]
      rw [show (y1 :: rs).length = rs.length + 1 from rfl, decide_eq_true hl, hcs, fitsP, List.all_cons]
      have : fitP y1 110 = true := hnm
      rw [this]
      rfl
    have hrw := fun (h : formP x = true) => rowsP_of h hits
    obtain ⟨h7, hz⟩ := kix_some hk
    have gt : ∀ (b : Bool) (H' : Hp), Same H2 H' → b = lfB d x → Q (.bl b) H' := fun b H' s e => by
      rw [e]
      exact kk H' (s1.trans (s2.trans s))
    have hil := hrs.len
    have hl3 : (fP ki).length ≤ 3 := by
      match ki with
      | 0 => decide
      | 1 => decide
      | 2 => decide
      | 3 => decide
      | 4 => decide
      | 5 => decide
      | k + 6 => show 3 ≤ 3; decide
    have hdi : ∀ n : Nat, decide (((n : Nat) : Int) < 9) = decide (n < 9) := fun n => decide_eq_decide.mpr (by omega)
    refine ⟨_, rfl, rfl, _, rfl, ?_⟩
    rw [told_kix hk]
    by_cases h0 : ki = 0
    · subst h0
      refine iteT7 (decide_eq_true rfl) ?_
      obtain ⟨y2, rfl⟩ : ∃ y2, rs = [y2] := by
        match rs, hl with
        | [y], _ => exact ⟨y, rfl⟩
      obtain ⟨v2, vs2, rfl, hy2, _⟩ := hrs.inv
      refine ⟨_, rfl, q, _, 2, _, rfl, rfl, hq, at2_7 _ _ _ _, _, _, _, _, _, rfl, ClsV.own C, tyPv T TP hy2, PK.kit _ .T, ?_⟩
      refine gt _ H2 (Same.refl _) ?_
      unfold lfB
      have e : formP x = y2.is .T := by
        rw [hfr]
        show ((y2.is .T) && true) = _
        rw [Bool.and_true]
      cases hf : formP x with
      | false => rw [← e, hf]; rfl
      | true =>
        rw [← e, hf, hrw hf, hk]
        rfl
    refine iteF7 (decide_eq_false h0) ?_
    obtain ⟨ht, hm⟩ := fP_tail h0 hl
    rw [ht, fitsP_rep] at hfr
    have cutE : HT.sIx (V.str z :: v1 :: vs).length 0 (some 2) = 2 := by
      show min 2 (vs.length + 1 + 1) = 2
      omega
    refine ⟨_, rfl, by show 2 ≤ sizeLine; decide, fun U nU => ?_⟩
    have s3 := Same.new nU (o := .tup [V.str "while", V.str "if"])
    have e3 : (upd H2 U (.tup [V.str "while", V.str "if"])) U = some (.tup [V.str "while", V.str "if"]) := upd_same
    revert s3 e3
    generalize upd H2 U (.tup [V.str "while", V.str "if"]) = H3
    intro s3 e3
    refine ⟨U, _, rfl, .inr (SqT.of e3), rfl, rfl, _, rfl, ?_⟩
    rw [show (if false = true then !inV (.str z) [V.str "while", V.str "if"] else inV (.str z) [V.str "while", V.str "if"]) = decide (114 ∈ fP ki) from in_kix hk, hm]
    have hq3 := sqt_kt (KT.of s3) hq
    have hrs3 := PvsAt.kp (Kp.same s3) _ _ hrs
    by_cases h5 : 5 ≤ ki
    · refine iteT7 (decide_eq_true h5) ?_
      refine ⟨_, rfl, _, _, rfl, rfl, _, rfl, ite_blV (fun h9 => ?_) (fun h9 => ?_)⟩
      rotate_left
      · refine gt _ H3 s3 ?_
        rw [decide_eq_false_iff_not] at h9
        unfold lfB
        cases hf : formP x with
        | false => rfl
        | true =>
          have hki : ki = 5 ∨ ki = 6 := by omega
          rw [hrw hf, hk, decide_eq_false (show ¬ d < 9 by omega)]
          rcases hki with rfl | rfl <;> rfl
      rw [decide_eq_true_eq] at h9
      refine ⟨_, rfl, _, rfl, q, _, rfl, hq3, ?_, fun r nr => ?_⟩
      · rintro ⟨h0, _⟩
        rw [cutE] at h0
        cases h0
      rw [cut2]
      have s4 := Same.new nr (o := .tup vs)
      have e4 : (upd H3 r (.tup vs)) r = some (.tup vs) := upd_same
      revert s4 e4
      generalize upd H3 r (.tup vs) = H4
      intro s4 e4
      refine ⟨r, rfl, ⟨_, SqT.of e4⟩, fun D nD => lc_tup (K := K) (a := r) (xs := vs) (fun i H' => Same H4 H' ∧ H' D = some (.lst (((rs.map fun y => y.is .tup).take i).map V.bl))) ⟨Same.new nD, upd_same⟩ (fun i H' _ z => SqT.of (z.1 _ _ e4)) ?_ ?_⟩
      · rintro i y H5 hi ⟨s5, hD⟩
        obtain ⟨px, hpx1, hpx2⟩ := hrs3.getV hi
        have hpb : (rs.map fun y => y.is .tup)[i]? = some (px.is .tup) := by rw [List.getElem?_map, hpx1]; rfl
        have hpx5 := PvAt.kp (Kp.same (s4.trans s5)) _ _ hpx2
        refine ⟨rfl, lc_yes ?_⟩
        refine ⟨_, rfl, _, _, _, _, _, rfl, Ck.cls C CP .tup, tyPv T TP hpx5, PK.kit _ .tup, ?_⟩
        have hlb := (List.getElem?_eq_some_iff.mp hi).1
        refine ⟨_, hD, by rw [List.length_map, List.length_take, List.length_map]; omega, s5.set nD, ?_⟩
        rw [upd_same, take_snoc hpb, List.map_append]
        rfl
      · rintro H5 ⟨s5, hD⟩
        rw [List.take_of_length_le (by rw [List.length_map]; omega)] at hD
        refine ⟨D, _, rfl, SqL.of hD, ?_⟩
        refine gt _ H5 (s3.trans (s4.trans s5)) ?_
        rw [show (if 5 ≤ ki then 114 else 110) = 114 from if_pos h5] at hfr
        have e : formP x = (rs.map fun y => y.is .tup).all id := hfr
        rw [← e]
        unfold lfB
        cases hf : formP x with
        | false => rfl
        | true => rw [decide_eq_true (show d < 9 by omega), Bool.or_true]; rfl
    refine iteF7 (decide_eq_false h5) ?_
    refine ⟨_, rfl, _, rfl, q, _, rfl, hq3, ?_, fun r nr => ?_⟩
    · rintro ⟨h0, _⟩
      rw [cutE] at h0
      cases h0
    rw [cut2]
    have s4 := Same.new nr (o := .tup vs)
    have e4 : (upd H3 r (.tup vs)) r = some (.tup vs) := upd_same
    revert s4 e4
    generalize upd H3 r (.tup vs) = H4
    intro s4 e4
    refine ⟨r, rfl, ⟨_, SqT.of e4⟩, fun D nD => lc_tup (K := K) (a := r) (xs := vs) (fun i H' => Same H4 H' ∧ H' D = some (.lst (((rs.map fun y => nmB y).take i).map V.bl))) ⟨Same.new nD, upd_same⟩ (fun i H' _ z => SqT.of (z.1 _ _ e4)) ?_ ?_⟩
    · rintro i y H5 hi ⟨s5, hD⟩
      obtain ⟨px, hpx1, hpx2⟩ := hrs3.getV hi
      have hpb : (rs.map fun y => nmB y)[i]? = some (nmB px) := by rw [List.getElem?_map, hpx1]; rfl
      have hpx5 := PvAt.kp (Kp.same (s4.trans s5)) _ _ hpx2
      refine ⟨rfl, lc_yes ?_⟩
      refine ⟨_, rfl, F0, y, px, rfl, hpx5, ?_⟩
      have hlb := (List.getElem?_eq_some_iff.mp hi).1
      refine ⟨_, hD, by rw [List.length_map, List.length_take, List.length_map]; omega, s5.set nD, ?_⟩
      rw [upd_same, take_snoc hpb, List.map_append]
      rfl
    · rintro H5 ⟨s5, hD⟩
      rw [List.take_of_length_le (by rw [List.length_map]; omega)] at hD
      refine ⟨D, _, rfl, SqL.of hD, ?_⟩
      refine gt _ H5 (s3.trans (s4.trans s5)) ?_
      rw [show (if 5 ≤ ki then 114 else 110) = 110 from if_neg h5] at hfr
      have e : formP x = (rs.map fun y => nmB y).all id := hfr
      rw [← e]
      unfold lfB
      cases hf : formP x with
      | false => rfl
      | true =>
        rw [hrw hf, hk, if_neg (by intro z; cases z; exact h5 (by decide)), if_neg (by intro z; cases z; exact h5 (by decide))]
        rfl
end
end Js
set_option Elab.async false
set_option linter.all false
set_option maxRecDepth 100000
set_option maxHeartbeats 2000000
namespace Js
open PySem L2
open PySem PySem.Spec PyProof.Rows L2
abbrev sLW7 : Stmt := top 43
theorem errA_map7 {α β : Type} {g : β → Nat → Bool × Nat} (f : α → β) : ∀ (xs : List α) (l : Nat), errA g (xs.map f) l = errA (fun x => g (f x)) xs l
  | [], _ => rfl
  | x :: xs, l => by
    rw [List.map_cons, errA, errA]
    cases e : g (f x) l with
    | mk b m =>
      cases b with
      | true => rfl
      | false => exact errA_map7 f xs m
def wrP (k : Nat) (ps : List Pv) (l : Nat) : Bool × Nat := errA (errX k) (ps.map (pvR k)) l
theorem wrP_parts (k : Nat) (ps : List Pv) (l : Nat) : wrP k ps l = errA (fun x => errX k (pvR k x)) ps l := errA_map7 _ ps l
theorem lfB_inv {d : Nat} {x : Pv} (h : lfB d x = true) : formP x = true ∧ (rowsP x ≠ [] → d < 9) := by
  unfold lfB at h
  rw [Bool.and_eq_true, Bool.or_eq_true] at h
  refine ⟨h.1, fun hn => ?_⟩
  rcases h.2 with h | h
  · exact absurd (List.isEmpty_iff.mp h) hn
  · exact of_decide_eq_true h
theorem lfB_not {d : Nat} {x : Pv} (h : lfB d x = false) : formP x = false ∨ (rowsP x ≠ [] ∧ ¬ d < 9) := by
  cases hf : formP x with
  | false => exact .inl rfl
  | true =>
    refine .inr ?_
    unfold lfB at h
    rw [hf, Bool.true_and, Bool.or_eq_false_iff] at h
    exact ⟨fun z => absurd h.1 (by rw [z]; decide), of_decide_eq_false h.2⟩
theorem errX_lf {k l : Nat} {x : Pv} (hk : k ≤ 8) (h : l = 4000 ∨ lfB (9 - k) x = false) : errX k (pvR k x) l = (true, l) := by
  rcases h with h | h
  · exact errX_bad (.inl h)
  · rcases lfB_not h with h | ⟨h1, h2⟩
    · exact errX_bad (.inr (by rw [pvR_form]; exact h))
    · have hk0 : k = 0 := by omega
      subst hk0
      by_cases hb : l = 4000 ∨ formB (pvR 0 x) = false
      · exact errX_bad hb
      · rw [errX, if_neg hb, pvR_rows]
        cases hr : rowsP x with
        | nil => exact absurd hr h1
        | cons a b => rfl
theorem errX_okP {k l : Nat} {x : Pv} (hk : k ≤ 8) (h4 : l ≠ 4000) (h : lfB (9 - k) x = true) : errX k (pvR k x) l = errA (wrP (k - 1)) (rowsP x) (l + 1) := by
  obtain ⟨h1, h2⟩ := lfB_inv h
  have hb : ¬ (l = 4000 ∨ formB (pvR k x) = false) := fun z => z.elim h4 (fun z => by rw [pvR_form, h1] at z; cases z)
  cases k with
  | zero =>
    have hr : rowsP x = [] := Decidable.byContradiction fun z => by have := h2 z; omega
    rw [errX, if_neg hb, pvR_rows, hr]
    rfl
  | succ k =>
    rw [errX, if_neg hb, pvR_rows, errA_map7]
    rfl
def spLW7 (K : PySem.W.Frag) (C CP : Addr) (n : Nat) : Sp := fun vs H Q _ => ∃ (F : List Addr) (q : Addr) (us : List V) (ps : List Pv) (k l : Nat), vs = [.ref q, .int ((9 - k : Nat) : Int), .int ((l : Nat) : Int)] ∧ SqT K H q us ∧ PvsAt K C CP F H ps us ∧ k ≤ 8 ∧ k < n ∧ ∀ p H', Same H H' → H' p = some (.lst [.int ((wrP k ps l).2 : Nat), .bl (wrP k ps l).1]) → Q (.ref p) H'
section
variable {P : Program} {w : World} {K : PySem.W.Frag} {mg : Str → Option Value} {base : Heap} {C CP : Addr}
theorem scLW7 : FnScope ["_law_deeds_here", "_law_deep", "_law_at", "_law_deed_here", "_law_inner", "_law_broken"] ["_law_deeds_here", "_law_deep", "_law_at"] (defScope sLW7) := ⟨rfl, rfl, rfl, by decide +kernel, rfl, by decide +kernel, by decide +kernel⟩
theorem ok_lw7 {f : Addr} {fd : FuncData} (F : Fun K "_law_wrong" "_law_wrong" sLW7 f fd) (mgf : mg "_law_wrong" = some (.ref f)) (b : Binds K fd ["_law_deeds_here", "_law_deep", "_law_at"] []) (B : Blt mg) (DFo : Def P w K mg base "_law_form" 2 ["_law_thing_here", "_law_deep"] (spLForm7 K C CP)) (DRs : Def P w K mg base "_law_rows" 1 ["_law_deed_here"] (spLRows7 K C CP)) : ∀ n, FnOk P w K mg base CX0 (n + 3) f fd ["_law_deeds_here", "_law_deep", "_law_at"] (spLW7 K C CP n) := by
  intro n
  induction n with
  | zero =>
    refine F.ok scLW7 (fun vs H Q E h => ?_) (fun cdv A outer s H vs Q E hr h => ?_)
    · obtain ⟨F0, q, us, ps, k, l, rfl, _⟩ := h
      rfl
    · obtain ⟨F0, q, us, ps, k, l, _, _, _, _, h, _⟩ := h
      exact absurd h (Nat.not_lt_zero _)
  | succ n G' =>
  refine F.ok scLW7 (fun vs H Q E h => ?_) (fun cdv A outer s H vs Q E hr h => ?_)
  · obtain ⟨F0, q, us, ps, k, l, rfl, _⟩ := h
    rfl
  · obtain ⟨F0, q, us, ps, k, l, rfl, hq, hps, hk8, hkn, kk⟩ := h
    have hr1 : Room 1 _ := hr.mono (by omega)
    have hr2 : Room 2 _ := hr.mono (by omega)
    refine ⟨_, pss_cons (ps_for PassesOwn.never rfl (pi_tup (pv 0)) (pg_name (i := 3) scLW7.nd rfl (Or.inl rfl)) (pss_cons (ps_if (PW.pt (pw_or (pt_cmpR op_eq (pv 2) pe_int (nomark _)) (pw_or1 (pt_not (pt_val (pe_def DFo hr2 rfl (pa_cons (pv 3) (pa_cons (pv 1) pa_nil)))))))) (pss_one (ps_ret (pe_lst (pa_cons (pv 2) (pa_cons pe_bl pa_nil))))) pss_nil) (pss_cons (ps_set (i := 2) scLW7.nd rfl (Or.inl rfl) (pe_op op_add (pv 2) pe_int)) (pss_one (ps_for PassesOwn.never rfl (pi_list (pe_def DRs hr1 rfl (pa_cons (pv 3) pa_nil))) (pg_name (i := 4) scLW7.nd rfl (Or.inl rfl)) (pss_cons (ps_asg (pe_call G' hr rfl mgf F.kp b .nil pass0 (pa_cons (pv 4) (pa_cons (pe_op op_add (pv 1) pe_int) (pa_cons (pv 2) pa_nil)))) (pg_lst rfl (pgs_cons (pg_name (i := 2) scLW7.nd rfl (Or.inl rfl)) (pgs_cons (pg_name (i := 5) scLW7.nd rfl (Or.inl rfl)) pgs_nil)))) (pss_one (ps_if (pt_val (pv 5)) (pss_one (ps_ret (pe_lst (pa_cons (pv 2) (pa_cons pe_bl pa_nil))))) pss_nil)))))))) (pss_one (ps_ret (pe_lst (pa_cons (pv 2) (pa_cons pe_bl pa_nil))))), ?_⟩
    have hsl := line4
    have out : ∀ (D' : Ends) (σ' : L2.St) (H' : Hp) (m : Nat) (bb : Bool), D'.rt = Q → Same H H' → σ'[2]? = some (some (.int (m : Nat))) → wrP k ps l = (bb, m) → (tRet (tLst (tCons (tVar 2) (tCons (tC (V.bl bb)) tNil)))) D' σ' H' := fun D' σ' H' m bb er sH e2 em => by
      refine ⟨_, e2, by show 2 ≤ sizeLine; decide, fun E2 nE2 => ?_⟩
      have sA := Same.new nE2 (o := .lst [V.int ((m : Nat) : Int), .bl bb])
      have eA : (upd H' E2 (.lst [V.int ((m : Nat) : Int), .bl bb])) E2 = some (.lst [V.int ((m : Nat) : Int), .bl bb]) := upd_same
      revert sA eA
      generalize upd H' E2 (.lst [V.int ((m : Nat) : Int), .bl bb]) = HA
      intro sA eA
      rw [er]
      exact kk E2 HA (sH.trans sA) (by rw [em]; exact eA)
    have hpl := hps.len
    refine ⟨_, rfl, q, rfl, ⟨_, hq⟩, for_tup (K := K) (a := q) (xs := us) (fun i σ H' => ∃ (m : Nat) (x3 x4 x5 : Option V), σ = [some (.ref q), some (.int ((9 - k : Nat) : Int)), some (.int ((m : Nat) : Int)), x3, x4, x5] ∧ Same H H' ∧ errA (fun x => errX k (pvR k x)) (ps.take i) l = (false, m)) ⟨l, _, _, _, rfl, Same.refl _, by rw [List.take_zero, errA]⟩ (fun i σ H' _ z => by obtain ⟨_, _, _, _, _, z, _⟩ := z; exact sqt_kt (KT.of z) hq) ?_ ?_⟩
    · rintro i v σ H2 hv ⟨m, x3, x4, x5, rfl, s2, hem⟩
      obtain ⟨x, hx, hxv⟩ := hps.getV hv
      have hx2 := PvAt.kp (Kp.same s2) _ _ hxv
      dsimp only [gName]
      refine seq7 (a := tIfS _ _ _) (fun σ' H' => σ' = [some (.ref q), some (.int ((9 - k : Nat) : Int)), some (.int ((m : Nat) : Int)), some v, x4, x5] ∧ Same H2 H' ∧ m ≠ 4000 ∧ lfB (9 - k) x = true) (fun D' hD hrt => ?_) ?_
      · refine ⟨_, rfl, rfl, _, rfl, ?_⟩
        by_cases hm : m = 4000
        · refine iteT7 (decide_eq_true (by rw [hm]; rfl)) (iteT (out _ _ _ m true hrt s2 rfl ?_))
          rw [wrP_parts]
          exact errA_at hem hx (errX_lf hk8 (.inl hm))
        refine iteF7 (decide_eq_false (fun z => hm (by have := V.int.inj z; omega))) ?_
        refine ⟨_, rfl, _, rfl, F0, v, x, 9 - k, rfl, hx2, fun H3 s3 => ?_⟩
        refine ⟨_, rfl, ?_⟩
        cases hf : lfB (9 - k) x with
        | false =>
          refine iteT (out _ _ _ m true hrt (s2.trans s3) rfl ?_)
          rw [wrP_parts]
          exact errA_at hem hx (errX_lf hk8 (.inr hf))
        | true => exact iteF (hD _ _ ⟨rfl, s3, hm, hf⟩)
      rintro σ1 H3 ⟨rfl, s3, hm, hf⟩
      obtain ⟨hfp, hrk⟩ := lfB_inv hf
      have hg := errX_okP hk8 hm hf
      have s03 := s2.trans s3
      refine ⟨_, rfl, _, _, rfl, rfl, ?_⟩
      dsimp only [gName]
      refine ⟨_, rfl, F0, v, x, rfl, PvAt.kp (Kp.same s3) _ _ hx2, hfp, fun lp ws H4 s4 nlp hlp hws => ?_⟩
      have hwl := Paired.length hws
      have s04 := s03.trans s4
      refine ⟨lp, rfl, ⟨_, SqL.of hlp⟩, for_list (K := K) (a := lp) (xs := ws) (fun j σ H' => ∃ (m' : Nat) (x4 x5 : Option V), σ = [some (.ref q), some (.int ((9 - k : Nat) : Int)), some (.int ((m' : Nat) : Int)), some v, x4, x5] ∧ Same H4 H' ∧ errA (wrP (k - 1)) ((rowsP x).take j) (m + 1) = (false, m')) ⟨m + 1, _, _, rfl, Same.refl _, by rw [List.take_zero, errA]⟩ (fun j σ H' _ z => by obtain ⟨_, _, _, _, z, _⟩ := z; exact SqL.of (z _ _ hlp)) ?_ ?_⟩
      · rintro j u σ H5 hu ⟨m', x4, x5, rfl, s5, hem2⟩
        obtain ⟨r0, hr0, q6, us6, rfl, hq6, hus6⟩ := paired_get hws hu
        have hne : rowsP x ≠ [] := fun z => by rw [z] at hr0; cases hr0
        have hk1 := hrk hne
        dsimp only [gName]
        refine ⟨_, rfl, _, rfl, _, _, rfl, rfl, _, rfl, F0, q6, us6, r0, k - 1, m', ?_, sqt_kt (KT.of s5) hq6, PvsAt.kp (Kp.same s5) _ _ hus6, by omega, by omega, fun p6 H6 s6 hp6 => ?_⟩
        · rw [show 9 - (k - 1) = (9 - k) + 1 by omega]
          rfl
        have s06 := (s04.trans s5).trans s6
        refine ⟨p6, _, rfl, SqL.of hp6, rfl, _, _, rfl, _, _, rfl, rfl, ?_⟩
        cases hw : wrP (k - 1) r0 m' with
        | mk bb m2 =>
          cases bb with
          | true =>
            refine ⟨_, rfl, _, rfl, iteT (out _ _ _ m2 true rfl s06 rfl ?_)⟩
            rw [wrP_parts]
            refine errA_at hem hx ?_
            rw [hg]
            exact errA_at hem2 hr0 hw
          | false =>
            refine ⟨_, rfl, _, rfl, iteF ⟨m2, _, _, rfl, s5.trans s6, ?_⟩⟩
            rw [take_snoc hr0, errA_snoc hem2]
            exact hw
      · rintro σ H5 ⟨m', x4, x5, rfl, s5, hem2⟩
        rw [hwl, List.take_length] at hem2
        refine ⟨m', _, _, _, rfl, s04.trans s5, ?_⟩
        rw [take_snoc hx, errA_snoc hem, hg]
        exact hem2
    · rintro σ H2 ⟨m, x3, x4, x5, rfl, s2, hem⟩
      rw [hpl, List.take_length] at hem
      refine out _ _ _ m false rfl s2 rfl ?_
      rw [wrP_parts]
      exact hem
end
end Js
set_option Elab.async false
set_option linter.all false
set_option maxRecDepth 100000
set_option maxHeartbeats 2000000
namespace Js
open PySem L2
theorem nat_log (n : Nat) (h : n ≤ 1000000) : ((n : Nat) : Int).natAbs.log2 < 1920 := by
  rw [Int.natAbs_natCast]
  by_cases h0 : n = 0
  · subst h0; decide
  · exact Nat.lt_of_lt_of_le ((Nat.log2_lt h0).mpr (show n < 2 ^ 20 by omega)) (by decide)
section
variable {X : Cx} {a D : Addr} {oe : Obj} {pn : List (Addr × Obj)} {d : Option Addr} {cls : Value}
def rIsX (K : PySem.W.Frag) (D a : Addr) (cls : Value) (d : Option Addr) : List V → Hp → VK → Prop := fun xs H Q => ∃ (c : V) (cv : Value) (b : Bool) (dd : Addr) (fs : List (Str × V)), xs = [.ref a, c] ∧ ClsV c cv ∧ cls = .ref D ∧ d = some dd ∧ H dd = some (.xd fs) ∧ PySem.W.kitOne K (.ref D) cv = some b ∧ Q (.bl b) H
theorem inst_x {s : Shared} {H : Hp} {dd : Addr} {fs : List (Str × V)} {pins : List (Addr × Obj)} {σ : St} (I : Inv (X.suite a ((a, oe) :: pn)) pins σ H s) (hz : Zc (.ref D) d oe) (hf : ∃ vs, oe.data = .fields vs) (e1 : d = some dd) (e2 : H dd = some (.xd fs)) : ∃ od, PySem.W.InstAt s.heap a oe D (some od) := by
  subst e1
  obtain ⟨hget, _⟩ := I.pin (a, oe) (List.mem_append_left _ List.mem_cons_self)
  obtain ⟨vs, hd⟩ := hf
  have hx : ObjOk X.prog X.w H s.heap dd (.xd fs) := I.hok dd _ e2
  obtain ⟨mA, hns, hr⟩ := hx
  obtain ⟨od, ho, hl⟩ := lookIn_ns hns
  exact ⟨od, hget, hz.1, by unfold PySem.W.notCls; rw [hd] <;> rfl, by rw [hz.2]; exact ho⟩
structure XcC (K : PySem.W.Frag) (D : Addr) : Prop where
  hc : (PySem.W.clsIn K D).isSome = true
  hg : PySem.W.findIn K (.ref D) "__getattribute__" = some (some (.builtin "BaseException.__getattribute__"))
  hk : PySem.W.findIn K (.ref D) "__getattr__" = some none
  hs : PySem.W.subIn K (.ref D) (.type "BaseException") = some true
  ha : PySem.W.findIn K (.ref D) "__class__" = some (some (.builtin "object.__class__"))
  hn : PySem.W.specialIn K (.builtin "object.__class__") "__get__" = some (some (.builtin "getset_descriptor.__get__"))
  ht : PySem.W.takesIn K (.builtin "object.__class__") = some true
  hm : PySem.W.mroIn K D (.type "object") = some true
theorem call_isX (C : XcC X.K D) (hz : Zc cls d oe) (hf : ∃ vs, oe.data = .fields vs) : CallR (X.suite a ((a, oe) :: pn)) (.builtin "isinstance") (rIsX X.K D a cls d) := by
  intro pins s σ H xs us Q I r h
  obtain ⟨c, cv, b, dd, fs, rfl, hcv, rfl, e1, e2, e, q⟩ := h
  obtain ⟨od, J⟩ := inst_x I hz hf e1 e2
  cases r with
  | cons rx rr =>
    cases rr with
    | cons rt rr =>
      cases rr
      cases rx
      have ec := hcv.eq rt
      subst ec
      exact PySem.W.kia_one (PySem.W.kitx_exc C.hc C.hg C.hk C.hs C.ha C.hn C.ht C.hm) I.kIn J e (fun z => nomatch z) fun tk => ⟨.bl b, H, I.kept (t' := tk) fun _ _ z => z, rfl, q⟩
def rIsXt (K : PySem.W.Frag) (D a : Addr) (cls : Value) (d : Option Addr) : List V → Hp → VK → Prop := fun xs H Q => ∃ (tp : Addr) (cs : List V) (cvs : List Value) (b : Bool) (dd : Addr) (fs : List (Str × V)), xs = [.ref a, .ref tp] ∧ H tp = some (.tup cs) ∧ Paired ClsV cs cvs ∧ cls = .ref D ∧ d = some dd ∧ H dd = some (.xd fs) ∧ PySem.W.kitAny K (.ref D) cvs = some b ∧ Q (.bl b) H
theorem call_isXt (C : XcC X.K D) (hz : Zc cls d oe) (hf : ∃ vs, oe.data = .fields vs) : CallR (X.suite a ((a, oe) :: pn)) (.builtin "isinstance") (rIsXt X.K D a cls d) := by
  intro pins s σ H xs us Q I r h
  obtain ⟨tp, cs, cvs, b, dd, fs, rfl, ht, hcv, rfl, e1, e2, e, q⟩ := h
  obtain ⟨od, J⟩ := inst_x I hz hf e1 e2
  cases r with
  | cons rx rr =>
    cases rr with
    | cons rt rr =>
      cases rr
      cases rx
      cases rt
      obtain ⟨its, rv, ⟨o, ho, hcl, n, hdt⟩, _⟩ := I.tuple (SqT.of ht)
      have ev := ClsV.all hcv rv
      subst ev
      obtain ⟨oc, od', oda, osl⟩ := o
      dsimp only at hcl hdt
      subst hcl hdt
      exact PySem.W.kia_tup (PySem.W.kitx_exc C.hc C.hg C.hk C.hs C.ha C.hn C.ht C.hm) I.kIn J ho e (fun z => nomatch z) fun tk => ⟨.bl b, H, I.kept (t' := tk) fun _ _ z => z, rfl, q⟩
end
end Js
set_option Elab.async false
set_option linter.all false
set_option maxRecDepth 100000
set_option maxHeartbeats 4000000
namespace JsGx
open PySem PySem.W PyProof.Rows PySem.HandSPX Builtin Builtin.ObjectAttr
section
variable {prog : Program} {w : World} {A : Around} {E : Value → Shared → Prop}
variable {h0 : Heap} {gs : Array GenState} {dr : Drawn} {tt : Nat} {os : OsState} {K : W.Frag}
theorem own_first {nm : Str} {tk : Tok} {v : Value} {x C : Addr} {fv : Array Value} {cd : ClassData} {b : Bool} {Q : Fin → Shared → Prop}
    (kin : K.In h0) (at_ : h0.get? x = some { cls := .ref C, data := .fields fv }) (hcd : W.clsIn K C = some cd) (hh : cd.hasDict = true)
    (q : ∀ h1 tk1 dx, (∀ c o, c ≠ x → h0.get? c = some o → h1.get? c = some o) → h0.objs.size ≤ dx → dx ≠ x →
      h1.get? x = some { cls := .ref C, dict := some dx, data := .fields fv } → h1.Ns1 dx (fun y => if y = nm then some v else none) → Q (.done (.ret .none)) ⟨h1, gs, dr, tk1, os⟩) :
    wpAny (model prog w) A (storeInOwnDict (.ref x) (.ref C) (.str nm tk) nm v b) Q E ⟨h0, gs, dr, tt, os⟩ := by
  have lc : W.Looks (model prog w) h0 (classData C) cd := W.looks_clsIn kin hcd
  have nx : x ≠ h0.objs.size := Nat.ne_of_lt (Heap.lt_size at_)
  obtain ⟨n1, bs, mro, ns, qn, hd, sn, sb, ab, col, del⟩ := cd
  cases (show hd = true from hh)
  unfold storeInOwnDict ownDictForStores
  repeat first
    | with_reducible refine store_in_new ?_ ?_
    | with_reducible refine wpAny_loadPart_at at_ ?_
    | with_reducible refine lc.at ?_
    | wp_step
  · exact ⟨_, #[], _, (Heap.get?_update_ne _ _ _ _ nx.symm).trans (Heap.get?_push_at rfl rfl), rfl, fun e he => absurd he (by simp), fun _ => rfl⟩
  · intro h1 tk1 hn1 hs1
    have there := Heap.get?_push_of_some { cls := .type "dict", data := .dict #[] } at_
    have kept : ∀ c o, c ≠ x → h0.get? c = some o → h1.get? c = some o := fun c o nc hc =>
      (hs1.2 c (Nat.ne_of_lt (Heap.lt_size hc))).trans ((Heap.get?_update_ne _ _ _ _ nc).trans (Heap.get?_push_of_some _ hc))
    exact q h1 tk1 h0.objs.size kept (Nat.le_refl _) nx.symm ((hs1.2 x nx).trans (Heap.get?_update_self _ there rfl)) hn1
end
end JsGx
namespace Js
open PySem L2 PySem.Spec PyProof.Rows
structure GexC (K : PySem.W.Frag) (C : Addr) (B nw ini : String) (tl : List Value) : Prop where
  F : ExcBaseFacts B nw ini tl
  SF : StoreFacts B tl "object.__setattr__" "object"
  cls : ∃ nm q N bs bm sn sub ab col dd k0 k1 k2 k3 k5, K.lookup C = some (excClassObj nm q C N bs bm true sn sub ab col dd k0 k1 k2 k3 k5 nw) ∧ ∀ Y : String, bm.contains (.type Y) = tl.contains (.type Y)
  ov : PySem.W.excOver K C tl = true
  st : PySem.W.findIn K (.ref C) "__setattr__" = some (some (.builtin "object.__setattr__"))
  be : PySem.W.subIn K (.ref C) (.type "BaseException") = some true
  ty : PySem.W.typeIn K (.ref C) = some (.type "type")
  kp : PySem.W.keepIn K (.ref C) = true
section
variable {X : Cx} {pins : List (Addr × Obj)} {σ : L2.St} {H : Hp} {s : Shared} {a C : Addr} {f : Str} {y : V} {u : Value} {B nw ini : String} {tl : List Value}
theorem g_first {A : Around} {Q : Unit → Shared → Prop} {E : Value → Shared → Prop} (T : GexC X.K C B nw ini tl) (I : Inv X pins σ H s) (e : H a = some (exo a C none)) (hno : PySem.W.findIn X.K (.ref C) f = some none) (ry : RelV y u)
    (k : ∀ dx s', H dx = none → dx ≠ a → Inv X pins σ (upd (upd H dx (exd dx [(f, y)])) a (exo a C (some dx))) s' → Q () s') : wpAny (model X.prog X.w) A (setAttr (.ref a) f u) Q E s := by
  obtain ⟨nm, q, N, bs, bm, sn, sub, ab, col, dd, k0, k1, k2, k3, k5, hC, _⟩ := T.cls
  obtain ⟨t1, ho⟩ := exo_at I.hok e
  obtain ⟨hp, g, d, t, os⟩ := s
  have IA : PySem.W.InstAt hp a _ C none := ⟨ho, rfl, rfl, trivial⟩
  refine PySem.W.set_plain I.kIn IA T.st ?_
  refine PySem.W.osa_openX (r := none) T.SF I.kIn IA T.ov (by unfold PySem.W.takerIn; rw [hno]; rfl) fun b => ?_
  refine JsGx.own_first I.kIn ho (by unfold PySem.W.clsIn; rw [hC] <;> rfl) rfl fun h1 tk1 dx kept dn dne hx hn => ?_
  have hnd : H dx = none := I.hok.fresh dn
  have off : ∀ {c : Addr}, H c = none → c ≠ a := fun {c} n z => nomatch (z ▸ n).symm.trans e
  have old : ∀ {c : Addr} {o : Obj}, hp.get? c = some o → c ≠ dx := fun {c o} z => Nat.ne_of_lt (Nat.lt_of_lt_of_le (Heap.lt_size z) dn)
  have U : Un X.fs [] H (upd (upd H dx (exd dx [(f, y)])) a (exo a C (some dx))) hp h1 := by
    refine { keep := ?_, slot := ?_, free := ?_, there := ?_, tups := ?_, frzs := ?_, tbls := ?_ }
    · intro c o z n _ _
      exact kept c o (off n) z
    · intro c o z n _ _
      exact ⟨o.slots, kept c o (off n) z⟩
    · intro c o z n _
      rw [upd_ne (off n), upd_ne (old z)]
      exact n
    · intro c o z _
      by_cases hc : c = a
      · exact ⟨_, hc ▸ hx⟩
      · exact ⟨o, kept c o hc z⟩
    · intro c xs z
      rw [upd_ne (at_ne e z exo_tup), upd_ne (ne_of_none z hnd)]
      exact z
    · intro c o v z
      rw [upd_ne (at_ne e z exo_frz), upd_ne (ne_of_none z hnd)]
      exact z
    · intro c ps z
      refine ⟨#[], ?_⟩
      rw [upd_ne (at_ne e z exo_tbl), upd_ne (ne_of_none z hnd), z]
      simp
  refine k dx _ hnd dne (I.un (t' := tk1) U fun c o z => ?_)
  by_cases hc : c = a
  · subst hc
    cases upd_same.symm.trans z
    exact exo_ok hx
  · rw [upd_ne hc] at z
    by_cases hd : c = dx
    · subst hd
      cases upd_same.symm.trans z
      exact exd_ok hn (relO_put (fs := []) ry fun _ => True.intro)
    · rw [upd_ne hd] at z
      refine (I.hok c o z).stay (fun m v hm zz => kept m v ?_ zz) (fun m hm => ?_) (fun m xs hm => ?_)
      · rcases hm with hm | hm
        · exact hm ▸ hc
        · exact at_ne e hm exo_own
      · rw [upd_ne (at_ne e hm exo_own), upd_ne (ne_of_none hm hnd)]
        exact hm
      · rw [upd_ne (at_ne e hm exo_tup), upd_ne (ne_of_none hm hnd)]
        exact hm
theorem g_init {A : Around} {E : Value → Shared → Prop} {us : List Value} {Q : Value → Shared → Prop} (T : GexC X.K C B nw ini tl) (I : Inv X pins σ H s) (e : H a = some (exo a C none)) (hl : us.length ≤ sizeLine) (k : ∀ s', Inv X pins σ H s' → Q .none s') :
    wpAny (model X.prog X.w) A (call (.builtin ini) (.ref a :: us)) Q E s := by
  obtain ⟨nm, q, N, bs, bm, sn, sub, ab, col, dd, k0, k1, k2, k3, k5, hC, hT⟩ := T.cls
  obtain ⟨t1, ho⟩ := exo_at I.hok e
  obtain ⟨hp, g, d, t, os⟩ := s
  refine wpAny_call (PySem.HandSPX.init_base T.F hT (I.kIn _ _ hC) ho hl fun h1 t2 kept hx => k _ ?_)
  have eu : upd H a (exo a C none) = H := funext fun c => by
    by_cases hc : c = a
    · rw [hc, upd_same, e]
    · exact upd_ne hc
  exact eu ▸ I.write (t' := t) (x := a) (e := a) (o := exo a C none) (by rw [e]; exact True.intro) (.inl rfl) kept ⟨_, hx⟩ (exo_ok hx)
end
def tGi (K : PySem.W.Frag) (B nw ini : String) (tl : List Value) (ta : TA) : TE := fun σ H Q => ta σ H fun vs H1 => ∃ (a C : Addr) (r : List V), vs = .ref a :: r ∧ r.length ≤ 1000 ∧ GexC K C B nw ini tl ∧ H1 a = some (exo a C none) ∧ Q .non H1
def tGs (K : PySem.W.Frag) (B nw ini : String) (tl : List Value) (f : Str) (to te : TE) : TS := fun D σ H => te σ H fun y H1 => to σ H1 fun x H2 => ∃ a C : Addr, x = .ref a ∧ GexC K C B nw ini tl ∧ PySem.W.findIn K (.ref C) f = some none ∧ H2 a = some (exo a C none) ∧
  ∀ dx, H2 dx = none → dx ≠ a → D.nx σ (upd (upd H2 dx (exd dx [(f, y)])) a (exo a C (some dx)))
section
variable {X : Cx} {o e : Expr} {es : List Expr} {to te : TE} {ta : TA} {f : Str} {p p' p1 p2 pos : Pos} {B nw ini : String} {tl : List Value}
theorem ps_gst (ho : PE X o to) (he : PE X e te) (hs : swapsWith e (some (.Attribute o f p')) pos.line X.env = pure false := by rfl) : PS X (.Assign [.Attribute o f p'] e pos) (tGs X.K B nw ini tl f to te) := by
  constructor
  intro pins s σ H D I h
  refine plainObj_wpAny_Assign_Attribute (thn (he.run pins s σ H _ I h) ?_) hs
  rintro v s1 ⟨y, H1, I1, r1, q1⟩
  refine thn (ho.run pins s1 σ H1 _ I1 q1) ?_
  rintro u s2 ⟨x, H2, I2, r2, a, C, rfl, T, hno, ea, q⟩
  cases (show u = Value.ref a from r2)
  exact g_first T I2 ea hno r1 fun dx s' n ne J => ⟨σ, _, J, q dx n ne⟩
end
end Js
set_option Elab.async false
set_option linter.all false
set_option maxRecDepth 100000
set_option maxHeartbeats 2000000
namespace Js
open PySem L2
section
open PyProof.Rows
variable {X : Cx} {CX : CXT} {C f : Addr} {k : Nat} {fd : FuncData} {ps : List Str} {sp : Sp} {ds us : List Value} {dvs vs : List V} {E : XK} {pins : List (Addr × Obj)} {σ : L2.St} {H : Hp} {s : Shared} {Q : VK}
theorem make_at (M : Mk X.K C f) (G : FnOk X.prog X.w X.K X.mg X.base CX k f fd ps sp) (hr : Room (k + 1) X.A) (hb : Binds X.K fd ps ds) (hd : Vals dvs ds) (out : PassesAt CX X σ E) (I : Inv X pins σ H s) (r : Vals vs us)
    (h : ∀ x dx, H x = none → H dx = none → dx ≠ x → sp (.ref x :: (vs ++ dvs)) (upd (upd H dx (.own x)) x (.ins C dx [])) (fun v H2 => v = .non ∧ Q (.ref x) H2) E) : wpAny (model X.prog X.w) X.A (call (.ref C) us) (EP X pins σ Q) X.xe s := by
  have I2 := Inv.made (C := C) I
  have hq := h _ _ (I.hok.fresh (Nat.le_succ _)) (I.hok.fresh (Nat.le_refl _)) (Nat.ne_of_lt (Nat.lt_succ_self s.heap.objs.size))
  have r2 : Vals (V.ref (s.heap.objs.size + 1) :: (vs ++ dvs)) (Value.ref (s.heap.objs.size + 1) :: (us ++ ds)) := .cons rfl (r.append hd)
  have hl : (Value.ref (s.heap.objs.size + 1) :: us ++ ds).length = ps.length := r2.length.symm.trans (G.len _ _ _ _ hq)
  have ran := G.run _ X.stack _ _ ⟨Value.ref (s.heap.objs.size + 1) :: us, []⟩ (Value.ref (s.heap.objs.size + 1) :: (us ++ ds)) _ _ E (hr.make C us []) (I2.env0.make C us []) (hb _ (Value.ref (s.heap.objs.size + 1) :: us) I2.kIn hl) r2 hq
  refine wpAny_call (make_map (f := f) I.kIn M.makes M.init (beq_iff_eq.mp M.fn) (codeAny_mono ran ?_))
  rintro (er | fl) s' z
  · exact out pins _ _ er s' I2 z
  · cases fl with
    | ret u =>
      obtain ⟨v, H3, I3, rv, rfl, q3⟩ := I2.after z
      exact ⟨rv, ⟨V.ref (s.heap.objs.size + 1), H3, I3, rfl, q3⟩⟩
    | next => exact z.elim
    | brk => exact z.elim
    | cont => exact z.elim
end
end Js
set_option Elab.async false
set_option linter.all false
set_option maxRecDepth 100000
set_option maxHeartbeats 4000000
namespace Js
open PySem L2 PySem.Spec PyProof.Rows
section
variable {X : Cx} {o e : Expr} {es : List Expr} {to te : TE} {ta : TA} {f : Str} {p p' p1 p2 pos : Pos} {B nw ini : String} {tl : List Value}
theorem typ_VE : typeOf (.type "ValueError") = pure (.type "type") := by kernel_rfl
theorem pe_veinit2 {pl : Sem Bool} (hg : Gl X "ValueError") (hm : X.mg "ValueError" = none) (vV : PySem.W.findCls X.K (.type "ValueError") (.type "type") "__init__" = some (.val (.builtin "ValueError.__init__"))) (ha : PA X (e :: es) ta)
    (hc : eval (.Call (.Attribute (.Name "ValueError" p1) "__init__" p2) (e :: es) [] pos) X.env = (do
      let ov ← eval (.Name "ValueError" p1) X.env; standAt p2.atName
      let (f, first) ← holding [ov] (getMethod ov "__init__" pl); callWith pos f first (backTo pos (starEach (e :: es) X.env)) (backToKw pos (keywordEach [] X.env))) := by rfl)
    (he : starEach (e :: es) X.env = (false, eval e X.env) :: starEach es X.env := by rfl) (hpl : (backTo pos (starEach es X.env)).any (·.1) = false := by rfl) :
    PE X (.Call (.Attribute (.Name "ValueError" p1) "__init__" p2) (e :: es) [] pos) (tGi X.K "ValueError" nw "ValueError.__init__" tl ta) := by
  constructor
  intro pins s σ H Q I h
  refine PySem.W.methodCall_KW (ld_blt I hg hm PyProof.Rows.Boot.«ValueError» ?_ (by decide) (by decide)) hc
  obtain ⟨m, fr⟩ := I.fr
  refine PySem.W.method_type fr I.ok.mod.kin typ_VE (by decide +kernel) vV (by decide +kernel) ?_
  show wpAny _ _ (callWith pos (Value.builtin "ValueError.__init__") [] (backTo pos (starEach (e :: es) X.env)) []) _ _ _
  refine PyProof.Rows.callWith_method1 (thn (ha.run pos pins _ σ H _ (I.tok _) h) ?_) he hpl
  rintro us s1 ⟨vs, H1, I1, r1, a, C, r, rfl, hl, T, ea, q⟩
  cases r1 with
  | @cons _ u0 _ ur ra rr =>
    cases (show u0 = Value.ref a from ra)
    refine g_init T I1 ea ?_ fun s' J => ⟨.non, H1, J, rfl, q⟩
    have e1 := Paired.length rr
    have e2 := sizeLine_eq
    omega
end
end Js
namespace Js
open PySem L2
abbrev sNp : Stmt := inClass (top 3) 0
abbrev tlV : List Value := [.type "ValueError", .type "Exception", .type "BaseException", .type "object"]
abbrev GexV (K : PySem.W.Frag) (N : Addr) : Prop := GexC K N "ValueError" "ValueError.__new__" "ValueError.__init__" tlV
structure NpC (K : PySem.W.Frag) (mg : Str → Option Value) (N : Addr) : Prop where
  mgN : mg "NoProgram" = some (.ref N)
  O : GexV K N
  bd : PySem.W.findIn K (.ref N) "place" = some none
  mVE2 : mg "ValueError" = none
  vV : PySem.W.findCls K (.type "ValueError") (.type "type") "__init__" = some (.val (.builtin "ValueError.__init__"))
def spNp (K : PySem.W.Frag) : Sp := fun vs H Q _ => ∃ (a N : Addr) (n : Nat), vs = [.ref a, .int (n : Nat)] ∧ n ≤ 1000000 ∧ GexV K N ∧ PySem.W.findIn K (.ref N) "place" = some none ∧ H a = some (exo a N none) ∧
  ∀ dx, H dx = none → dx ≠ a → Q .non (upd (upd H dx (exd dx [("place", .int (n : Nat))])) a (exo a N (some dx)))
section
variable {P : Program} {w : World} {K : PySem.W.Frag} {mg : Str → Option Value} {base : Heap} {N C : Addr}
theorem scNp : FnScope ["self", "place"] ["self", "place"] (defScope sNp) := ⟨rfl, rfl, rfl, by decide +kernel, rfl, by decide +kernel, by decide +kernel⟩
theorem ok_np {f : Addr} {fd : FuncData} (F : Fun K "__init__" "NoProgram.__init__" sNp f fd) (T : NpC K mg N) : FnOk P w K mg base CX0 1 f fd ["self", "place"] (spNp K) := by
  refine F.ok scNp (fun vs H Q E h => ?_) (fun cdv A outer s H vs Q E hr h => ?_)
  · obtain ⟨a, N, n, rfl, _⟩ := h
    rfl
  · obtain ⟨a, N, n, rfl, hn, hO, hno, ha, k⟩ := h
    refine ⟨_, pss_cons (ps_expr (pe_veinit2 (nw := "ValueError.__new__") (tl := tlV) rfl T.mVE2 T.vV (pa_cons (pv 0) (pa_cons (pe_joined (.cons pe_str (.cons (pe_fmt (pv 1)) (.cons pe_str .nil)))) pa_nil)))) (pss_one (ps_gst (B := "ValueError") (nw := "ValueError.__new__") (ini := "ValueError.__init__") (tl := tlV) (pv 0) (pv 1))), ?_⟩
    have hlg := nat_log n hn
    have hl := PyProof.Rows.int_text_len_1921 hlg
    have hs := sizeLine_eq
    refine ⟨_, rfl, _, rfl, by decide +kernel, _, rfl, .inr ⟨_, rfl, hlg, _, rfl, ?_, ?_⟩⟩
    · rw [PySem.Str.length_append]
      have e : (Str.empty ++ ("no program: deed " : Str)).length = 17 := by decide +kernel
      omega
    refine ⟨_, rfl, ?_, ?_⟩
    · rw [PySem.Str.length_append, PySem.Str.length_append]
      have e : (Str.empty ++ ("no program: deed " : Str)).length = 17 := by decide +kernel
      have e2 : (" is none" : Str).length = 8 := by decide +kernel
      omega
    · refine ⟨a, N, _, rfl, by simp, hO, ha, ?_⟩
      exact ⟨_, rfl, _, rfl, a, N, rfl, hO, hno, ha, fun dx h1 h2 => k dx h1 h2⟩
theorem raise_np {H1 : Hp} {n : Nat} {Q : XK} (hO : GexV K N) (hno : PySem.W.findIn K (.ref N) "place" = some none) (hn : n ≤ 1000000)
    (q : ∀ d H', Same H1 H' → H' d = some (.xd [("place", .int (n : Nat))]) → Q (.ref N) (some d) H') :
    ∀ a, H1 a = none → spNp K [.ref a, .int (n : Nat)] (upd H1 a (exo a N none)) (fun v H2 => v = .non ∧ ∃ (d : Addr) (fs : List (Str × V)), H2 a = some (exo a N (some d)) ∧ H2 d = some (exd d fs) ∧ H1 d = none ∧ Q (.ref N) (some d) (upd (del H2 a) d (.xd fs))) (fun _ _ _ => False) := by
  intro a ha
  refine ⟨a, N, n, rfl, hn, hO, hno, upd_same, fun dx hd ne => ⟨rfl, dx, _, upd_same, (upd_ne ne).trans upd_same, ?_, q dx _ ?_ upd_same⟩⟩
  · rw [upd_ne ne] at hd
    exact hd
  · rw [upd_ne ne] at hd
    intro b o h
    have e1 := ne_of_none h hd
    have e2 := ne_of_none h ha
    rw [upd_ne e1, del_ne e2, upd_ne e2, upd_ne e1, upd_ne e2]
    exact h
structure NpM (P : Program) (w : World) (K : PySem.W.Frag) (mg : Str → Option Value) (base : Heap) (N fN : Addr) (fdN : FuncData) : Prop where
  T : NpC K mg N
  iN : PySem.W.findIn K (.ref N) "__init__" = some (some (.ref fN))
  tN : PySem.W.typeIn K (.ref fN) = some (.type "function")
  ok : FnOk P w K mg base CX0 1 fN fdN ["self", "place"] (spNp K)
  bN : Binds K fdN ["self", "place"] []
end
end Js
set_option Elab.async false
set_option linter.all false
set_option maxRecDepth 100000
set_option maxHeartbeats 2000000
set_option Elab.async false
set_option linter.all false
set_option maxRecDepth 100000
set_option maxHeartbeats 4000000
namespace Js
open PySem L2 PySem.Spec PyProof.Rows
theorem okC {CX : CXT} {P : Program} {w : World} {K : PySem.W.Frag} {mg : Str → Option Value} {base : Heap} {x ql : Str} {st : Stmt} {f : Addr} {fd : FuncData} {N ps : List Str} {k : Nat} {sp : Sp} (F : Fun K x ql st f fd) (S : FnScope N ps (defScope st)) (hl : ∀ vs H Q E, sp vs H Q E → vs.length = ps.length)
    (hb : ∀ (cdv : Value) (A : Around) (outer : List Env) (s : Shared) (H : Hp) (vs : List V) (Q : VK) (E : XK), Room k (A.deeper (envOfC ql (defScope st) s.heap.objs.size f cdv)) → sp vs H Q E →
      ∃ t, PSs (cxOf CX P w K mg base N ql (defScope st) f cdv A outer s H E) (defBody st) t ∧ t { nx := fun _ H' => Q .non H', rt := Q } (start N vs) H) :
    FnOk P w K mg base CX (k + 1) f fd ps sp := by
  obtain ⟨o1, o2, o3, o4, o5, o6, o7, o8, o9, e, look, code⟩ := F.ex
  subst e
  exact fn_of look code S hl (fun A outer s H vs Q E room h => hb _ A outer s H vs Q E room h)
section
variable {X : Cx} {e : Expr} {es : List Expr} {ta : TA} {p pos : Pos} {B nw ini : String} {tl : List Value}
theorem pmk_gexN {CX : CXT} {x : Str} {C fI : Addr} {k : Nat} {fd : FuncData} {ps : List Str} {sp : Sp} {ds : List Value} {dvs : List V} (T : GexC X.K C B nw ini tl) (iC : PySem.W.findIn X.K (.ref C) "__init__" = some (some (.ref fI))) (tI : PySem.W.typeIn X.K (.ref fI) = some (.type "function"))
    (G : FnOk X.prog X.w X.K X.mg X.base CX k fI fd ps sp) (hr : Room (k + 1) X.A) (hb : Binds X.K fd ps ds) (hd : Vals dvs ds) (hx : Passes CX X (fun _ _ _ => False)) (hg : Gl X x) (hm : X.mg x = some (.ref C)) (ha : PA X (e :: es) ta)
    (hdb : (x == ("__debug__" : Str)) = false := by decide) (he : starEach (e :: es) X.env = (false, eval e X.env) :: starEach es X.env := by rfl) (hpl : (backTo pos (starEach es X.env)).any (·.1) = false := by rfl) :
    L2N.PMk X (.Call (.Name x p) (e :: es) [] pos) (tMkO C sp dvs ta) := by
  obtain ⟨nm, q, N, bs, bm, sn, sub, ab, col, dd, k0, k1, k2, k3, k5, hC, hT⟩ := T.cls
  intro pins s σ H Q I h
  refine wpAny_Call_Name_kw (ld_glob I hg hm ?_ hdb)
  refine PySem.W.callWith_K (h₀ := X.base) I.ok.mod.kin T.kp (thn (ha.run pos pins s σ H _ I h) ?_) he hpl
  rintro us ⟨hp, g, dr, tk, os⟩ ⟨vs, H1, I1, r1, hz, q1⟩
  refine ⟨I1.kIn, ?_⟩
  show wpAny _ _ (call (.ref C) us) _ _ _
  have up := Nat.le_succ hp.objs.size
  have hq := q1 (hp.objs.size + 1) (I1.hok.fresh up)
  have kk : ∀ c z, hp.get? c = some z → ((hp.push (PySem.W.kdv_tup us)).push (PySem.HandSPX.excO C hp.objs.size)).get? c = some z := fun c z h => Heap.get?_push_of_some _ (Heap.get?_push_of_some _ h)
  have at1 : ((hp.push (PySem.W.kdv_tup us)).push (PySem.HandSPX.excO C hp.objs.size)).get? (hp.objs.size + 1) = some (PySem.HandSPX.excO C hp.objs.size) := by heap_get
  have I2 : Inv X pins σ (upd H1 (hp.objs.size + 1) (exo (hp.objs.size + 1) C none)) ⟨(hp.push (PySem.W.kdv_tup us)).push (PySem.HandSPX.excO C hp.objs.size), g, dr, tk, os⟩ :=
    I1.laid (t' := tk) kk up (exo_ok at1)
  have r2 : Vals (V.ref (hp.objs.size + 1) :: (vs ++ dvs)) (Value.ref (hp.objs.size + 1) :: (us ++ ds)) := .cons rfl (r1.append hd)
  have hl : (Value.ref (hp.objs.size + 1) :: us ++ ds).length = ps.length := (r2.length.symm.trans (G.len _ _ _ _ hq))
  have hus : us.length ≤ sizeLine := by
    have e1 := Paired.length r1
    have e2 := sizeLine_eq
    omega
  refine wpAny_call (PySem.HandSPX.call_own T.F hT (I1.kIn _ _ hC) (PySem.W.looks_findIn I1.kIn iC) (fun self => PySem.W.bind_fn I1.kIn self tI) hus ?_)
  refine codeAny_mono (G.run _ X.stack _ _ ⟨Value.ref (hp.objs.size + 1) :: us, []⟩ (Value.ref (hp.objs.size + 1) :: (us ++ ds)) _ _ (fun _ _ _ => False) (hr.make C us []) (I2.env0.make C us []) (hb _ (Value.ref (hp.objs.size + 1) :: us) I2.kIn hl) r2 hq) ?_
  rintro (er | fl) s' hq'
  · exact hx pins σ _ _ er s' I2 hq'
  · cases fl with
    | ret u =>
      obtain ⟨v, H2, os2, bare2, un2, hok2, rv, rfl, d, fs, ea, ed, hd1, q2⟩ := hq'
      obtain ⟨h2, g2, d2, t2, os'⟩ := s'
      obtain ⟨t0, G2, J, kG, ge, hoe, na⟩ := mk_end0 (d2 := d2) (t2 := t2) I1 up kk un2 hok2 os2 bare2 ea ed hd1
      exact ⟨rv, ⟨_, _, _, ⟨G2, g2, d2, t2, os'⟩, _, .ref C, some d, rfl, J, kG, ge, hoe, ⟨rfl, rfl, fun vs e => by cases e; rfl⟩, rfl, rfl, na, rfl, bare2, raises_own T.be T.ty, q2⟩⟩
    | next => exact hq'.elim
    | brk => exact hq'.elim
    | cont => exact hq'.elim
end
end Js
set_option Elab.async false
set_option linter.all false
set_option maxRecDepth 100000
set_option maxHeartbeats 4000000
namespace Js
open PySem L2
open PySem.Spec PyProof.Rows
theorem kp_kb {F : List Addr} {e : Addr} {H H' : Hp} {us : List V} (hF : e ∈ F) (he : H e = some (.lst us)) (k : KB e H H') : Kp F H H' := ⟨k.kt he, fun x vs n h => k _ _ (fun z => n (by rw [z]; exact hF)) h⟩
def spLookV (K : PySem.W.Frag) (C CP NP : Addr) (mg : Str → Option Value) (n : Nat) : Sp := fun vs H Q E => ∃ (q e : Addr) (f : Nat) (ws : List V) (ps : List Pv) (es : List Nat) (F : List Addr), vs = [.ref q, .int (f : Nat), .ref e] ∧ SqT K H q ws ∧ PvsAt K C CP F H ps ws ∧ e ∈ F ∧ OksP (WfP K mg) ps ∧ 9 ≤ f + n ∧ f ≤ 8 ∧ H e = some (.lst (numsV es)) ∧ es.length ≤ 4000 ∧
  (∀ r, okRow (ps.map (pvR (8 - f))) f es.length r → errA (errX (8 - f)) (ps.map (pvR (8 - f))) es.length = (false, es.length + manyR r) → ∀ H', KB e H H' → H' e = some (.lst (numsV (es ++ endsR r es.length))) → Q .non H') ∧
  (∀ m : Nat, errA (errX (8 - f)) (ps.map (pvR (8 - f))) es.length = (true, m) → ∀ (d : Addr) H', KB e H H' → H' d = some (.xd [("place", .int (m : Nat))]) → E (.ref NP) (some d) H')
section
variable {P : Program} {w : World} {K : PySem.W.Frag} {mg : Str → Option Value} {base : Heap} {C CP NP fNP : Addr} {fdNP : FuncData}
theorem ok_lookV {f : Addr} {fd : FuncData} (F : Fun K "look_through" "look_through" sLook f fd) (mgf : mg "look_through" = some (.ref f)) (b : Binds K fd ["row", "floors", "ends"] []) (B : Blt mg) (T : Txt K mg C) (TP : TxtP K mg CP) (G : FrmC K w mg) (M : NpM P w K mg base NP fNP fdNP)
    (DH : Def P w K mg base "has_form" 3 ["deed"] (spHasFormV K C CP mg)) (DR : Def P w K mg base "rows_in" 1 ["deed"] (spRowsInV K C CP)) : ∀ n, FnOk P w K mg base (L2N.CX P w) (n + 4) f fd ["row", "floors", "ends"] (spLookV K C CP NP mg n) := by
  obtain ⟨t1, mD⟩ := G.mD
  obtain ⟨t2, mFl⟩ := G.mF
  intro n
  induction n with
  | zero =>
    refine okC F scLk (fun vs H Q E h => ?_) (fun cdv A outer s H vs Q E hr h => ?_)
    · obtain ⟨q, e, f, ws, rws, es, F0, rfl, _⟩ := h
      rfl
    · obtain ⟨q, e, f, ws, rws, es, F0, _, _, _, _, _, h, h8, _⟩ := h
      omega
  | succ n G' =>
  refine okC F scLk (fun vs H Q E h => ?_) (fun cdv A outer s H vs Q E hr h => ?_)
  · obtain ⟨q, e, f, ws, rws, es, F0, rfl, _⟩ := h
    rfl
  · obtain ⟨q, e, f, vs, ps, es, F0, rfl, hq, hvs, heF, hok, hdp, hf8, he, hel, k, ke⟩ := h
    obtain ⟨rws, hrws⟩ : ∃ rws, ps.map (pvR (8 - f)) = rws := ⟨_, rfl⟩
    rw [hrws] at k ke
    have hr1 : Room 1 _ := hr.mono (by omega)
    have hr2 : Room 2 _ := hr.mono (by omega)
    have hr3 : Room 3 _ := hr.mono (by omega)
    refine ⟨_, pss_one (ps_for (passes_of rfl) rfl (pi_tup (pv 0)) (pg_name (i := 3) scLk.nd rfl (Or.inl rfl)) (pss_cons (ps_set (i := 4) scLk.nd rfl (Or.inl rfl) (pe_callB call_len_seq (by rfl) B.len PySem.boot_len (pa_cons (pv 2) pa_nil))) (pss_cons (ps_if (PW.pt (pw_or (pt_cmpR op_eq (pv 4) (pe_glob (v := .int 4000) rfl mD ⟨_, rfl⟩) (nomark _)) (pw_or1 (pt_not (pt_val (pe_def DH hr3 rfl (pa_cons (pv 3) pa_nil))))))) (pss_one (L2N.ps_raise rfl (L2N.takes_of rfl rfl rfl rfl) (pmk_gexN M.T.O M.iN M.tN M.ok hr2 M.bN .nil pass0 rfl M.T.mgN (pa_cons (pv 4) pa_nil)))) pss_nil) (pss_cons (ps_set (i := 5) scLk.nd rfl (Or.inl rfl) (pe_def DR hr1 rfl (pa_cons (pv 3) pa_nil))) (pss_cons (ps_if (PW.pt (pw_and (pt_truth (pv 5) (by intro _; rfl)) (pw_and1 (pt_cmpR op_eq (pv 1) (pe_glob (v := .int 8) rfl mFl ⟨_, rfl⟩) (nomark _))))) (pss_one (L2N.ps_raise rfl (L2N.takes_of rfl rfl rfl rfl) (pmk_gexN M.T.O M.iN M.tN M.ok hr2 M.bN .nil pass0 rfl M.T.mgN (pa_cons (pv 4) pa_nil)))) pss_nil) (pss_cons (ps_expr (pe_bm PySem.F.plainAttrs_list PySem.F.slot_list_append PySem.F.type_list_append mt_append (pv 2) (pa_cons (pe_op op_add (pv 4) pe_int) pa_nil))) (pss_cons (ps_for (passes_of rfl) rfl (pi_tup (pv 5)) (pg_name (i := 6) scLk.nd rfl (Or.inl rfl)) (pss_one (ps_expr (pe_callS G' hr rfl mgf F.kp b (fun σ => L2N.passAt (L2N.takes_of rfl rfl rfl rfl) σ) (pa_cons (pv 6) (pa_cons (pe_op op_add (pv 1) pe_int) (pa_cons (pv 2) pa_nil))))))) (pss_one (ps_asg (pe_callB call_len_seq (by rfl) B.len PySem.boot_len (pa_cons (pv 2) pa_nil)) (pg_sub (pv 2) (pv 4) set_list)))))))))), ?_⟩
    have hsl := line4
    have hlen : vs.length = rws.length := by rw [hvs.len, ← hrws, List.length_map]
    refine ⟨_, rfl, q, rfl, ⟨_, hq⟩, for_tup (K := K) (a := q) (xs := vs) (fun i σ H' => ∃ (x3 x4 x5 x6 : Option V) (rp : List Dd), σ = [some (.ref q), some (.int (f : Nat)), some (.ref e), x3, x4, x5, x6] ∧ KB e H H' ∧ okRow (rws.take i) f es.length rp ∧ errA (errX (8 - f)) (rws.take i) es.length = (false, es.length + manyR rp) ∧ H' e = some (.lst (numsV (es ++ endsR rp es.length)))) ⟨none, none, none, none, [], rfl, KB.refl e H, ⟨rfl, by rw [deepR]; omega, by rw [many_nil]; omega⟩, by rw [List.take_zero, errA, many_nil]; rfl, by simpa [endsR] using he⟩ ?_ ?_ ?_⟩
    · rintro i σ H1 _ ⟨x3, x4, x5, x6, rp, rfl, kb1, _, _, he1⟩
      exact sqt_kt (kb1.kt he) hq
    · rintro i v σ H1 hv ⟨x3, x4, x5, x6, rp, rfl, kb1, hrp, hep, he1⟩
      obtain ⟨x0, hx0, hxv⟩ := hvs.getV hv
      obtain ⟨x, hxe⟩ : ∃ x, pvR (8 - f) x0 = x := ⟨_, rfl⟩
      have hx : rws[i]? = some x := by rw [← hrws, List.getElem?_map, hx0, ← hxe]; rfl
      have hox := OksP_mem hok (List.mem_of_getElem? hx0)
      have hxv1 := PvAt.kp (kp_kb heF he kb1) _ _ hxv
      obtain ⟨pl, hpl⟩ : ∃ pl, es.length + manyR rp = pl := ⟨_, rfl⟩
      rw [hpl] at hep
      have hpl4 : pl ≤ 4000 := by have := hrp.2.2; omega
      have hl1 : (numsV (es ++ endsR rp es.length)).length = pl := by rw [numsV_len, List.length_append, endsR_len, hpl]
      refine ⟨_, rfl, e, _, rfl, .inl (SqL.of he1), ?_⟩
      rw [hl1]
      refine ⟨_, rfl, rfl, _, rfl, ?_⟩
      by_cases hp4 : pl = 4000
      · rw [decide_eq_true (show V.int ((pl : Nat) : Int) = V.int 4000 by rw [hp4]; rfl)]
        refine iteT (iteT ?_)
        refine ⟨_, rfl, by simp, raise_np M.T.O M.T.bd (by omega) fun d H' sH hd => ke pl (errA_at hep hx (errX_bad (.inl hp4))) d H' (kb1.trans (KB.of sH)) hd⟩
      have e0 : decide (V.int ((pl : Nat) : Int) = V.int 4000) = false := by
        simp only [decide_eq_false_iff_not, V.int.injEq]
        omega
      rw [e0]
      refine iteF ?_
      refine ⟨_, rfl, F0, v, x0, rfl, hxv1, hox, fun H2 s2 => ?_⟩
      have kb2 := kb1.trans (KB.of s2)
      have hxv2 := PvAt.kp (Kp.same s2) _ _ hxv1
      rw [← pvR_form (8 - f), hxe]
      refine ⟨_, rfl, ?_⟩
      cases hfb : formB x with
      | false =>
        refine iteT ?_
        refine ⟨_, rfl, by simp, raise_np M.T.O M.T.bd (by omega) fun d H' sH hd => ke pl (errA_at hep hx (errX_bad (.inr hfb))) d H' (kb2.trans (KB.of sH)) hd⟩
      | true =>
        refine iteF ?_
        have hfp : formP x0 = true := by rw [← pvR_form (8 - f), hxe]; exact hfb
        refine ⟨_, rfl, F0, v, x0, rfl, hxv2, hfp, fun ip ws H3 s3 hip hws => ?_⟩
        have hxr0 : x.rows = (rowsP x0).map (cutP (8 - f)) := by rw [← hxe, pvR_rows]
        have hwl : ws.length = x.rows.length := by rw [hxr0, List.length_map]; exact Paired.length hws
        have kb3 := kb2.trans (KB.of s3)
        have he3 := s3 _ _ (s2 _ _ he1)
        refine ⟨_, rfl, !ws.isEmpty, .inr (.inl ⟨ws, hip, rfl⟩), ?_⟩
        by_cases hin : ws ≠ [] ∧ f = 8
        · obtain ⟨hne, hf⟩ := hin
          rw [show (!ws.isEmpty) = true by cases ws with | nil => exact absurd rfl hne | cons => rfl]
          refine iteT ?_
          refine ⟨_, rfl, rfl, _, rfl, ?_⟩
          rw [decide_eq_true (show V.int ((f : Nat) : Int) = V.int 8 by rw [hf]; rfl)]
          refine iteT ?_
          refine ⟨_, rfl, by simp, raise_np M.T.O M.T.bd (by omega) fun d H' sH hd => ke pl (errA_at hep hx ?_) d H' (kb3.trans (KB.of sH)) hd⟩
          have hre : x.rows.isEmpty = false := by
            cases hxr : x.rows with
            | nil =>
              rw [hxr] at hwl
              exact absurd (List.length_eq_zero_iff.mp hwl) hne
            | cons _ _ => rfl
          rw [hf, Nat.sub_self, errX, if_neg (fun z => z.elim hp4 (fun z => by rw [hfb] at z; cases z)), hre]
          rfl
        have step2 : ∀ (R : Bool → Hp → Prop), R false H3 → (if (!ws.isEmpty) = true then (tTest (tOp rEq (tVar 1) (tC (.int 8)))) [some (.ref q), some (.int (f : Nat)), some (.ref e), some v, some (.int ((pl : Nat) : Int)), some (.ref ip), x6] H3 R else R false H3) := by
          intro R hR
          cases hw : ws with
          | nil => exact iteF hR
          | cons w0 wr =>
            refine iteT ?_
            refine ⟨_, rfl, rfl, _, rfl, ?_⟩
            have e1 : decide (V.int ((f : Nat) : Int) = V.int 8) = false := by
              simp only [decide_eq_false_iff_not, V.int.injEq]
              intro z
              exact hin ⟨by rw [hw]; exact (fun z => by cases z), by omega⟩
            rw [e1]
            exact hR
        refine step2 _ ?_
        refine iteF ?_
        have hf7 : x.rows ≠ [] → f ≤ 7 := fun h => by
          by_cases q : f = 8
          · exact absurd ⟨fun z => h (List.length_eq_zero_iff.mp (by rw [← hwl, z]; rfl)), q⟩ hin
          · omega
        obtain ⟨as, has⟩ : ∃ as, es ++ endsR rp es.length = as := ⟨_, rfl⟩
        rw [has] at he3 hl1
        rw [numsV_len] at hl1
        refine ⟨_, rfl, .inl ⟨rfl, _, SqL.of he3⟩, _, rfl, _, _, rfl, rfl, e, _, _, rfl, rfl, he3, by rw [numsV_len]; omega, ?_⟩
        have e4 : numsV as ++ [V.int (((pl : Nat) : Int) + 1)] = numsV (as ++ [pl + 1]) := by
          rw [numsV_app]
          rfl
        rw [e4]
        have he4 : (upd H3 e (.lst (numsV (as ++ [pl + 1])))) e = some (.lst (numsV (as ++ [pl + 1]))) := upd_same
        have kb4 : KB e H3 (upd H3 e (.lst (numsV (as ++ [pl + 1])))) := KB.set
        revert he4 kb4
        generalize upd H3 e (.lst (numsV (as ++ [pl + 1]))) = H4
        intro he4 kb4
        have kt4 : KT H3 H4 := kb4.kt he3
        refine ⟨_, rfl, ip, rfl, ⟨_, sqt_kt kt4 hip⟩, for_tup (K := K) (a := ip) (xs := ws) (fun j σ H' => ∃ (x6 : Option V) (rs : List (List Dd)), σ = [some (.ref q), some (.int (f : Nat)), some (.ref e), some v, some (.int ((pl : Nat) : Int)), some (.ref ip), x6] ∧ KB e H4 H' ∧ Paired (fun l r => rowD l = some r) (x.rows.take j) rs ∧ (rs ≠ [] → f + 1 + deepL rs ≤ 8) ∧ pl + 1 + manyL rs ≤ 4000 ∧ (∀ k, 8 - f = k + 1 → errA (errA (errX k)) (x.rows.take j) (pl + 1) = (false, pl + 1 + manyL rs)) ∧ H' e = some (.lst (numsV (as ++ [pl + 1] ++ endsL rs (pl + 1))))) ⟨_, [], rfl, KB.refl e H4, by rw [List.take_zero]; exact .nil, fun z => absurd rfl z, by rw [manyL]; omega, fun k _ => by rw [List.take_zero, errA, manyL], by simpa [endsL] using he4⟩ ?_ ?_ ?_⟩
        · rintro j σ H5 _ ⟨x6, rs, rfl, kb5, _, _, _, _, he5⟩
          exact sqt_kt (kb5.kt he4) (sqt_kt kt4 hip)
        · rintro j v6 σ H5 hv6 ⟨x6, rs, rfl, kb5, hrs, hdl, hml, hel5, he5⟩
          obtain ⟨r0, hr0, q6, us6, rfl, hq6, hus6⟩ := paired_get hws hv6
          obtain ⟨r6, hr6e⟩ : ∃ r6, cutP (8 - f) r0 = r6 := ⟨_, rfl⟩
          have hr6 : x.rows[j]? = some r6 := by rw [hxr0, List.getElem?_map, hr0, ← hr6e]; rfl
          have hne : x.rows ≠ [] := fun z => by
            rw [z] at hr6
            cases hr6
          have l5 : (as ++ [pl + 1] ++ endsL rs (pl + 1)).length = pl + 1 + manyL rs := by
            rw [List.length_append, List.length_append, endsL_len, hl1]
            rfl
          have kt5 := kt4.trans (kb5.kt he4)
          have hf7' := hf7 hne
          have hr6' : r0.map (pvR (8 - (f + 1))) = r6 := by
            rw [← hr6e, show 8 - f = (8 - (f + 1)) + 1 by omega]
            rfl
          have kp5 : Kp F0 H3 H5 := ⟨kt5, fun b us n h => (kb4.trans kb5) _ _ (fun z => n (by rw [z]; exact heF)) h⟩
          refine ⟨_, rfl, _, rfl, _, _, rfl, rfl, _, rfl, q6, e, f + 1, us6, r0, _, F0, rfl, sqt_kt kt5 hq6, PvsAt.kp kp5 _ _ hus6, heF, okP_rows hox r0 (List.mem_of_getElem? hr0), by omega, by omega, he5, by rw [l5]; exact hml, fun r hr' hee H6 kb6 he6 => ?_, fun m hem dd H6 kb6 hd6 => ke m (errA_at hep hx ?_) dd H6 (((kb3.trans kb4).trans kb5).trans kb6) hd6⟩
          · rw [hr6'] at hr' hee
            rw [l5] at hr' he6 hee
            refine ⟨_, rs ++ [r], rfl, kb5.trans kb6, ?_, ?_, ?_, ?_, ?_⟩
            · rw [take_snoc hr6]
              exact paired_app hrs (.cons hr'.1 .nil)
            · intro _
              rw [deepL_ap, deepL, deepL]
              have h1 := hr'.2.1
              by_cases hz : rs = []
              · subst hz
                rw [deepL]
                omega
              · have := hdl hz
                omega
            · rw [manyL_app, manyL_one]
              have := hr'.2.2
              omega
            · intro kk hkk
              rw [take_snoc hr6, errA_snoc (hel5 kk hkk), manyL_app, manyL_one]
              rw [show 8 - (f + 1) = kk by omega] at hee
              rw [hee, Nat.add_assoc]
            · rw [he6, endsL_app, endsL_one, List.append_assoc (as ++ [pl + 1])]
          · rw [hr6', l5] at hem
            have hf8' : 8 - f = (8 - (f + 1)) + 1 := by have := hf7 hne; omega
            rw [hf8', errX, if_neg (fun z => z.elim hp4 (fun z => by rw [hfb] at z; cases z))]
            exact errA_at (hel5 _ hf8') hr6 hem
        · rintro σ H5 ⟨x6, rs, rfl, kb5, hrs, hdl, hml, hel5, he5⟩
          rw [hwl, List.take_length] at hrs
          obtain ⟨d', h1, hdr⟩ := dd_of hfb hrs
          subst hdr
          have hmr := many_rows d'
          have l5 : (as ++ [pl + 1] ++ endsL d'.rows (pl + 1)).length = pl + d'.many := by
            rw [List.length_append, List.length_append, endsL_len, hl1, hmr]
            simp only [List.length_cons, List.length_nil]
            omega
          refine ⟨_, rfl, e, _, rfl, .inl (SqL.of he5), ?_⟩
          rw [numsV_len, l5]
          refine ⟨_, rfl, _, rfl, e, _, _, pl, rfl, rfl, he5, ?_, ?_⟩
          · rw [numsV_len, l5]
            have := many_pos d'
            exact ixN_at _ _ (by omega)
          · have es5 : (numsV (as ++ [pl + 1] ++ endsL d'.rows (pl + 1))).set pl (V.int (((pl + d'.many : Nat)) : Int)) = numsV (es ++ endsR (rp ++ [d']) es.length) := by
              rw [endsR_app, endsR_one, ends_rows, ← List.append_assoc, has, hpl, List.append_assoc, numsV_app, numsV_app]
              rw [List.set_append_right _ _ (by rw [numsV_len, hl1]; exact Nat.le_refl _), numsV_len, hl1, Nat.sub_self, numsV_app]
              rfl
            refine ⟨_, _, _, _, rp ++ [d'], rfl, ((kb3.trans kb4).trans kb5).trans KB.set, ⟨?_, ?_, ?_⟩, ?_, ?_⟩
            · rw [take_snoc hx]
              exact rowD_snoc hrp.1 h1
            · rw [deepR_ap, deepR, deepR]
              have g1 := hrp.2.1
              by_cases hz : d'.rows = []
              · have : d'.deep = 0 := by
                  cases d' with
                  | told => rw [Dd.deep]
                  | take => rw [Dd.deep]
                  | two => rw [Dd.deep]
                  | wh => cases hz
                  | iff => cases hz
                omega
              · have g2 := hdl hz
                have g3 := deep_rows d' hz
                omega
            · rw [manyR_app, manyR_one]
              omega
            · rw [take_snoc hx, errA_snoc hep, manyR_app, manyR_one, ← Nat.add_assoc, hpl, hmr]
              by_cases h8 : f = 8
              · have hxe : x.rows = [] := by
                  cases hxr : x.rows with
                  | nil => rfl
                  | cons _ _ => exact absurd (hf7 (by rw [hxr]; exact fun z => nomatch z)) (by omega)
                rw [hxe] at hrs
                cases hrs' : d'.rows with
                | nil =>
                  rw [h8, Nat.sub_self, errX, if_neg (fun z => z.elim hp4 (fun z => by rw [hfb] at z; cases z)), hxe, manyL]
                  rfl
                | cons _ _ => rw [hrs'] at hrs; cases hrs
              · have hf8' : 8 - f = (7 - f) + 1 := by omega
                have h9 := hel5 _ hf8'
                rw [hwl, List.take_length] at h9
                rw [hf8', errX, if_neg (fun z => z.elim hp4 (fun z => by rw [hfb] at z; cases z)), h9]
                congr 1
                omega
            · rw [upd_same, ← es5]
    · rintro σ H1 ⟨x3, x4, x5, x6, rp, rfl, kb1, hrp, hep, he1⟩
      rw [hlen, List.take_length] at hrp hep
      exact k rp hrp hep H1 kb1 he1
end
end Js
set_option Elab.async false
set_option linter.all false
set_option maxRecDepth 100000
set_option maxHeartbeats 2000000
namespace Js
open PySem L2
open PySem.Spec PyProof.Rows
section
variable {K : PySem.W.Frag} {C CP : Addr} {F G : List Addr} {H : Hp}
mutual
theorem PvAt.chg (k : ∀ a vs, a ∉ F → H a = some (.lst vs) → a ∉ G) : ∀ (x : Pv) (v : V), PvAt K C CP F H x v → PvAt K C CP G H x v
  | .pg r, v, h => by
    rw [PvAt] at h ⊢
    exact h
  | .th t, v, h => by
    rw [PvAt] at h ⊢
    exact h
  | .int i, v, h => by
    rw [PvAt] at h ⊢
    exact h
  | .bl i, v, h => by
    rw [PvAt] at h ⊢
    exact h
  | .str i, v, h => by
    rw [PvAt] at h ⊢
    exact h
  | .non, v, h => by
    rw [PvAt] at h ⊢
    exact h
  | .tup xs, v, h => by
    rw [PvAt] at h ⊢
    obtain ⟨a, vs, e, h, z⟩ := h
    exact ⟨a, vs, e, h, PvsAt.chg k xs vs z⟩
  | .lst xs, v, h => by
    rw [PvAt] at h ⊢
    obtain ⟨a, vs, e, n, h, z⟩ := h
    exact ⟨a, vs, e, k _ _ n h, h, PvsAt.chg k xs vs z⟩
  | .row r, v, h => by
    rw [PvAt] at h ⊢
    exact h
theorem PvsAt.chg (k : ∀ a vs, a ∉ F → H a = some (.lst vs) → a ∉ G) : ∀ (xs : List Pv) (vs : List V), PvsAt K C CP F H xs vs → PvsAt K C CP G H xs vs
  | [], vs, h => by
    rw [PvsAt] at h ⊢
    exact h
  | x :: xs, vs, h => by
    rw [PvsAt] at h ⊢
    obtain ⟨v, ws, e, h1, h2⟩ := h
    exact ⟨v, ws, e, PvAt.chg k x v h1, PvsAt.chg k xs ws h2⟩
end
theorem PvsAt.more {D : Addr} (n : H D = none) {xs : List Pv} {vs : List V} (h : PvsAt K C CP F H xs vs) : PvsAt K C CP (D :: F) H xs vs := PvsAt.chg (fun a us na e m => by
  rcases List.mem_cons.mp m with rfl | m
  · rw [n] at e
    cases e
  · exact na m) xs vs h
theorem PvAt.less {x : Pv} {v : V} (hs : ∀ a ∈ G, a ∈ F) (h : PvAt K C CP F H x v) : PvAt K C CP G H x v := PvAt.chg (fun a us na _ m => na (hs a m)) x v h
theorem Kp.app {D : Addr} {F : List Addr} {H : Hp} {us ws : List V} (hD : H D = some (.lst us)) (hm : D ∈ F) : Kp F H (upd H D (.lst ws)) := ⟨KT.lst hD, fun a vs n h => by
  rw [upd_ne (fun e => n (by rw [e]; exact hm))]
  exact h⟩
end
theorem kb_app {p D : Addr} {H0 H : Hp} {o : HO} (kb : KB p H0 H) (nD : H0 D = none) : KB p H0 (upd H D o) := fun a x na h => by
  rw [upd_ne (fun e => by rw [e, nD] at h; cases h)]
  exact kb a x na h
theorem bag_neF {H : Hp} {p a : Addr} (b : BagOk H p) (n : H a = none) : a ≠ p := fun z => by
  obtain ⟨xs, h⟩ := b.some
  rw [z, h] at n
  cases n
theorem kb_none {p a : Addr} {H0 H : Hp} (kb : KB p H0 H) (hp : a ≠ p) (n : H a = none) : H0 a = none := by
  cases e : H0 a with
  | none => rfl
  | some o =>
    rw [kb _ _ hp e] at n
    cases n
end Js
set_option Elab.async false
set_option linter.all false
set_option maxRecDepth 100000
set_option maxHeartbeats 4000000
namespace Js
open PySem L2
open PySem.Spec PyProof.Rows
def spPInitV (K : PySem.W.Frag) (C CP NP : Addr) (mg : Str → Option Value) : Sp := fun vs H Q E => ∃ (p dx : Addr) (v : V) (x : Pv) (F : List Addr), vs = [.ref p, v] ∧ H p = some (.ins CP dx []) ∧ PvAt K C CP F H x v ∧ OkP (WfP K mg) x ∧
  (x.its = none → ∀ (d : Addr) H', Same H H' → H' d = some (.xd [("place", .int ((0 : Nat) : Nat))]) → E (.ref NP) (some d) H') ∧
  (∀ xs q, x.its = some xs → v = .ref q → (∀ r, okRow (xs.map (pvR 8)) 0 0 r → errA (errX 8) (xs.map (pvR 8)) 0 = (false, manyR r) → ∀ pl ys H', KB p H H' → H' p = some (.ins CP dx (pf q pl)) → H' pl = some (.tup ys) → RAt K C H' q r → Paired (PlE K C H') ys (layR r (manyR r) 0) → Q .non H') ∧
  (∀ m : Nat, errA (errX 8) (xs.map (pvR 8)) 0 = (true, m) → ∀ (d : Addr) H', Same H H' → H' d = some (.xd [("place", .int (m : Nat))]) → E (.ref NP) (some d) H'))
section
variable {P : Program} {w : World} {K : PySem.W.Frag} {mg : Str → Option Value} {base : Heap} {C CP NP fNP fL : Addr} {fdNP fdL : FuncData}
theorem ok_pinitV {f : Addr} {fd : FuncData} (F : Fun K "__init__" "Program.__init__" sPInit f fd) (B : Blt mg) (T : Txt K mg C) (G : FrmC K w mg) (TP : TxtP K mg CP) (PK : PvK K C CP) (M : NpM P w K mg base NP fNP fdNP) (GL : FnOk P w K mg base (L2N.CX P w) 13 fL fdL ["row", "floors", "ends"] (spLookV K C CP NP mg 9)) (mgL : mg "look_through" = some (.ref fL)) (kL : PySem.W.keepIn K (.ref fL) = true) (bL : Binds K fdL ["row", "floors", "ends"] []) (DY : Def P w K mg base "lay_out" 11 ["row", "behind", "ends", "plan"] (spLay K C 9)) : FnOk P w K mg base (L2N.CX P w) 14 f fd ["self", "deeds"] (spPInitV K C CP NP mg) := by
  refine okC F scPI (fun vs H Q E h => ?_) (fun cdv A outer s H vs Q E hr h => ?_)
  · obtain ⟨p, dx, v, x, F, rfl, _⟩ := h
    rfl
  · obtain ⟨p, dx, v, x, F0, rfl, hp, hx, hok, kz, ka⟩ := h
    have hr11 : Room 11 _ := hr.mono (by decide)
    have hr2 : Room 2 _ := hr.mono (by decide)
    refine ⟨_, pss_cons (ps_if (pt_not (pt_val (pe_callB (r := rIsi K) call_isi (by rfl) T.isi PyProof.Rows.boot_isinstance (pa_cons (pv 1) (pa_cons (pe_bltn (v := .ty "tuple") rfl G.mt PyProof.Rows.boot_tuple rfl) pa_nil))))) (pss_one (L2N.ps_raise rfl (L2N.takes_of rfl rfl rfl rfl) (pmk_gexN M.T.O M.iN M.tN M.ok hr2 M.bN .nil pass0 rfl M.T.mgN (pa_cons pe_int pa_nil)))) pss_nil) (pss_cons (ps_set (i := 2) scPI.nd rfl (Or.inl rfl) (pe_lst pa_nil)) (pss_cons (ps_expr (pe_callS GL hr rfl mgL kL bL (fun σ => L2N.passAt (L2N.takes_of rfl rfl rfl rfl) σ) (pa_cons (pv 1) (pa_cons pe_int (pa_cons (pv 2) pa_nil))))) (pss_cons (ps_set (i := 3) scPI.nd rfl (Or.inl rfl) (pe_lst pa_nil)) (pss_cons (ps_expr (pe_def DY hr11 rfl (pa_cons (pv 1) (pa_cons (pe_callB call_len_seq (by rfl) B.len PySem.boot_len (pa_cons (pv 2) pa_nil)) (pa_cons (pv 2) (pa_cons (pv 3) pa_nil)))))) (pss_cons (ps_fld (pv 0) (pv 1) rfl) (pss_one (ps_fld (pv 0) (pe_callTy call_tuple_of (by rfl) G.mt PyProof.Rows.boot_tuple (pa_cons (pv 3) pa_nil)) rfl))))))), ?_⟩
    have hsl := line4
    refine ⟨_, rfl, _, _, _, _, _, rfl, Ck.cls C CP .tup, tyPv T TP hx, PK.kit _ .tup, ?_⟩
    refine ⟨_, rfl, ?_⟩
    cases hits : x.its with
    | none =>
      have e1 : x.is .tup = false := by rw [its_is, hits]; rfl
      rw [e1]
      refine iteT ?_
      exact ⟨by simp, raise_np (n := 0) M.T.O M.T.bd (by omega) fun d H' sH hd => kz hits d H' sH hd⟩
    | some xs =>
    have e1 : x.is .tup = true := by rw [its_is, hits]; rfl
    rw [e1]
    refine iteF ?_
    obtain ⟨q, vs, rfl, hqv, hvs⟩ := hx.its hits
    have hwx := hok.its hits
    obtain ⟨ky, ke⟩ := ka xs q hits rfl
    refine ⟨Nat.zero_le _, fun e ne => ?_⟩
    have s1 : Same H (upd H e (.lst [])) := Same.new ne
    have he1 : (upd H e (.lst [])) e = some (.lst (numsV [])) := upd_same
    revert s1 he1
    generalize upd H e (.lst []) = H1
    intro s1 he1
    refine ⟨_, rfl, _, rfl, q, e, 0, vs, xs, [], e :: F0, rfl, sqt_kt (KT.of s1) hqv, PvsAt.kp (Kp.same s1) _ _ (PvsAt.more ne hvs), List.mem_cons_self, hwx, by decide, by decide, he1, by decide, fun r hro hee H2 kb2 he2 => ?_, fun m hem d H2 kb2 hd2 => ke m hem d H2 (fun b o h => kb2 _ _ (ne_of_none h ne) (s1 _ _ h)) hd2⟩
    have hq : RAt K C H q r := ⟨vs, hqv, pvsR_dd hvs hro.1⟩
    have hd : deepR r ≤ 8 := by have := hro.2.1; omega
    have hm : manyR r ≤ 4000 := by have := hro.2.2; omega
    have k := ky r hro (by rw [List.length_nil, Nat.zero_add] at hee; exact hee)
    rw [List.nil_append] at he2
    have kt2 : KT H1 H2 := kb2.kt he1
    have hep : e ≠ p := fun z => by rw [z, hp] at ne; cases ne
    refine ⟨Nat.zero_le _, fun pn npn => ?_⟩
    have s3 : Same H2 (upd H2 pn (.lst [])) := Same.new npn
    have hpn3 : (upd H2 pn (.lst [])) pn = some (.lst []) := upd_same
    have hpe : e ≠ pn := fun z => by rw [← z, he2] at npn; cases npn
    have hpp : pn ≠ p := fun z => by
      have : H2 p = some (.ins CP dx []) := kb2 _ _ (Ne.symm hep) (s1 _ _ hp)
      rw [z, this] at npn
      cases npn
    revert s3 hpn3
    generalize upd H2 pn (.lst []) = H3
    intro s3 hpn3
    have he3 := s3 _ _ he2
    have hq3 : RAt K C H3 q r := ((hq.same s1).kt kt2).same s3
    refine ⟨_, rfl, _, rfl, e, _, rfl, .inl (SqL.of he3), ?_⟩
    rw [numsV_len, endsR_len]
    refine ⟨_, rfl, _, rfl, q, e, pn, manyR r, r, endsR r 0, [], rfl, hq3, by omega, he3, Pre.whole _, hpn3, hpe, by simpa using hm, fun H4 ys kb4 hp4 hys => ?_⟩
    rw [List.nil_append] at hp4
    have kt4 : KT H3 H4 := kb4.kt hpn3
    have hpz : H4 p = some (.ins CP dx []) := kb4 _ _ (Ne.symm hpp) (s3 _ _ (kb2 _ _ (Ne.symm hep) (s1 _ _ hp)))
    refine ⟨_, rfl, _, rfl, p, CP, dx, [], rfl, hpz, TP.cl, TP.nD, (by show 0 < 1000; decide), ?_⟩
    have hp5 : (upd H4 p (.ins CP dx (putF "deeds" (.ref q) []))) pn = some (.lst ys) := by rw [upd_ne hpp]; exact hp4
    refine ⟨_, rfl, pn, _, rfl, .inl ⟨SqL.of hp5, fun pl npl => ?_⟩⟩
    have hplp : pl ≠ p := fun z => by rw [z, upd_same] at npl; cases npl
    refine ⟨_, rfl, p, CP, dx, _, rfl, by rw [upd_ne (Ne.symm hplp)]; exact upd_same, TP.cl, TP.nP, Nat.lt_of_le_of_lt (length_putF _ _ _) (by show 0 + 1 < 1000; decide), ?_⟩
    have kbz : KB p H4 (upd (upd (upd H4 p (.ins CP dx (putF "deeds" (.ref q) []))) pl (.tup ys)) p (.ins CP dx (pf q pl))) := fun a o na ha => by
      have npl4 : H4 pl = none := by
        rw [upd_ne hplp] at npl
        exact npl
      rw [upd_ne na, upd_ne (ne_of_none ha npl4), upd_ne na]
      exact ha
    have kbH : KB p H H4 := fun a o na ha => by
      have nae : a ≠ e := ne_of_none ha ne
      have h2 := kb2 _ _ nae (s1 _ _ ha)
      have nan : a ≠ pn := ne_of_none h2 npn
      exact kb4 _ _ nan (s3 _ _ h2)
    have fr := Fr.kb hpz kbz
    refine k pl ys _ (kbH.trans kbz) ?_ ?_ ((hq3.kt kt4).fr fr) (pls_fr fr hys)
    · exact upd_same
    · rw [upd_ne hplp, upd_same]
end
end Js
set_option Elab.async false
set_option linter.all false
set_option maxRecDepth 100000
set_option maxHeartbeats 2000000
namespace Js
open PySem L2
open PySem.Spec PyProof.Rows
structure MakerPV (P : Program) (w : World) (K : PySem.W.Frag) (mg : Str → Option Value) (base : Heap) (C CP NP fI : Addr) (fdI : FuncData) : Prop where
  M : Mk K CP fI
  G : FnOk P w K mg base (L2N.CX P w) 14 fI fdI ["self", "deeds"] (spPInitV K C CP NP mg)
  mgP : mg "Program" = some (.ref CP)
  b : Binds K fdI ["self", "deeds"] []
def tPV (K : PySem.W.Frag) (C CP NP : Addr) (mg : Str → Option Value) (E : L2.St → XK) (t : TA) : TE := fun σ H Q => t σ H fun vs H1 => ∃ (v : V) (x : Pv) (F : List Addr), vs = [v] ∧ PvAt K C CP F H1 x v ∧ OkP (WfP K mg) x ∧
  (x.its = none → ∀ (d : Addr) H', Same H1 H' → H' d = some (.xd [("place", .int ((0 : Nat) : Nat))]) → E σ (.ref NP) (some d) H') ∧
  (∀ xs q, x.its = some xs → v = .ref q → (∀ r, okRow (xs.map (pvR 8)) 0 0 r → errA (errX 8) (xs.map (pvR 8)) 0 = (false, manyR r) → ∀ z H', Same H1 H' → H1 z = none → PgAt K C CP H' z r → Q (.ref z) H') ∧
  (∀ m : Nat, errA (errX 8) (xs.map (pvR 8)) 0 = (true, m) → ∀ (d : Addr) H', Same H1 H' → H' d = some (.xd [("place", .int (m : Nat))]) → E σ (.ref NP) (some d) H'))
theorem mk_pgV {K : PySem.W.Frag} {C CP NP : Addr} {mg : Str → Option Value} {H : Hp} {v : V} {x : Pv} {F : List Addr} {Q : VK} {E : XK} (hx : PvAt K C CP F H x v) (hok : OkP (WfP K mg) x)
    (kz : x.its = none → ∀ (d : Addr) H', Same H H' → H' d = some (.xd [("place", .int ((0 : Nat) : Nat))]) → E (.ref NP) (some d) H')
    (ka : ∀ xs q, x.its = some xs → v = .ref q → (∀ r, okRow (xs.map (pvR 8)) 0 0 r → errA (errX 8) (xs.map (pvR 8)) 0 = (false, manyR r) → ∀ z H', Same H H' → H z = none → PgAt K C CP H' z r → Q (.ref z) H') ∧
      (∀ m : Nat, errA (errX 8) (xs.map (pvR 8)) 0 = (true, m) → ∀ (d : Addr) H', Same H H' → H' d = some (.xd [("place", .int (m : Nat))]) → E (.ref NP) (some d) H')) :
    ∀ o dx, H o = none → H dx = none → dx ≠ o → spPInitV K C CP NP mg (.ref o :: ([v] ++ [])) (upd (upd H dx (.own o)) o (.ins CP dx [])) (fun v H3 => v = .non ∧ Q (.ref o) H3) E := by
  intro o dx nx ndx ne
  have s0 : Same H (upd (upd H dx (.own o)) o (.ins CP dx [])) := (Same.new ndx).trans (Same.new (by rw [upd_ne (Ne.symm ne)]; exact nx))
  refine ⟨o, dx, v, x, F, rfl, upd_same, PvAt.kp (Kp.same s0) _ _ hx, hok, fun hn d H' s h => kz hn d H' (s0.trans s) h, fun xs q hi hv => ⟨fun r hro hee pl ys H' kb hpx hpl hr hys => ⟨rfl, ?_⟩, fun m hem d H' s h => (ka xs q hi hv).2 m hem d H' (s0.trans s) h⟩⟩
  refine (ka xs q hi hv).1 r hro hee o H' (fun b a h => kb _ _ (ne_of_none h nx) (s0 _ _ h)) nx ?_
  exact ⟨⟨dx, q, pl, ys, hpx, hr, hpl, hys⟩, by have := hro.2.1; omega, by have := hro.2.2; omega⟩
section
variable {X : Cx} {C CP NP fI : Addr} {fdI : FuncData} {p pos : Pos} {e : Expr} {es : List Expr} {t : TA} {E : L2.St → XK}
theorem pe_PV (mk : MakerPV X.prog X.w X.K X.mg X.base C CP NP fI fdI) (hr : Room 15 X.A) (hg : Gl X "Program") (out : ∀ σ, PassesAt (L2N.CX X.prog X.w) X σ (E σ)) (ha : PA X (e :: es) t)
    (he : starEach (e :: es) X.env = (false, eval e X.env) :: starEach es X.env := by rfl) (hpl : (backTo pos (starEach es X.env)).any (·.1) = false := by rfl) : PE X (.Call (.Name "Program" p) (e :: es) [] pos) (tPV X.K C CP NP X.mg E t) := by
  refine ⟨fun pins s σ H Q I h => ?_⟩
  refine wpAny_Call_Name_kw (ld_glob I hg mk.mgP ?_ (by decide))
  refine PySem.W.callWith_K (h₀ := X.base) I.ok.mod.kin mk.M.kp (thn (ha.run pos pins s σ H _ I h) fun us s1 ⟨vs, H1, I1, r, q⟩ => ⟨I1.kIn, ?_⟩) he hpl
  obtain ⟨v, x, F, rfl, h1, h2, k, ke⟩ := q
  exact make_at mk.M mk.G hr mk.b .nil (out σ) I1 r (mk_pgV h1 h2 k ke)
end
end Js
set_option Elab.async false
set_option linter.all false
set_option maxRecDepth 100000
set_option maxHeartbeats 2000000
set_option Elab.async false
set_option linter.all false
set_option maxRecDepth 100000
set_option maxHeartbeats 2000000
namespace Js
open PySem L2
def tx (cs : List Nat) : Str := ⟨cs.toArray⟩
theorem tx_list (cs : List Nat) : (tx cs).cps.toList = cs := rfl
theorem chain_count (x : Str) (c : Nat) (hi : Nat) (hh : hi = x.length) : ∀ (cuts : List Nat) (a f : Nat), PySem.StrLaws.ChainG x ⟨#[c]⟩ hi a cuts f → (∀ k, f ≤ k → ¬ PySem.StrLaws.At x ⟨#[c]⟩ hi k) → cuts.length = (x.cps.toList.drop a).count c
  | [], a, f, h, hn => by
    have e : f = a := h
    subst e
    symm
    rw [List.length_nil, List.count_eq_zero]
    intro hm
    obtain ⟨j, hj⟩ := List.getElem?_of_mem hm
    rw [List.getElem?_drop] at hj
    subst hh
    exact hn (f + j) (by omega) ((PySem.StrLaws.subAt_one x c (f + j)).mpr hj)
  | d :: r, a, f, h, hn => by
    obtain ⟨h1, h2, h3, h4⟩ := h
    have ih := chain_count x c hi hh r (d + 1) f h4 hn
    subst hh
    have hd : x.cps.toList[d]? = some c := (PySem.StrLaws.subAt_one x c d).mp h2
    have hlt := (List.getElem?_eq_some_iff.mp hd).1
    have e1 : x.cps.toList.drop a = (x.cps.toList.drop a).take (d - a) ++ x.cps.toList.drop d := by
      have := List.take_append_drop (d - a) (x.cps.toList.drop a)
      rw [List.drop_drop] at this
      have e : a + (d - a) = d := by omega
      rw [e] at this
      exact this.symm
    have e2 : ((x.cps.toList.drop a).take (d - a)).count c = 0 := by
      rw [List.count_eq_zero]
      intro hm
      obtain ⟨j, hj⟩ := List.getElem?_of_mem hm
      have hj1 : j < d - a := by
        have := (List.getElem?_eq_some_iff.mp hj).1
        rw [List.length_take] at this
        omega
      rw [List.getElem?_take_of_lt hj1, List.getElem?_drop] at hj
      exact h3 (a + j) (by omega) (by omega) ((PySem.StrLaws.subAt_one x c (a + j)).mpr hj)
    have e3 : x.cps.toList.drop d = c :: x.cps.toList.drop (d + 1) := by
      rw [List.drop_eq_getElem_cons hlt, (List.getElem?_eq_some_iff.mp hd).2]
    rw [e1, List.count_append, e2, e3, List.count_cons_self, List.length_cons, ih]
    omega
theorem count_tx (cs : List Nat) (c : Nat) : PySem.Txt.count (tx cs) ⟨#[c]⟩ = ((cs.count c : Nat) : Int) := by
  unfold PySem.Txt.count
  obtain ⟨f, h1, h2⟩ := PySem.StrLaws.occ_tight (tx cs) ⟨#[c]⟩ (by show 1 ≤ 1; decide)
  rw [chain_count (tx cs) c _ rfl _ 0 f h1 h2, List.drop_zero, tx_list]
end Js
set_option Elab.async false
set_option linter.all false
set_option maxRecDepth 100000
set_option maxHeartbeats 2000000
namespace Js
open PySem L2
theorem cn (s : Str) (cs : List Nat) (h : s.cps = cs.toArray) : PySem.Txt.count s "n" = ((cs.count 110 : Nat) : Int) := by
  rw [show s = tx cs from by cases s; simp only [tx]; exact congrArg _ h, c_n, count_tx]
end Js
set_option Elab.async false
set_option linter.all false
set_option maxRecDepth 100000
set_option maxHeartbeats 2000000
namespace Js
open PySem L2
inductive Pc where
  | nm (b : Nat)
  | th (t : Tr)
  | rw (r : List Dd)
def PcAt (K : PySem.W.Frag) (C : Addr) (H : Hp) (v : V) : Pc → Prop
  | .nm b => b < 10 ∧ v = .int (b : Nat)
  | .th t => t.size ≤ 4000 ∧ ∃ a, v = .ref a ∧ Th C H a t
  | .rw r => ∃ q, v = .ref q ∧ RAt K C H q r
theorem PcAt.kt {K : PySem.W.Frag} {C : Addr} {H H' : Hp} (k : KT H H') {v : V} : ∀ {x : Pc}, PcAt K C H v x → PcAt K C H' v x
  | .nm _, h => h
  | .th _, ⟨z, a, e, h⟩ => ⟨z, a, e, h.kt k⟩
  | .rw _, ⟨q, e, h⟩ => ⟨q, e, h.kt k⟩
def Pc.deep : Pc → Nat
  | .rw r => deepR r + 1
  | _ => 0
end Js
set_option Elab.async false
set_option linter.all false
set_option maxRecDepth 100000
set_option maxHeartbeats 2000000
namespace Js
open PySem L2
def nmA (ns : List Tr) (a : Nat) : Tr := ns.getD a .nil
def yesT : Tr := .pr .nil .nil
def Dd.look : Dd → Bool
  | .wh _ _ => true
  | .iff _ _ _ => true
  | _ => false
def Dd.made (ns : List Tr) : Dd → Tr
  | .told _ t => t
  | .take false _ b => (nmA ns b).head
  | .take true _ b => (nmA ns b).tail
  | .two false _ b c => .pr (nmA ns b) (nmA ns c)
  | .two true _ b c => if nmA ns b = nmA ns c then yesT else .nil
  | _ => .nil
abbrev Pt := Dd × List Nat
end Js
set_option Elab.async false
set_option linter.all false
set_option maxRecDepth 100000
set_option maxHeartbeats 2000000
set_option Elab.async false
set_option linter.all false
set_option maxRecDepth 100000
set_option maxHeartbeats 2000000
set_option Elab.async false
set_option linter.all false
set_option maxRecDepth 100000
set_option maxHeartbeats 2000000
set_option Elab.async false
set_option linter.all false
set_option maxRecDepth 100000
set_option maxHeartbeats 2000000
set_option Elab.async false
set_option linter.all false
set_option maxRecDepth 100000
set_option maxHeartbeats 2000000
set_option Elab.async false
set_option linter.all false
set_option maxRecDepth 100000
set_option maxHeartbeats 2000000
namespace Js
open PySem PySem.Spec PyProof.Rows L2
section
variable {X : Cx} {C CP : Addr} {k : Nat}
theorem call_lenP (S : Spc X.prog X.w X.K X.mg X.base CP "__len__" 1 ["self"] (spPLen X.K C CP)) (hr : Room 2 X.A) : CallR X (.builtin "len") (fun xs H Q => ∃ a r, xs = [.ref a] ∧ PgAt X.K C CP H a r ∧ Q (.int ((manyR r : Nat) : Int)) H) := by
  obtain ⟨f, fd, ow, F, hb⟩ := S
  refine CallR.imp (call_lenOwn ow F hb hr (pass0)) fun xs H Q h => ?_
  obtain ⟨a, r, rfl, ha, q⟩ := h
  obtain ⟨dx, q1, pl, ys, g1, _⟩ := ha.ex
  have := ha.mn
  exact ⟨a, dx, _, rfl, g1, a, r, rfl, ha, _, rfl, by omega, q⟩
end
end Js
set_option Elab.async false
set_option linter.all false
set_option maxRecDepth 100000
set_option maxHeartbeats 2000000
set_option Elab.async false
set_option linter.all false
set_option maxRecDepth 100000
set_option maxHeartbeats 2000000
namespace Js
open PySem L2
open PySem PySem.Spec PyProof.Rows L2
abbrev sGood7 : Stmt := top 47
structure RfV (K : PySem.W.Frag) (mg : Str → Option Value) (NP : Addr) : Prop where
  tg : NpC K mg NP
  xf : XfC K NP
  xc : XcC K NP
  ex : PySem.W.exmOne K (.ref NP) (.ref NP) = some true
  ve : PySem.W.kitOne K (.ref NP) (.type "ValueError") = some true
  oth : ∃ n1 n2 n3 n4 n5 n6 : Addr, mg "NoName" = some (.ref n1) ∧ mg "NoRoom" = some (.ref n2) ∧ mg "NoSaying" = some (.ref n3) ∧ mg "NoStep" = some (.ref n4) ∧ mg "NoText" = some (.ref n5) ∧ mg "TooGreat" = some (.ref n6) ∧
    PySem.W.kitAny K (.ref NP) [.ref n1, .ref n2, .ref n3, .ref n4, .ref n5, .ref n6] = some false
theorem takesN7 {X : Cx} : L2N.Takes X (fun _ _ _ _ => False) := fun u s' x => by
  obtain ⟨_, _, _, _, _, _, _, _, _, _, _, _, _, _, _, _, h⟩ := x
  exact h.elim
theorem zc_of7 {cls : Value} {d : Option Addr} {oe : Obj} (h : L2N.Zn cls d oe) : Zc cls d oe := ⟨h.1, h.2.1⟩
def dueP (x : Pv) : Bool × Nat := match x.its with
  | none => (true, 0)
  | some xs => wrP 8 xs 0
def spGood7 (K : PySem.W.Frag) (C CP : Addr) (mg : Str → Option Value) : Sp := fun vs H Q _ => ∃ F v x, vs = [v] ∧ PvAt K C CP F H x v ∧ OkP (WfP K mg) x ∧ ∀ H', Same H H' → Q (.bl true) H'
section
variable {P : Program} {w : World} {K : PySem.W.Frag} {mg : Str → Option Value} {base : Heap} {C CP NP fI : Addr} {fdI : FuncData}
theorem scGd7 : FnScope ["_law_thing_here", "_law_due", "_law_broken", "_law_program", "e", "_law_other"] ["_law_thing_here"] (defScope sGood7) := ⟨rfl, rfl, rfl, by decide +kernel, rfl, by decide +kernel, by decide +kernel⟩
theorem ok_good7 {f : Addr} {fd : FuncData} (F : Fun K "_law_good" "_law_good" sGood7 f fd) (B : Blt mg) (kib : PySem.W.kitOne K (.type "int") (.type "bool") = some false) (T : Txt K mg C) (TP : TxtP K mg CP) (G : FrmC K w mg) (PK : PvK K C CP) (R : RfV K mg NP) (SPL : Spc P w K mg base CP "__len__" 1 ["self"] (spPLen K C CP)) (DWr : Def P w K mg base "_law_wrong" 12 ["_law_deeds_here", "_law_deep", "_law_at"] (spLW7 K C CP 9)) (MPV : MakerPV P w K mg base C CP NP fI fdI) : FnOk P w K mg base CX0 16 f fd ["_law_thing_here"] (spGood7 K C CP mg) := by
  obtain ⟨n1, n2, n3, n4, n5, n6, m1, m2, m3, m4, m5, m6, kA⟩ := R.oth
  refine F.ok scGd7 (fun vs H Q E h => ?_) (fun cdv A outer s H vs Q E hr h => ?_)
  · obtain ⟨F0, v, x, rfl, _⟩ := h
    rfl
  · obtain ⟨F0, v, x, rfl, hx, hok, k⟩ := h
    have hr2 : Room 2 _ := hr.mono (by decide)
    have hr12 : Room 12 _ := hr.mono (by decide)
    have hr15 : Room 15 _ := hr
    refine ⟨_, PSs.nox (pss_cons (ps_asg (pe_tup (pa_cons pe_int (pa_cons pe_bl pa_nil))) (pg_tup rfl (pgs_cons (pg_name (i := 1) scGd7.nd rfl (Or.inl rfl)) (pgs_cons (pg_name (i := 2) scGd7.nd rfl (Or.inl rfl)) pgs_nil)))) (pss_cons (ps_if (pt_val (pe_callB (r := rIsi K) call_isi (by rfl) T.isi PyProof.Rows.boot_isinstance (pa_cons (pv 0) (pa_cons (pe_bltn (v := .ty "tuple") rfl G.mt PyProof.Rows.boot_tuple rfl) pa_nil)))) (pss_one (ps_asg (pe_def DWr hr12 rfl (pa_cons (pv 0) (pa_cons pe_int (pa_cons pe_int pa_nil)))) (pg_lst rfl (pgs_cons (pg_name (i := 1) scGd7.nd rfl (Or.inl rfl)) (pgs_cons (pg_name (i := 2) scGd7.nd rfl (Or.inl rfl)) pgs_nil))))) pss_nil) (pss_cons (L2N.ps_try_as (i := 4) (tb := fun W => tAsg (tPV K C CP NP mg (WE W) (tCons (tVar 0) tNil)) (gName 3)) (Wout := fun _ _ _ _ => False) rfl rfl scGd7.nd rfl rfl ⟨rfl, by decide, Or.inl R.tg.mgN⟩ takesN7 (fun W pn xe tk _ => (pss_one (ps_set (i := 3) scGd7.nd rfl (Or.inl rfl) (by exact (pe_PV MPV hr15 rfl (fun σ => L2N.passAt tk σ) (by exact (pa_cons (pv 0) pa_nil))))))) (fun a oe cls d pn hz hf => (pss_cons (ps_set (i := 5) scGd7.nd rfl (Or.inl rfl) (pe_callB (call_isXt R.xc (zc_of7 hz) hf) (by rfl) T.isi PyProof.Rows.boot_isinstance (pa_cons (pv 4) (pa_cons (pe_tup (pa_cons (pe_glob (v := .ref n1) rfl m1 rfl) (pa_cons (pe_glob (v := .ref n2) rfl m2 rfl) (pa_cons (pe_glob (v := .ref n3) rfl m3 rfl) (pa_cons (pe_glob (v := .ref n4) rfl m4 rfl) (pa_cons (pe_glob (v := .ref n5) rfl m5 rfl) (pa_cons (pe_glob (v := .ref n6) rfl m6 rfl) pa_nil))))))) pa_nil)))) (pss_one (ps_ret (pe_and (pv 2) (pe_and (pe_cmpR op_eq (pe_xf R.xf R.tg.bd (zc_of7 hz) hf (pv 4)) (pv 1) (nomark _)) (pe_and (pe_not (pe_callB (r := rIsi K) call_isi (by rfl) T.isi PyProof.Rows.boot_isinstance (pa_cons (pe_xf R.xf R.tg.bd (zc_of7 hz) hf (pv 4)) (pa_cons (pe_bltn (v := .ty "bool") rfl G.mb PyProof.Rows.boot_bool rfl) pa_nil)))) (pe_and (pe_callB (call_isX R.xc (zc_of7 hz) hf) (by rfl) T.isi PyProof.Rows.boot_isinstance (pa_cons (pv 4) (pa_cons (pe_bltn (v := .ty "ValueError") rfl R.tg.mVE2 PyProof.Rows.Boot.«ValueError» rfl) pa_nil))) (pe_one (pe_not (pv 5)))))))))))) (pss_one (ps_ret (pe_and (pe_not (pv 2)) (pe_one (pe_cmpR op_eq (pe_callB (call_lenP SPL hr2) (by rfl) B.len PySem.boot_len (pa_cons (pv 3) pa_nil)) (pv 1) (nomark _))))))))), ?_⟩
    have hsl := line4
    dsimp only [gName]
    refine seq7 (a := tAsg _ _) (fun σ' H' => σ' = [some v, some (.int 0), some (.bl true), none, none, none] ∧ Same H H') (fun D' hD _ => ?_) ?_
    · refine ⟨by show 2 ≤ sizeLine; decide, fun E1 nE1 => ?_⟩
      have s1 := Same.new nE1 (o := .tup [V.int 0, .bl true])
      have e1 : (upd H E1 (.tup [V.int 0, .bl true])) E1 = some (.tup [V.int 0, .bl true]) := upd_same
      revert s1 e1
      generalize upd H E1 (.tup [V.int 0, .bl true]) = H1
      intro s1 e1
      refine ⟨E1, _, rfl, SqT.of e1, rfl, _, _, rfl, _, _, rfl, rfl, ?_⟩
      exact hD _ _ ⟨rfl, s1⟩
    rintro σ1 H1 ⟨rfl, s1⟩
    have hx1 := PvAt.kp (Kp.same s1) _ _ hx
    refine seq7 (a := tIfS _ _ _) (fun σ' H' => σ' = [some v, some (.int (((dueP x).2 : Nat) : Int)), some (.bl (dueP x).1), none, none, none] ∧ Same H1 H') (fun D' hD _ => ?_) ?_
    · refine ⟨_, rfl, _, _, _, _, _, rfl, Ck.cls C CP .tup, tyPv T TP hx1, PK.kit _ .tup, _, rfl, ?_⟩
      cases hits : x.its with
      | none =>
        refine iteF7 (by rw [its_is, hits]; rfl) ?_
        have e : dueP x = (true, 0) := by unfold dueP; rw [hits]
        exact hD _ _ ⟨by rw [e]; rfl, Same.refl _⟩
      | some xs =>
        obtain ⟨q, us, rfl, hq, hus⟩ := hx1.its hits
        have e : dueP x = wrP 8 xs 0 := by unfold dueP; rw [hits]
        refine iteT7 (by rw [its_is, hits]; rfl) ?_
        refine ⟨_, rfl, F0, q, us, xs, 8, 0, rfl, hq, hus, by decide, by decide, fun p H2 s2 hp => ?_⟩
        refine ⟨p, _, rfl, SqL.of hp, rfl, _, _, rfl, _, _, rfl, rfl, ?_⟩
        exact hD _ _ ⟨by rw [e]; rfl, s2⟩
    rintro σ2 H2 ⟨rfl, s2⟩
    have hx2 := PvAt.kp (Kp.same s2) _ _ hx1
    refine ⟨_, rfl, v, x, F0, rfl, hx2, hok, fun hn d H3 s3 hd => ?_, fun xs q hi hv => ⟨fun r hro hee z H3 s3 nz hz => ?_, fun m hem d H3 s3 hd => ?_⟩⟩
    · have hdu : dueP x = (true, 0) := by unfold dueP; rw [hn]
      rw [hdu]
      refine ⟨true, R.ex, fun _ a0 _ => ?_, fun q => Bool.noConfusion q⟩
      refine ⟨_, rfl, by show 6 ≤ sizeLine; decide, fun tp ntp => ?_⟩
      have st : Same H3 (upd H3 tp (.tup [.ref n1, .ref n2, .ref n3, .ref n4, .ref n5, .ref n6])) := Same.new ntp
      have hd' := st _ _ hd
      refine ⟨tp, _, _, false, d, _, rfl, upd_same, .cons (.own _) (.cons (.own _) (.cons (.own _) (.cons (.own _) (.cons (.own _) (.cons (.own _) .nil))))), rfl, rfl, hd', kA, ?_⟩
      revert st hd'
      generalize upd H3 tp (.tup [.ref n1, .ref n2, .ref n3, .ref n4, .ref n5, .ref n6]) = H4
      intro st hd'
      refine ⟨_, rfl, true, rfl, iteT ?_⟩
      refine ⟨_, rfl, rfl, rfl, d, _, .int ((0 : Nat) : Int), rfl, hd', rfl, _, rfl, rfl, true, congrArg V.bl (decide_eq_true rfl), iteT ?_⟩
      refine ⟨_, rfl, rfl, rfl, d, _, .int ((0 : Nat) : Int), rfl, hd', rfl, _, _, _, _, false, rfl, .ty "bool", .base (.int _), kib, false, rfl, _, rfl, iteT ?_⟩
      refine ⟨_, rfl, _, _, true, d, _, rfl, .ty "ValueError", rfl, rfl, hd', R.ve, _, rfl, iteT ?_⟩
      exact ⟨_, rfl, _, rfl, k H4 (((s1.trans s2).trans s3).trans st)⟩
    · have hdu : dueP x = (false, manyR r) := by unfold dueP; rw [hi]; exact hee
      rw [hdu]
      refine ⟨_, rfl, false, rfl, true, rfl, iteT ?_⟩
      refine ⟨_, rfl, z, r, rfl, hz, _, rfl, rfl, ?_⟩
      rw [decide_eq_true rfl]
      exact k H3 ((s1.trans s2).trans s3)
    · have hdu : dueP x = (true, m) := by unfold dueP; rw [hi]; exact hem
      rw [hdu]
      refine ⟨true, R.ex, fun _ a0 _ => ?_, fun q => Bool.noConfusion q⟩
      refine ⟨_, rfl, by show 6 ≤ sizeLine; decide, fun tp ntp => ?_⟩
      have st : Same H3 (upd H3 tp (.tup [.ref n1, .ref n2, .ref n3, .ref n4, .ref n5, .ref n6])) := Same.new ntp
      have hd' := st _ _ hd
      refine ⟨tp, _, _, false, d, _, rfl, upd_same, .cons (.own _) (.cons (.own _) (.cons (.own _) (.cons (.own _) (.cons (.own _) (.cons (.own _) .nil))))), rfl, rfl, hd', kA, ?_⟩
      revert st hd'
      generalize upd H3 tp (.tup [.ref n1, .ref n2, .ref n3, .ref n4, .ref n5, .ref n6]) = H4
      intro st hd'
      refine ⟨_, rfl, true, rfl, iteT ?_⟩
      refine ⟨_, rfl, rfl, rfl, d, _, .int ((m : Nat) : Int), rfl, hd', rfl, _, rfl, rfl, true, congrArg V.bl (decide_eq_true rfl), iteT ?_⟩
      refine ⟨_, rfl, rfl, rfl, d, _, .int ((m : Nat) : Int), rfl, hd', rfl, _, _, _, _, false, rfl, .ty "bool", .base (.int _), kib, false, rfl, _, rfl, iteT ?_⟩
      refine ⟨_, rfl, _, _, true, d, _, rfl, .ty "ValueError", rfl, rfl, hd', R.ve, _, rfl, iteT ?_⟩
      exact ⟨_, rfl, _, rfl, k H4 (((s1.trans s2).trans s3).trans st)⟩
end
end Js
set_option Elab.async false
set_option linter.all false
set_option maxRecDepth 100000
set_option maxHeartbeats 2000000
namespace Js
open PySem L2
open PySem.Spec PyProof.Rows
section
variable {X : Cx} {e : Expr} {te : TE} {k : Nat} {p1 p2 p3 pos : Pos}
def rCatS (K : PySem.W.Frag) : R2 := fun x y H Q => ∃ a b xs ys, x = .ref a ∧ y = .ref b ∧ SqT K H a xs ∧ SqT K H b ys ∧ xs.length + ys.length ≤ 100000 ∧ ∀ q H', Same H H' → SqT K H' q (xs ++ ys) → Q (.ref q) H'
theorem op_catS : OpR X (binaryOp .Add) (rCatS X.K) :=
  OpR.imp op_catA fun x y H Q h => by
    obtain ⟨a, b, xs, ys, rfl, rfl, h1, h2, hl, k⟩ := h
    have hsl := line4
    refine ⟨a, b, xs, ys, rfl, rfl, h1, h2, by omega, fun e0 => ?_, fun _ e1 => ?_, fun _ _ U nU => ?_⟩
    · subst e0
      exact k b H (Same.refl H) h2
    · subst e1
      exact k a H (Same.refl H) (by rw [List.append_nil]; exact h1)
    · exact k U _ (Same.new nU) (SqT.of upd_same)
def rTkS (K : PySem.W.Frag) : V → Option Int → Option Int → Hp → VK → Prop := fun x lo hi H Q => ∃ a xs, ∃ n : Nat, x = .ref a ∧ lo = none ∧ hi = some (n : Int) ∧ SqT K H a xs ∧ ∀ q H', Same H H' → SqT K H' q (xs.take n) → Q (.ref q) H'
theorem sl_tkS : SlR X (rTkS X.K) := by
  intro pins s σ H x v vl vu lo hi sl Q I rx hs pl pu h
  obtain ⟨a, xs, n, rfl, rfl, rfl, h1, k⟩ := h
  have eh : HT.sIx xs.length xs.length (some (n : Int)) = min n xs.length := HT.sIx_nat _ _ _
  refine sl_tupA pins s σ H _ v vl vu _ _ sl Q I rx hs pl pu ⟨a, xs, rfl, h1, fun hw => ?_, fun _ p np => ?_⟩
  · rw [eh] at hw
    refine k a H (Same.refl H) ?_
    rw [List.take_of_length_le (by omega)]
    exact h1
  · refine k p _ (Same.new np) ?_
    have ec : cutV xs none (some (n : Int)) = xs.take n := by
      unfold cutV
      rw [eh, HT.sIx_none, Nat.sub_zero, List.drop_zero, List.take_eq_take_iff]
      omega
    rw [← ec]
    exact SqT.of upd_same
def rDrS (K : PySem.W.Frag) : V → Option Int → Option Int → Hp → VK → Prop := fun x lo hi H Q => ∃ a xs, ∃ n : Nat, x = .ref a ∧ lo = some (n : Int) ∧ hi = none ∧ SqT K H a xs ∧ ∀ q H', Same H H' → SqT K H' q (xs.drop n) → Q (.ref q) H'
theorem sl_drS : SlR X (rDrS X.K) := by
  intro pins s σ H x v vl vu lo hi sl Q I rx hs pl pu h
  obtain ⟨a, xs, n, rfl, rfl, rfl, h1, k⟩ := h
  have eh : HT.sIx xs.length 0 (some (n : Int)) = min n xs.length := HT.sIx_nat _ _ _
  refine sl_tupA pins s σ H _ v vl vu _ _ sl Q I rx hs pl pu ⟨a, xs, rfl, h1, fun hw => ?_, fun _ p np => ?_⟩
  · rw [eh] at hw
    refine k a H (Same.refl H) ?_
    by_cases hn : n = 0
    · rw [hn, List.drop_zero]
      exact h1
    · have hx : xs.length = 0 := by omega
      have : xs = [] := List.length_eq_zero_iff.mp hx
      rw [this] at h1 ⊢
      rw [List.drop_nil]
      exact h1
  · refine k p _ (Same.new np) ?_
    have ec : cutV xs (some (n : Int)) none = xs.drop n := by
      unfold cutV
      rw [eh, HT.sIx_none]
      by_cases hn : n ≤ xs.length
      · rw [Nat.min_eq_left hn, List.take_of_length_le (by rw [List.length_drop]; exact Nat.le_refl _)]
      · rw [Nat.min_eq_right (by omega), List.drop_length, List.drop_of_length_le (by omega), List.take_nil]
    rw [← ec]
    exact SqT.of upd_same
def rLtS (K : PySem.W.Frag) : V → Option Int → Option Int → Hp → VK → Prop := fun x lo hi H Q => ∃ a xs, x = .ref a ∧ lo = none ∧ hi = some (-1) ∧ SqT K H a xs ∧ ∀ q H', Same H H' → SqT K H' q (xs.take (xs.length - 1)) → Q (.ref q) H'
theorem sl_ltS : SlR X (rLtS X.K) := by
  intro pins s σ H x v vl vu lo hi sl Q I rx hs pl pu h
  obtain ⟨a, xs, rfl, rfl, rfl, h1, k⟩ := h
  have eh : HT.sIx xs.length xs.length (some (-1 : Int)) = xs.length - 1 := by
    show ((-1 : Int) + (xs.length : Int)).toNat = _
    omega
  refine sl_tupA pins s σ H _ v vl vu _ _ sl Q I rx hs pl pu ⟨a, xs, rfl, h1, fun hw => ?_, fun _ p np => ?_⟩
  · rw [eh] at hw
    refine k a H (Same.refl H) ?_
    rw [List.take_of_length_le (by omega)]
    exact h1
  · refine k p _ (Same.new np) ?_
    have ec : cutV xs none (some (-1 : Int)) = xs.take (xs.length - 1) := by
      unfold cutV
      rw [eh, HT.sIx_none, Nat.sub_zero, List.drop_zero]
    rw [← ec]
    exact SqT.of upd_same
end
end Js
set_option Elab.async false
set_option linter.all false
set_option maxRecDepth 100000
set_option maxHeartbeats 2000000
namespace Js
open PySem L2
open PySem PySem.Spec PyProof.Rows L2
abbrev sOd7 : Stmt := top 44
def oddS : List Str := ["again", "a", "TOLD", "FIRST", "SECOND", "PAIR", "SAME", "WHILE", "IF", "", "a = ."]
theorem bag_upd7 {H : Hp} {p L : Addr} {o : HO} (b : BagOk H p) (n : L ≠ p) : BagOk (upd H L o) p := by
  obtain ⟨x0, x1', pr, x3', hx, rest⟩ := b.ex
  exact ⟨⟨x0, x1', pr, x3', by rw [upd_ne (Ne.symm n)]; exact hx, rest⟩⟩
theorem pv_tup {K : PySem.W.Frag} {C CP : Addr} {F : List Addr} {H : Hp} {xs : List Pv} {A : Addr} (h : PvAt K C CP F H (.tup xs) (.ref A)) : ∃ ws, SqT K H A ws ∧ PvsAt K C CP F H xs ws := by
  rw [PvAt] at h
  obtain ⟨a, vs, e, h1, h2⟩ := h
  cases e
  exact ⟨vs, h1, h2⟩
section
variable {W : Str → Prop}
theorem okP_non : OkP W .non := by simp only [OkP]
theorem okP_bl {b : Bool} : OkP W (.bl b) := by simp only [OkP]
theorem okP_th {t : Tr} : OkP W (.th t) := by simp only [OkP]
theorem okP_pg {t : List Dd} : OkP W (.pg t) := by simp only [OkP]
theorem okP_lst {t : List Pv} : OkP W (.lst t) := by simp only [OkP]
theorem okP_tup {t : List Pv} (h : OksP W t) : OkP W (.tup t) := by rw [OkP]; exact h
theorem okP_untup {t : List Pv} (h : OkP W (.tup t)) : OksP W t := by rw [OkP] at h; exact h
theorem oksP_nil : OksP W [] := by rw [OksP]; trivial
theorem oksP_cons {x : Pv} {t : List Pv} (h : OkP W x) (h2 : OksP W t) : OksP W (x :: t) := by rw [OksP]; exact ⟨h, h2⟩
theorem oksP_app {s t : List Pv} (h : OksP W s) (h2 : OksP W t) : OksP W (s ++ t) := OksP_of fun x hx => (List.mem_append.mp hx).elim (OksP_mem h) (OksP_mem h2)
theorem oksP_dr {s : List Pv} {n : Nat} (h : OksP W s) : OksP W (s.drop n) := OksP_of fun x hx => OksP_mem h (List.mem_of_mem_drop hx)
theorem oksP_tk {s : List Pv} {n : Nat} (h : OksP W s) : OksP W (s.take n) := OksP_of fun x hx => OksP_mem h (List.mem_of_mem_take hx)
theorem okP_cat {s t : List Pv} (h : OkP W (.tup s)) (h2 : OkP W (.tup t)) : OkP W (.tup (s ++ t)) := okP_tup (oksP_app (okP_untup h) (okP_untup h2))
end
theorem up_odd {z : Str} {k : Nat} (h : kix z = some k) : Txt.upper z ∈ oddS ∧ z.length ≤ 5592405 := by
  obtain ⟨h7, hz⟩ := kix_some h
  match k, h7, hz with
  | 0, _, hz => cases Option.some.inj hz; exact ⟨by decide +kernel, by decide +kernel⟩
  | 1, _, hz => cases Option.some.inj hz; exact ⟨by decide +kernel, by decide +kernel⟩
  | 2, _, hz => cases Option.some.inj hz; exact ⟨by decide +kernel, by decide +kernel⟩
  | 3, _, hz => cases Option.some.inj hz; exact ⟨by decide +kernel, by decide +kernel⟩
  | 4, _, hz => cases Option.some.inj hz; exact ⟨by decide +kernel, by decide +kernel⟩
  | 5, _, hz => cases Option.some.inj hz; exact ⟨by decide +kernel, by decide +kernel⟩
  | 6, _, hz => cases Option.some.inj hz; exact ⟨by decide +kernel, by decide +kernel⟩
def spOdd7 (K : PySem.W.Frag) (C CP : Addr) (mg : Str → Option Value) : Sp := fun vs H Q _ => ∃ (p T0 : Addr) (us1 : List V) (ps : List Pv) (z : Str) (k : Nat), vs = [.ref p, .ref T0] ∧ BagOk H p ∧ SqT K H T0 (V.str z :: us1) ∧ PvsAt K C CP [p] H ps (V.str z :: us1) ∧ kix z = some k ∧ ps.length ≤ 4 ∧ OksP (WfP K mg) ps ∧ ∀ y u H', KB p H H' → BagOk H' p → PvAt K C CP [p] H' y u → OkP (WfP K mg) y → Q u H'
section
variable {P : Program} {w : World} {K : PySem.W.Frag} {mg : Str → Option Value} {base : Heap} {C CP fTh : Addr} {fdTh : FuncData}
theorem scOd7 : FnScope ["_law_bag_here", "_law_it", "_law_some"] ["_law_bag_here", "_law_it"] (defScope sOd7) := ⟨rfl, rfl, rfl, by decide +kernel, rfl, by decide +kernel, by decide +kernel⟩
theorem ok_odd7 {f : Addr} {fd : FuncData} (F : Fun K "_law_odd" "_law_odd" sOd7 f fd) (B : Blt mg) (ml : mg "list" = none) (mk : Maker P w K mg base C fTh fdTh) (hW : ∀ s ∈ oddS, WfP K mg s) (DTk : Def P w K mg base "_law_take" 1 ["_law_bag_here", "_law_many_here"] spTake) : FnOk P w K mg base CX0 4 f fd ["_law_bag_here", "_law_it"] (spOdd7 K C CP mg) := by
  refine F.ok scOd7 (fun vs H Q E h => ?_) (fun cdv A outer s H vs Q E hr h => ?_)
  · obtain ⟨p, T0, us1, ps, z, k, rfl, _⟩ := h
    rfl
  · obtain ⟨p, T0, us1, ps, z, kk, rfl, hbag, hq, hps, hk, hpl, hok, k⟩ := h
    have hr1 : Room 1 _ := hr.mono (by decide)
    have hr3 : Room 3 _ := hr.mono (by decide)
    refine ⟨_, pss_cons (ps_set (i := 2) scOd7.nd rfl (Or.inl rfl) (pe_lst (pa_cons pe_non (pa_cons pe_int (pa_cons pe_str (pa_cons (pe_tup pa_nil) (pa_cons (pe_tup (pa_cons pe_non pa_nil)) (pa_cons (pe_callTy call_list_of (by rfl) ml PyProof.Rows.boot_list (pa_cons (pv 1) pa_nil)) (pa_cons (pe_slice (r := rLtS K) sl_ltS (pv 1) po_none (po_some (pe_un un_neg pe_int))) (pa_cons (pe_op (r := rCatS K) op_catS (pv 1) (pe_tup (pa_cons pe_int pa_nil))) (pa_cons (pe_tup (pa_cons (pv 1) pa_nil)) (pa_cons (pe_slice (r := rDrS K) sl_drS (pv 1) (po_some pe_int) po_none) (pa_cons (pe_tup (pa_cons (pe_ix (r := rIxT K) ix_tup (pv 1) pe_int (fun _ _ => rfl)) pa_nil)) (pa_cons pe_bl pa_nil)))))))))))))) (pss_cons (ps_set (i := 2) scOd7.nd rfl (Or.inl rfl) (pe_op op_cat (pv 2) (pe_lst (pa_cons (pe_op (r := rCatS K) op_catS (pe_tup (pa_cons pe_str pa_nil)) (pe_slice (r := rDrS K) sl_drS (pv 1) (po_some pe_int) po_none)) (pa_cons (pe_op (r := rCatS K) op_catS (pe_tup (pa_cons (pe_upper (pe_ix (r := rIxT K) ix_tup (pv 1) pe_int (fun _ _ => rfl))) pa_nil)) (pe_slice (r := rDrS K) sl_drS (pv 1) (po_some pe_int) po_none)) (pa_cons (pe_op (r := rCatS K) op_catS (pe_tup (pa_cons (pe_lst (pa_cons (pe_ix (r := rIxT K) ix_tup (pv 1) pe_int (fun _ _ => rfl)) pa_nil)) pa_nil)) (pe_slice (r := rDrS K) sl_drS (pv 1) (po_some pe_int) po_none)) (pa_cons (pe_op (r := rCatS K) op_catS (pe_tup (pa_cons (pe_ix (r := rIxT K) ix_tup (pv 1) pe_int (fun _ _ => rfl)) (pa_cons pe_int pa_nil))) (pe_slice (r := rDrS K) sl_drS (pv 1) (po_some pe_int) po_none)) pa_nil))))))) (pss_cons (ps_set (i := 2) scOd7.nd rfl (Or.inl rfl) (pe_op op_cat (pv 2) (pe_lst (pa_cons (pe_op (r := rCatS K) op_catS (pe_tup (pa_cons (pe_ix (r := rIxT K) ix_tup (pv 1) pe_int (fun _ _ => rfl)) (pa_cons (pe_un un_neg pe_int) pa_nil))) (pe_slice (r := rDrS K) sl_drS (pv 1) (po_some pe_int) po_none)) (pa_cons (pe_op (r := rCatS K) op_catS (pe_tup (pa_cons (pe_ix (r := rIxT K) ix_tup (pv 1) pe_int (fun _ _ => rfl)) (pa_cons pe_bl pa_nil))) (pe_slice (r := rDrS K) sl_drS (pv 1) (po_some pe_int) po_none)) (pa_cons (pe_op (r := rCatS K) op_catS (pe_tup (pa_cons (pe_ix (r := rIxT K) ix_tup (pv 1) pe_int (fun _ _ => rfl)) (pa_cons pe_str pa_nil))) (pe_slice (r := rDrS K) sl_drS (pv 1) (po_some pe_int) po_none)) (pa_cons (pe_op (r := rCatS K) op_catS (pe_slice (r := rLtS K) sl_ltS (pv 1) po_none (po_some (pe_un un_neg pe_int))) (pe_tup (pa_cons pe_non pa_nil))) pa_nil))))))) (pss_cons (ps_set (i := 2) scOd7.nd rfl (Or.inl rfl) (pe_op op_cat (pv 2) (pe_lst (pa_cons (pe_op (r := rCatS K) op_catS (pe_slice (r := rLtS K) sl_ltS (pv 1) po_none (po_some (pe_un un_neg pe_int))) (pe_tup (pa_cons (pe_lst pa_nil) pa_nil))) (pa_cons (pe_op (r := rCatS K) op_catS (pe_slice (r := rLtS K) sl_ltS (pv 1) po_none (po_some (pe_un un_neg pe_int))) (pe_tup (pa_cons (pe_T0 mk hr3 rfl) pa_nil))) (pa_cons (pe_op (r := rCatS K) op_catS (pe_slice (r := rLtS K) sl_ltS (pv 1) po_none (po_some (pe_un un_neg pe_int))) (pe_tup (pa_cons (pe_tup pa_nil) pa_nil))) (pa_cons (pe_op (r := rCatS K) op_catS (pe_slice (r := rLtS K) sl_ltS (pv 1) po_none (po_some (pe_un un_neg pe_int))) (pe_tup (pa_cons pe_bl pa_nil))) (pa_cons (pe_tup (pa_cons pe_str (pa_cons pe_int (pa_cons (pe_tup pa_nil) pa_nil)))) pa_nil)))))))) (pss_cons (ps_set (i := 2) scOd7.nd rfl (Or.inl rfl) (pe_op op_cat (pv 2) (pe_lst (pa_cons (pe_tup (pa_cons pe_str (pa_cons pe_int (pa_cons (pe_lst (pa_cons (pe_tup (pa_cons pe_str (pa_cons pe_int (pa_cons pe_int pa_nil)))) pa_nil)) pa_nil)))) (pa_cons (pe_tup (pa_cons pe_str (pa_cons pe_int (pa_cons (pe_tup pa_nil) (pa_cons pe_non pa_nil))))) (pa_cons (pe_tup (pa_cons pe_str (pa_cons pe_int (pa_cons (pe_tup (pa_cons (pe_tup (pa_cons pe_str (pa_cons pe_int pa_nil))) pa_nil)) pa_nil)))) pa_nil)))))) (pss_cons (ps_expr (pe_bm PySem.F.plainAttrs_list PySem.F.slot_list_append PySem.F.type_list_append mt_append (pv 2) (pa_cons (pe_tup (pa_cons pe_str (pa_cons pe_int (pa_cons (pe_tup (pa_cons pe_int pa_nil)) pa_nil)))) pa_nil))) (pss_one (ps_ret (pe_ix (r := rIxL K) ix_list (pv 2) (pe_def DTk hr1 rfl (pa_cons (pv 0) (pa_cons pe_int pa_nil))) (fun _ _ => rfl))))))))), ?_⟩
    have hsl := line4
    have kb := KB.refl p H
    have hex : Ex [p] H := fun f hf => by
      rw [List.mem_singleton.mp hf]
      obtain ⟨xs, hx⟩ := hbag.some
      exact ⟨_, hx⟩
    obtain ⟨us, hus⟩ : ∃ us, V.str z :: us1 = us := ⟨_, rfl⟩
    have hit : PvAt K C CP [p] H (.tup ps) (.ref T0) := by
      rw [PvAt]
      exact ⟨T0, _, rfl, hq, hps⟩
    have okW : ∀ s : Str, s ∈ oddS → OkP (WfP K mg) (.str s) := fun s hs => by
      rw [OkP]
      exact fun _ => hW s hs
    have okU := okW _ (up_odd hk).1
    have hzl := (up_odd hk).2
    refine ⟨Nat.zero_le _, fun T1 nT1 => ?_⟩
    have s1 := Same.new nT1 (o := .tup [])
    have e1 : (upd H T1 (.tup [])) T1 = some (.tup []) := upd_same
    revert s1 e1
    generalize upd H T1 (.tup []) = G1
    intro s1 e1
    replace kb := kb.trans (KB.of s1)
    replace hbag := hbag.same s1
    replace hex := hex.same s1
    replace hq := sqt_kt (KT.of s1) hq
    replace hps := PvsAt.kp (Kp.same s1) _ _ hps
    replace hit := PvAt.kp (Kp.same s1) _ _ hit
    have fT1 : PvAt K C CP [p] G1 (.tup []) (.ref T1) := by
      rw [PvAt]
      exact ⟨T1, _, rfl, SqT.of e1, .nil⟩
    refine ⟨by show 1 ≤ sizeLine; decide, fun T2 nT2 => ?_⟩
    have s2 := Same.new nT2 (o := .tup [V.non])
    have e2 : (upd G1 T2 (.tup [V.non])) T2 = some (.tup [V.non]) := upd_same
    revert s2 e2
    generalize upd G1 T2 (.tup [V.non]) = G2
    intro s2 e2
    replace kb := kb.trans (KB.of s2)
    replace hbag := hbag.same s2
    replace hex := hex.same s2
    replace hq := sqt_kt (KT.of s2) hq
    replace hps := PvsAt.kp (Kp.same s2) _ _ hps
    replace hit := PvAt.kp (Kp.same s2) _ _ hit
    replace fT1 := PvAt.kp (Kp.same s2) _ _ fT1
    have fT2 : PvAt K C CP [p] G2 (.tup [.non]) (.ref T2) := by
      rw [PvAt]
      exact ⟨T2, _, rfl, SqT.of e2, (.cons (by rw [PvAt]) .nil)⟩
    refine ⟨_, rfl, T0, _, rfl, .inr hq, fun T3 nT3 => ?_⟩
    have s3 := Same.new nT3 (o := .lst (V.str z :: us1))
    have e3 : (upd G2 T3 (.lst (V.str z :: us1))) T3 = some (.lst (V.str z :: us1)) := upd_same
    have xT3 : T3 ∉ [p] := Ex.out hex nT3
    revert s3 e3
    generalize upd G2 T3 (.lst (V.str z :: us1)) = G3
    intro s3 e3
    replace kb := kb.trans (KB.of s3)
    replace hbag := hbag.same s3
    replace hex := hex.same s3
    replace hq := sqt_kt (KT.of s3) hq
    replace hps := PvsAt.kp (Kp.same s3) _ _ hps
    replace hit := PvAt.kp (Kp.same s3) _ _ hit
    replace fT1 := PvAt.kp (Kp.same s3) _ _ fT1
    replace fT2 := PvAt.kp (Kp.same s3) _ _ fT2
    have fT3 : PvAt K C CP [p] G3 (.lst ps) (.ref T3) := by
      rw [PvAt]
      exact ⟨T3, _, rfl, xT3, e3, hps⟩
    refine ⟨_, rfl, _, rfl, _, rfl, T0, _, rfl, rfl, rfl, hq, fun T4 G4 s4 hT4 => ?_⟩
    rw [hps.len] at hT4
    have fT4 : PvAt K C CP [p] G4 (.tup (ps.take (ps.length - 1))) (.ref T4) := by
      rw [PvAt]
      exact ⟨T4, _, rfl, hT4, PvsAt.kp (Kp.same s4) _ _ (hps.tk _)⟩
    replace kb := kb.trans (KB.of s4)
    replace hbag := hbag.same s4
    replace hex := hex.same s4
    replace hq := sqt_kt (KT.of s4) hq
    replace hps := PvsAt.kp (Kp.same s4) _ _ hps
    replace hit := PvAt.kp (Kp.same s4) _ _ hit
    replace fT1 := PvAt.kp (Kp.same s4) _ _ fT1
    replace fT2 := PvAt.kp (Kp.same s4) _ _ fT2
    replace fT3 := PvAt.kp (Kp.same s4) _ _ fT3
    refine ⟨_, rfl, by show 1 ≤ sizeLine; decide, fun T5 nT5 => ?_⟩
    have s5 := Same.new nT5 (o := .tup [V.int (0)])
    have e5 : (upd G4 T5 (.tup [V.int (0)])) T5 = some (.tup [V.int (0)]) := upd_same
    revert s5 e5
    generalize upd G4 T5 (.tup [V.int (0)]) = G5
    intro s5 e5
    replace kb := kb.trans (KB.of s5)
    replace hbag := hbag.same s5
    replace hex := hex.same s5
    replace hq := sqt_kt (KT.of s5) hq
    replace hps := PvsAt.kp (Kp.same s5) _ _ hps
    replace hit := PvAt.kp (Kp.same s5) _ _ hit
    replace fT1 := PvAt.kp (Kp.same s5) _ _ fT1
    replace fT2 := PvAt.kp (Kp.same s5) _ _ fT2
    replace fT3 := PvAt.kp (Kp.same s5) _ _ fT3
    replace fT4 := PvAt.kp (Kp.same s5) _ _ fT4
    have fT5 : PvAt K C CP [p] G5 (.tup [.int (0)]) (.ref T5) := by
      rw [PvAt]
      exact ⟨T5, _, rfl, SqT.of e5, (.cons (by rw [PvAt]) .nil)⟩
    obtain ⟨wa6, ha6, pa6⟩ := pv_tup hit
    obtain ⟨wb6, hb6, pb6⟩ := pv_tup fT5
    refine ⟨T0, T5, wa6, wb6, rfl, rfl, ha6, hb6, by rw [pa6.len, pb6.len]; simp only [List.length_drop, List.length_take, List.length_cons, List.length_nil]; omega, fun T6 G6 s6 hT6 => ?_⟩
    have fT6 : PvAt K C CP [p] G6 (.tup (ps ++ [.int (0)])) (.ref T6) := by
      rw [PvAt]
      exact ⟨T6, _, rfl, hT6, PvsAt.app (PvsAt.kp (Kp.same s6) _ _ pa6) (PvsAt.kp (Kp.same s6) _ _ pb6)⟩
    replace kb := kb.trans (KB.of s6)
    replace hbag := hbag.same s6
    replace hex := hex.same s6
    replace hq := sqt_kt (KT.of s6) hq
    replace hps := PvsAt.kp (Kp.same s6) _ _ hps
    replace hit := PvAt.kp (Kp.same s6) _ _ hit
    replace fT1 := PvAt.kp (Kp.same s6) _ _ fT1
    replace fT2 := PvAt.kp (Kp.same s6) _ _ fT2
    replace fT3 := PvAt.kp (Kp.same s6) _ _ fT3
    replace fT4 := PvAt.kp (Kp.same s6) _ _ fT4
    refine ⟨_, rfl, by show 1 ≤ sizeLine; decide, fun T7 nT7 => ?_⟩
    have s7 := Same.new nT7 (o := .tup [V.ref T0])
    have e7 : (upd G6 T7 (.tup [V.ref T0])) T7 = some (.tup [V.ref T0]) := upd_same
    revert s7 e7
    generalize upd G6 T7 (.tup [V.ref T0]) = G7
    intro s7 e7
    replace kb := kb.trans (KB.of s7)
    replace hbag := hbag.same s7
    replace hex := hex.same s7
    replace hq := sqt_kt (KT.of s7) hq
    replace hps := PvsAt.kp (Kp.same s7) _ _ hps
    replace hit := PvAt.kp (Kp.same s7) _ _ hit
    replace fT1 := PvAt.kp (Kp.same s7) _ _ fT1
    replace fT2 := PvAt.kp (Kp.same s7) _ _ fT2
    replace fT3 := PvAt.kp (Kp.same s7) _ _ fT3
    replace fT4 := PvAt.kp (Kp.same s7) _ _ fT4
    replace fT6 := PvAt.kp (Kp.same s7) _ _ fT6
    have fT7 : PvAt K C CP [p] G7 (.tup [.tup ps]) (.ref T7) := by
      rw [PvAt]
      exact ⟨T7, _, rfl, SqT.of e7, (.cons hit .nil)⟩
    refine ⟨_, rfl, _, rfl, T0, _, 1, rfl, rfl, rfl, hq, fun T8 G8 s8 hT8 => ?_⟩
    have fT8 : PvAt K C CP [p] G8 (.tup (ps.drop 1)) (.ref T8) := by
      rw [PvAt]
      exact ⟨T8, _, rfl, hT8, PvsAt.kp (Kp.same s8) _ _ (hps.dr _)⟩
    replace kb := kb.trans (KB.of s8)
    replace hbag := hbag.same s8
    replace hex := hex.same s8
    replace hq := sqt_kt (KT.of s8) hq
    replace hps := PvsAt.kp (Kp.same s8) _ _ hps
    replace hit := PvAt.kp (Kp.same s8) _ _ hit
    replace fT1 := PvAt.kp (Kp.same s8) _ _ fT1
    replace fT2 := PvAt.kp (Kp.same s8) _ _ fT2
    replace fT3 := PvAt.kp (Kp.same s8) _ _ fT3
    replace fT4 := PvAt.kp (Kp.same s8) _ _ fT4
    replace fT6 := PvAt.kp (Kp.same s8) _ _ fT6
    replace fT7 := PvAt.kp (Kp.same s8) _ _ fT7
    refine ⟨_, rfl, T0, _, 0, _, rfl, rfl, hq, at0 _ _, by show 1 ≤ sizeLine; decide, fun T9 nT9 => ?_⟩
    have s9 := Same.new nT9 (o := .tup [V.str z])
    have e9 : (upd G8 T9 (.tup [V.str z])) T9 = some (.tup [V.str z]) := upd_same
    revert s9 e9
    generalize upd G8 T9 (.tup [V.str z]) = G9
    intro s9 e9
    replace kb := kb.trans (KB.of s9)
    replace hbag := hbag.same s9
    replace hex := hex.same s9
    replace hq := sqt_kt (KT.of s9) hq
    replace hps := PvsAt.kp (Kp.same s9) _ _ hps
    replace hit := PvAt.kp (Kp.same s9) _ _ hit
    replace fT1 := PvAt.kp (Kp.same s9) _ _ fT1
    replace fT2 := PvAt.kp (Kp.same s9) _ _ fT2
    replace fT3 := PvAt.kp (Kp.same s9) _ _ fT3
    replace fT4 := PvAt.kp (Kp.same s9) _ _ fT4
    replace fT6 := PvAt.kp (Kp.same s9) _ _ fT6
    replace fT7 := PvAt.kp (Kp.same s9) _ _ fT7
    replace fT8 := PvAt.kp (Kp.same s9) _ _ fT8
    have fT9 : PvAt K C CP [p] G9 (.tup [.str z]) (.ref T9) := by
      rw [PvAt]
      exact ⟨T9, _, rfl, SqT.of e9, (.cons (pvS _) .nil)⟩
    refine ⟨by show 12 ≤ sizeLine; decide, fun T10 nT10 => ?_⟩
    have s10 := Same.new nT10 (o := .lst [V.non, V.int (5), V.str "first", V.ref T1, V.ref T2, V.ref T3, V.ref T4, V.ref T6, V.ref T7, V.ref T8, V.ref T9, V.bl true])
    have e10 : (upd G9 T10 (.lst [V.non, V.int (5), V.str "first", V.ref T1, V.ref T2, V.ref T3, V.ref T4, V.ref T6, V.ref T7, V.ref T8, V.ref T9, V.bl true])) T10 = some (.lst [V.non, V.int (5), V.str "first", V.ref T1, V.ref T2, V.ref T3, V.ref T4, V.ref T6, V.ref T7, V.ref T8, V.ref T9, V.bl true]) := upd_same
    have xT10 : T10 ∉ [p] := Ex.out hex nT10
    revert s10 e10
    generalize upd G9 T10 (.lst [V.non, V.int (5), V.str "first", V.ref T1, V.ref T2, V.ref T3, V.ref T4, V.ref T6, V.ref T7, V.ref T8, V.ref T9, V.bl true]) = G10
    intro s10 e10
    replace kb := kb.trans (KB.of s10)
    replace hbag := hbag.same s10
    replace hex := hex.same s10
    replace hq := sqt_kt (KT.of s10) hq
    replace hps := PvsAt.kp (Kp.same s10) _ _ hps
    replace hit := PvAt.kp (Kp.same s10) _ _ hit
    replace fT1 := PvAt.kp (Kp.same s10) _ _ fT1
    replace fT2 := PvAt.kp (Kp.same s10) _ _ fT2
    replace fT3 := PvAt.kp (Kp.same s10) _ _ fT3
    replace fT4 := PvAt.kp (Kp.same s10) _ _ fT4
    replace fT6 := PvAt.kp (Kp.same s10) _ _ fT6
    replace fT7 := PvAt.kp (Kp.same s10) _ _ fT7
    replace fT8 := PvAt.kp (Kp.same s10) _ _ fT8
    replace fT9 := PvAt.kp (Kp.same s10) _ _ fT9
    have gT10 : PvsAt K C CP [p] G10 ([.non, .int (5), .str "first", .tup [], .tup [.non], .lst ps, .tup (ps.take (ps.length - 1)), .tup (ps ++ [.int (0)]), .tup [.tup ps], .tup (ps.drop 1), .tup [.str z], .bl true]) ([V.non, V.int (5), V.str "first", V.ref T1, V.ref T2, V.ref T3, V.ref T4, V.ref T6, V.ref T7, V.ref T8, V.ref T9, V.bl true]) := (.cons (by rw [PvAt]) (.cons (by rw [PvAt]) (.cons (by rw [PvAt]) (.cons fT1 (.cons fT2 (.cons fT3 (.cons fT4 (.cons fT6 (.cons fT7 (.cons fT8 (.cons fT9 (.cons (by rw [PvAt]) .nil))))))))))))
    refine ⟨_, rfl, by show 1 ≤ sizeLine; decide, fun T11 nT11 => ?_⟩
    have s11 := Same.new nT11 (o := .tup [V.str "again"])
    have e11 : (upd G10 T11 (.tup [V.str "again"])) T11 = some (.tup [V.str "again"]) := upd_same
    revert s11 e11
    generalize upd G10 T11 (.tup [V.str "again"]) = G11
    intro s11 e11
    replace kb := kb.trans (KB.of s11)
    replace hbag := hbag.same s11
    replace hex := hex.same s11
    replace hq := sqt_kt (KT.of s11) hq
    replace hps := PvsAt.kp (Kp.same s11) _ _ hps
    replace hit := PvAt.kp (Kp.same s11) _ _ hit
    replace gT10 := PvsAt.kp (Kp.same s11) _ _ gT10
    replace e10 := s11 _ _ e10
    have fT11 : PvAt K C CP [p] G11 (.tup [.str "again"]) (.ref T11) := by
      rw [PvAt]
      exact ⟨T11, _, rfl, SqT.of e11, (.cons (by rw [PvAt]) .nil)⟩
    refine ⟨_, rfl, _, rfl, T0, _, 1, rfl, rfl, rfl, hq, fun T12 G12 s12 hT12 => ?_⟩
    have fT12 : PvAt K C CP [p] G12 (.tup (ps.drop 1)) (.ref T12) := by
      rw [PvAt]
      exact ⟨T12, _, rfl, hT12, PvsAt.kp (Kp.same s12) _ _ (hps.dr _)⟩
    replace kb := kb.trans (KB.of s12)
    replace hbag := hbag.same s12
    replace hex := hex.same s12
    replace hq := sqt_kt (KT.of s12) hq
    replace hps := PvsAt.kp (Kp.same s12) _ _ hps
    replace hit := PvAt.kp (Kp.same s12) _ _ hit
    replace gT10 := PvsAt.kp (Kp.same s12) _ _ gT10
    replace e10 := s12 _ _ e10
    replace fT11 := PvAt.kp (Kp.same s12) _ _ fT11
    obtain ⟨wa13, ha13, pa13⟩ := pv_tup fT11
    obtain ⟨wb13, hb13, pb13⟩ := pv_tup fT12
    refine ⟨T11, T12, wa13, wb13, rfl, rfl, ha13, hb13, by rw [pa13.len, pb13.len]; simp only [List.length_drop, List.length_take, List.length_cons, List.length_nil]; omega, fun T13 G13 s13 hT13 => ?_⟩
    have fT13 : PvAt K C CP [p] G13 (.tup ([.str "again"] ++ (ps.drop 1))) (.ref T13) := by
      rw [PvAt]
      exact ⟨T13, _, rfl, hT13, PvsAt.app (PvsAt.kp (Kp.same s13) _ _ pa13) (PvsAt.kp (Kp.same s13) _ _ pb13)⟩
    replace kb := kb.trans (KB.of s13)
    replace hbag := hbag.same s13
    replace hex := hex.same s13
    replace hq := sqt_kt (KT.of s13) hq
    replace hps := PvsAt.kp (Kp.same s13) _ _ hps
    replace hit := PvAt.kp (Kp.same s13) _ _ hit
    replace gT10 := PvsAt.kp (Kp.same s13) _ _ gT10
    replace e10 := s13 _ _ e10
    refine ⟨_, rfl, T0, _, 0, _, rfl, rfl, hq, at0 _ _, ⟨_, rfl⟩, _, rfl, rfl, hzl, by show 1 ≤ sizeLine; decide, fun T14 nT14 => ?_⟩
    have s14 := Same.new nT14 (o := .tup [V.str (Txt.upper z)])
    have e14 : (upd G13 T14 (.tup [V.str (Txt.upper z)])) T14 = some (.tup [V.str (Txt.upper z)]) := upd_same
    revert s14 e14
    generalize upd G13 T14 (.tup [V.str (Txt.upper z)]) = G14
    intro s14 e14
    replace kb := kb.trans (KB.of s14)
    replace hbag := hbag.same s14
    replace hex := hex.same s14
    replace hq := sqt_kt (KT.of s14) hq
    replace hps := PvsAt.kp (Kp.same s14) _ _ hps
    replace hit := PvAt.kp (Kp.same s14) _ _ hit
    replace gT10 := PvsAt.kp (Kp.same s14) _ _ gT10
    replace e10 := s14 _ _ e10
    replace fT13 := PvAt.kp (Kp.same s14) _ _ fT13
    have fT14 : PvAt K C CP [p] G14 (.tup [.str (Txt.upper z)]) (.ref T14) := by
      rw [PvAt]
      exact ⟨T14, _, rfl, SqT.of e14, (.cons (pvS _) .nil)⟩
    refine ⟨_, rfl, _, rfl, T0, _, 1, rfl, rfl, rfl, hq, fun T15 G15 s15 hT15 => ?_⟩
    have fT15 : PvAt K C CP [p] G15 (.tup (ps.drop 1)) (.ref T15) := by
      rw [PvAt]
      exact ⟨T15, _, rfl, hT15, PvsAt.kp (Kp.same s15) _ _ (hps.dr _)⟩
    replace kb := kb.trans (KB.of s15)
    replace hbag := hbag.same s15
    replace hex := hex.same s15
    replace hq := sqt_kt (KT.of s15) hq
    replace hps := PvsAt.kp (Kp.same s15) _ _ hps
    replace hit := PvAt.kp (Kp.same s15) _ _ hit
    replace gT10 := PvsAt.kp (Kp.same s15) _ _ gT10
    replace e10 := s15 _ _ e10
    replace fT13 := PvAt.kp (Kp.same s15) _ _ fT13
    replace fT14 := PvAt.kp (Kp.same s15) _ _ fT14
    obtain ⟨wa16, ha16, pa16⟩ := pv_tup fT14
    obtain ⟨wb16, hb16, pb16⟩ := pv_tup fT15
    refine ⟨T14, T15, wa16, wb16, rfl, rfl, ha16, hb16, by rw [pa16.len, pb16.len]; simp only [List.length_drop, List.length_take, List.length_cons, List.length_nil]; omega, fun T16 G16 s16 hT16 => ?_⟩
    have fT16 : PvAt K C CP [p] G16 (.tup ([.str (Txt.upper z)] ++ (ps.drop 1))) (.ref T16) := by
      rw [PvAt]
      exact ⟨T16, _, rfl, hT16, PvsAt.app (PvsAt.kp (Kp.same s16) _ _ pa16) (PvsAt.kp (Kp.same s16) _ _ pb16)⟩
    replace kb := kb.trans (KB.of s16)
    replace hbag := hbag.same s16
    replace hex := hex.same s16
    replace hq := sqt_kt (KT.of s16) hq
    replace hps := PvsAt.kp (Kp.same s16) _ _ hps
    replace hit := PvAt.kp (Kp.same s16) _ _ hit
    replace gT10 := PvsAt.kp (Kp.same s16) _ _ gT10
    replace e10 := s16 _ _ e10
    replace fT13 := PvAt.kp (Kp.same s16) _ _ fT13
    refine ⟨_, rfl, T0, _, 0, _, rfl, rfl, hq, at0 _ _, by show 1 ≤ sizeLine; decide, fun T17 nT17 => ?_⟩
    have s17 := Same.new nT17 (o := .lst [V.str z])
    have e17 : (upd G16 T17 (.lst [V.str z])) T17 = some (.lst [V.str z]) := upd_same
    have xT17 : T17 ∉ [p] := Ex.out hex nT17
    revert s17 e17
    generalize upd G16 T17 (.lst [V.str z]) = G17
    intro s17 e17
    replace kb := kb.trans (KB.of s17)
    replace hbag := hbag.same s17
    replace hex := hex.same s17
    replace hq := sqt_kt (KT.of s17) hq
    replace hps := PvsAt.kp (Kp.same s17) _ _ hps
    replace hit := PvAt.kp (Kp.same s17) _ _ hit
    replace gT10 := PvsAt.kp (Kp.same s17) _ _ gT10
    replace e10 := s17 _ _ e10
    replace fT13 := PvAt.kp (Kp.same s17) _ _ fT13
    replace fT16 := PvAt.kp (Kp.same s17) _ _ fT16
    have fT17 : PvAt K C CP [p] G17 (.lst [.str z]) (.ref T17) := by
      rw [PvAt]
      exact ⟨T17, _, rfl, xT17, e17, (.cons (pvS _) .nil)⟩
    refine ⟨by show 1 ≤ sizeLine; decide, fun T18 nT18 => ?_⟩
    have s18 := Same.new nT18 (o := .tup [V.ref T17])
    have e18 : (upd G17 T18 (.tup [V.ref T17])) T18 = some (.tup [V.ref T17]) := upd_same
    revert s18 e18
    generalize upd G17 T18 (.tup [V.ref T17]) = G18
    intro s18 e18
    replace kb := kb.trans (KB.of s18)
    replace hbag := hbag.same s18
    replace hex := hex.same s18
    replace hq := sqt_kt (KT.of s18) hq
    replace hps := PvsAt.kp (Kp.same s18) _ _ hps
    replace hit := PvAt.kp (Kp.same s18) _ _ hit
    replace gT10 := PvsAt.kp (Kp.same s18) _ _ gT10
    replace e10 := s18 _ _ e10
    replace fT13 := PvAt.kp (Kp.same s18) _ _ fT13
    replace fT16 := PvAt.kp (Kp.same s18) _ _ fT16
    replace fT17 := PvAt.kp (Kp.same s18) _ _ fT17
    have fT18 : PvAt K C CP [p] G18 (.tup [.lst [.str z]]) (.ref T18) := by
      rw [PvAt]
      exact ⟨T18, _, rfl, SqT.of e18, (.cons fT17 .nil)⟩
    refine ⟨_, rfl, _, rfl, T0, _, 1, rfl, rfl, rfl, hq, fun T19 G19 s19 hT19 => ?_⟩
    have fT19 : PvAt K C CP [p] G19 (.tup (ps.drop 1)) (.ref T19) := by
      rw [PvAt]
      exact ⟨T19, _, rfl, hT19, PvsAt.kp (Kp.same s19) _ _ (hps.dr _)⟩
    replace kb := kb.trans (KB.of s19)
    replace hbag := hbag.same s19
    replace hex := hex.same s19
    replace hq := sqt_kt (KT.of s19) hq
    replace hps := PvsAt.kp (Kp.same s19) _ _ hps
    replace hit := PvAt.kp (Kp.same s19) _ _ hit
    replace gT10 := PvsAt.kp (Kp.same s19) _ _ gT10
    replace e10 := s19 _ _ e10
    replace fT13 := PvAt.kp (Kp.same s19) _ _ fT13
    replace fT16 := PvAt.kp (Kp.same s19) _ _ fT16
    replace fT18 := PvAt.kp (Kp.same s19) _ _ fT18
    obtain ⟨wa20, ha20, pa20⟩ := pv_tup fT18
    obtain ⟨wb20, hb20, pb20⟩ := pv_tup fT19
    refine ⟨T18, T19, wa20, wb20, rfl, rfl, ha20, hb20, by rw [pa20.len, pb20.len]; simp only [List.length_drop, List.length_take, List.length_cons, List.length_nil]; omega, fun T20 G20 s20 hT20 => ?_⟩
    have fT20 : PvAt K C CP [p] G20 (.tup ([.lst [.str z]] ++ (ps.drop 1))) (.ref T20) := by
      rw [PvAt]
      exact ⟨T20, _, rfl, hT20, PvsAt.app (PvsAt.kp (Kp.same s20) _ _ pa20) (PvsAt.kp (Kp.same s20) _ _ pb20)⟩
    replace kb := kb.trans (KB.of s20)
    replace hbag := hbag.same s20
    replace hex := hex.same s20
    replace hq := sqt_kt (KT.of s20) hq
    replace hps := PvsAt.kp (Kp.same s20) _ _ hps
    replace hit := PvAt.kp (Kp.same s20) _ _ hit
    replace gT10 := PvsAt.kp (Kp.same s20) _ _ gT10
    replace e10 := s20 _ _ e10
    replace fT13 := PvAt.kp (Kp.same s20) _ _ fT13
    replace fT16 := PvAt.kp (Kp.same s20) _ _ fT16
    refine ⟨_, rfl, T0, _, 0, _, rfl, rfl, hq, at0 _ _, by show 2 ≤ sizeLine; decide, fun T21 nT21 => ?_⟩
    have s21 := Same.new nT21 (o := .tup [V.str z, V.int (10)])
    have e21 : (upd G20 T21 (.tup [V.str z, V.int (10)])) T21 = some (.tup [V.str z, V.int (10)]) := upd_same
    revert s21 e21
    generalize upd G20 T21 (.tup [V.str z, V.int (10)]) = G21
    intro s21 e21
    replace kb := kb.trans (KB.of s21)
    replace hbag := hbag.same s21
    replace hex := hex.same s21
    replace hq := sqt_kt (KT.of s21) hq
    replace hps := PvsAt.kp (Kp.same s21) _ _ hps
    replace hit := PvAt.kp (Kp.same s21) _ _ hit
    replace gT10 := PvsAt.kp (Kp.same s21) _ _ gT10
    replace e10 := s21 _ _ e10
    replace fT13 := PvAt.kp (Kp.same s21) _ _ fT13
    replace fT16 := PvAt.kp (Kp.same s21) _ _ fT16
    replace fT20 := PvAt.kp (Kp.same s21) _ _ fT20
    have fT21 : PvAt K C CP [p] G21 (.tup [.str z, .int (10)]) (.ref T21) := by
      rw [PvAt]
      exact ⟨T21, _, rfl, SqT.of e21, (.cons (pvS _) (.cons (by rw [PvAt]) .nil))⟩
    refine ⟨_, rfl, _, rfl, T0, _, 2, rfl, rfl, rfl, hq, fun T22 G22 s22 hT22 => ?_⟩
    have fT22 : PvAt K C CP [p] G22 (.tup (ps.drop 2)) (.ref T22) := by
      rw [PvAt]
      exact ⟨T22, _, rfl, hT22, PvsAt.kp (Kp.same s22) _ _ (hps.dr _)⟩
    replace kb := kb.trans (KB.of s22)
    replace hbag := hbag.same s22
    replace hex := hex.same s22
    replace hq := sqt_kt (KT.of s22) hq
    replace hps := PvsAt.kp (Kp.same s22) _ _ hps
    replace hit := PvAt.kp (Kp.same s22) _ _ hit
    replace gT10 := PvsAt.kp (Kp.same s22) _ _ gT10
    replace e10 := s22 _ _ e10
    replace fT13 := PvAt.kp (Kp.same s22) _ _ fT13
    replace fT16 := PvAt.kp (Kp.same s22) _ _ fT16
    replace fT20 := PvAt.kp (Kp.same s22) _ _ fT20
    replace fT21 := PvAt.kp (Kp.same s22) _ _ fT21
    obtain ⟨wa23, ha23, pa23⟩ := pv_tup fT21
    obtain ⟨wb23, hb23, pb23⟩ := pv_tup fT22
    refine ⟨T21, T22, wa23, wb23, rfl, rfl, ha23, hb23, by rw [pa23.len, pb23.len]; simp only [List.length_drop, List.length_take, List.length_cons, List.length_nil]; omega, fun T23 G23 s23 hT23 => ?_⟩
    have fT23 : PvAt K C CP [p] G23 (.tup ([.str z, .int (10)] ++ (ps.drop 2))) (.ref T23) := by
      rw [PvAt]
      exact ⟨T23, _, rfl, hT23, PvsAt.app (PvsAt.kp (Kp.same s23) _ _ pa23) (PvsAt.kp (Kp.same s23) _ _ pb23)⟩
    replace kb := kb.trans (KB.of s23)
    replace hbag := hbag.same s23
    replace hex := hex.same s23
    replace hq := sqt_kt (KT.of s23) hq
    replace hps := PvsAt.kp (Kp.same s23) _ _ hps
    replace hit := PvAt.kp (Kp.same s23) _ _ hit
    replace gT10 := PvsAt.kp (Kp.same s23) _ _ gT10
    replace e10 := s23 _ _ e10
    replace fT13 := PvAt.kp (Kp.same s23) _ _ fT13
    replace fT16 := PvAt.kp (Kp.same s23) _ _ fT16
    replace fT20 := PvAt.kp (Kp.same s23) _ _ fT20
    refine ⟨by show 4 ≤ sizeLine; decide, fun T24 nT24 => ?_⟩
    have s24 := Same.new nT24 (o := .lst [V.ref T13, V.ref T16, V.ref T20, V.ref T23])
    have e24 : (upd G23 T24 (.lst [V.ref T13, V.ref T16, V.ref T20, V.ref T23])) T24 = some (.lst [V.ref T13, V.ref T16, V.ref T20, V.ref T23]) := upd_same
    have xT24 : T24 ∉ [p] := Ex.out hex nT24
    revert s24 e24
    generalize upd G23 T24 (.lst [V.ref T13, V.ref T16, V.ref T20, V.ref T23]) = G24
    intro s24 e24
    replace kb := kb.trans (KB.of s24)
    replace hbag := hbag.same s24
    replace hex := hex.same s24
    replace hq := sqt_kt (KT.of s24) hq
    replace hps := PvsAt.kp (Kp.same s24) _ _ hps
    replace hit := PvAt.kp (Kp.same s24) _ _ hit
    replace gT10 := PvsAt.kp (Kp.same s24) _ _ gT10
    replace e10 := s24 _ _ e10
    replace fT13 := PvAt.kp (Kp.same s24) _ _ fT13
    replace fT16 := PvAt.kp (Kp.same s24) _ _ fT16
    replace fT20 := PvAt.kp (Kp.same s24) _ _ fT20
    replace fT23 := PvAt.kp (Kp.same s24) _ _ fT23
    have gT24 : PvsAt K C CP [p] G24 ([.tup ([.str "again"] ++ (ps.drop 1)), .tup ([.str (Txt.upper z)] ++ (ps.drop 1)), .tup ([.lst [.str z]] ++ (ps.drop 1)), .tup ([.str z, .int (10)] ++ (ps.drop 2))]) ([V.ref T13, V.ref T16, V.ref T20, V.ref T23]) := (.cons fT13 (.cons fT16 (.cons fT20 (.cons fT23 .nil))))
    refine ⟨T10, T24, _, _, rfl, rfl, e10, e24, by have := line4; simp only [List.length_append, List.length_cons, List.length_nil]; omega, fun T25 nT25 => ?_⟩
    have s25 := Same.new nT25 (o := .lst ([V.non, V.int (5), V.str "first", V.ref T1, V.ref T2, V.ref T3, V.ref T4, V.ref T6, V.ref T7, V.ref T8, V.ref T9, V.bl true] ++ [V.ref T13, V.ref T16, V.ref T20, V.ref T23]))
    have e25 : (upd G24 T25 (.lst ([V.non, V.int (5), V.str "first", V.ref T1, V.ref T2, V.ref T3, V.ref T4, V.ref T6, V.ref T7, V.ref T8, V.ref T9, V.bl true] ++ [V.ref T13, V.ref T16, V.ref T20, V.ref T23]))) T25 = some (.lst ([V.non, V.int (5), V.str "first", V.ref T1, V.ref T2, V.ref T3, V.ref T4, V.ref T6, V.ref T7, V.ref T8, V.ref T9, V.bl true] ++ [V.ref T13, V.ref T16, V.ref T20, V.ref T23])) := upd_same
    have xT25 : T25 ∉ [p] := Ex.out hex nT25
    have gT25 : PvsAt K C CP [p] G24 ([.non, .int (5), .str "first", .tup [], .tup [.non], .lst ps, .tup (ps.take (ps.length - 1)), .tup (ps ++ [.int (0)]), .tup [.tup ps], .tup (ps.drop 1), .tup [.str z], .bl true] ++ [.tup ([.str "again"] ++ (ps.drop 1)), .tup ([.str (Txt.upper z)] ++ (ps.drop 1)), .tup ([.lst [.str z]] ++ (ps.drop 1)), .tup ([.str z, .int (10)] ++ (ps.drop 2))]) ([V.non, V.int (5), V.str "first", V.ref T1, V.ref T2, V.ref T3, V.ref T4, V.ref T6, V.ref T7, V.ref T8, V.ref T9, V.bl true] ++ [V.ref T13, V.ref T16, V.ref T20, V.ref T23]) := PvsAt.app gT10 gT24
    revert s25 e25
    generalize upd G24 T25 (.lst ([V.non, V.int (5), V.str "first", V.ref T1, V.ref T2, V.ref T3, V.ref T4, V.ref T6, V.ref T7, V.ref T8, V.ref T9, V.bl true] ++ [V.ref T13, V.ref T16, V.ref T20, V.ref T23])) = G25
    intro s25 e25
    replace kb := kb.trans (KB.of s25)
    replace hbag := hbag.same s25
    replace hex := hex.same s25
    replace hq := sqt_kt (KT.of s25) hq
    replace hps := PvsAt.kp (Kp.same s25) _ _ hps
    replace hit := PvAt.kp (Kp.same s25) _ _ hit
    replace gT25 := PvsAt.kp (Kp.same s25) _ _ gT25
    refine ⟨_, rfl, _, rfl, T0, _, 0, _, rfl, rfl, hq, at0 _ _, _, rfl, by show 2 ≤ sizeLine; decide, fun T26 nT26 => ?_⟩
    have s26 := Same.new nT26 (o := .tup [V.str z, V.int (-1)])
    have e26 : (upd G25 T26 (.tup [V.str z, V.int (-1)])) T26 = some (.tup [V.str z, V.int (-1)]) := upd_same
    revert s26 e26
    generalize upd G25 T26 (.tup [V.str z, V.int (-1)]) = G26
    intro s26 e26
    replace kb := kb.trans (KB.of s26)
    replace hbag := hbag.same s26
    replace hex := hex.same s26
    replace hq := sqt_kt (KT.of s26) hq
    replace hps := PvsAt.kp (Kp.same s26) _ _ hps
    replace hit := PvAt.kp (Kp.same s26) _ _ hit
    replace gT25 := PvsAt.kp (Kp.same s26) _ _ gT25
    replace e25 := s26 _ _ e25
    have fT26 : PvAt K C CP [p] G26 (.tup [.str z, .int (-1)]) (.ref T26) := by
      rw [PvAt]
      exact ⟨T26, _, rfl, SqT.of e26, (.cons (pvS _) (.cons (pvI _) .nil))⟩
    refine ⟨_, rfl, _, rfl, T0, _, 2, rfl, rfl, rfl, hq, fun T27 G27 s27 hT27 => ?_⟩
    have fT27 : PvAt K C CP [p] G27 (.tup (ps.drop 2)) (.ref T27) := by
      rw [PvAt]
      exact ⟨T27, _, rfl, hT27, PvsAt.kp (Kp.same s27) _ _ (hps.dr _)⟩
    replace kb := kb.trans (KB.of s27)
    replace hbag := hbag.same s27
    replace hex := hex.same s27
    replace hq := sqt_kt (KT.of s27) hq
    replace hps := PvsAt.kp (Kp.same s27) _ _ hps
    replace hit := PvAt.kp (Kp.same s27) _ _ hit
    replace gT25 := PvsAt.kp (Kp.same s27) _ _ gT25
    replace e25 := s27 _ _ e25
    replace fT26 := PvAt.kp (Kp.same s27) _ _ fT26
    obtain ⟨wa28, ha28, pa28⟩ := pv_tup fT26
    obtain ⟨wb28, hb28, pb28⟩ := pv_tup fT27
    refine ⟨T26, T27, wa28, wb28, rfl, rfl, ha28, hb28, by rw [pa28.len, pb28.len]; simp only [List.length_drop, List.length_take, List.length_cons, List.length_nil]; omega, fun T28 G28 s28 hT28 => ?_⟩
    have fT28 : PvAt K C CP [p] G28 (.tup ([.str z, .int (-1)] ++ (ps.drop 2))) (.ref T28) := by
      rw [PvAt]
      exact ⟨T28, _, rfl, hT28, PvsAt.app (PvsAt.kp (Kp.same s28) _ _ pa28) (PvsAt.kp (Kp.same s28) _ _ pb28)⟩
    replace kb := kb.trans (KB.of s28)
    replace hbag := hbag.same s28
    replace hex := hex.same s28
    replace hq := sqt_kt (KT.of s28) hq
    replace hps := PvsAt.kp (Kp.same s28) _ _ hps
    replace hit := PvAt.kp (Kp.same s28) _ _ hit
    replace gT25 := PvsAt.kp (Kp.same s28) _ _ gT25
    replace e25 := s28 _ _ e25
    refine ⟨_, rfl, T0, _, 0, _, rfl, rfl, hq, at0 _ _, by show 2 ≤ sizeLine; decide, fun T29 nT29 => ?_⟩
    have s29 := Same.new nT29 (o := .tup [V.str z, V.bl true])
    have e29 : (upd G28 T29 (.tup [V.str z, V.bl true])) T29 = some (.tup [V.str z, V.bl true]) := upd_same
    revert s29 e29
    generalize upd G28 T29 (.tup [V.str z, V.bl true]) = G29
    intro s29 e29
    replace kb := kb.trans (KB.of s29)
    replace hbag := hbag.same s29
    replace hex := hex.same s29
    replace hq := sqt_kt (KT.of s29) hq
    replace hps := PvsAt.kp (Kp.same s29) _ _ hps
    replace hit := PvAt.kp (Kp.same s29) _ _ hit
    replace gT25 := PvsAt.kp (Kp.same s29) _ _ gT25
    replace e25 := s29 _ _ e25
    replace fT28 := PvAt.kp (Kp.same s29) _ _ fT28
    have fT29 : PvAt K C CP [p] G29 (.tup [.str z, .bl true]) (.ref T29) := by
      rw [PvAt]
      exact ⟨T29, _, rfl, SqT.of e29, (.cons (pvS _) (.cons (by rw [PvAt]) .nil))⟩
    refine ⟨_, rfl, _, rfl, T0, _, 2, rfl, rfl, rfl, hq, fun T30 G30 s30 hT30 => ?_⟩
    have fT30 : PvAt K C CP [p] G30 (.tup (ps.drop 2)) (.ref T30) := by
      rw [PvAt]
      exact ⟨T30, _, rfl, hT30, PvsAt.kp (Kp.same s30) _ _ (hps.dr _)⟩
    replace kb := kb.trans (KB.of s30)
    replace hbag := hbag.same s30
    replace hex := hex.same s30
    replace hq := sqt_kt (KT.of s30) hq
    replace hps := PvsAt.kp (Kp.same s30) _ _ hps
    replace hit := PvAt.kp (Kp.same s30) _ _ hit
    replace gT25 := PvsAt.kp (Kp.same s30) _ _ gT25
    replace e25 := s30 _ _ e25
    replace fT28 := PvAt.kp (Kp.same s30) _ _ fT28
    replace fT29 := PvAt.kp (Kp.same s30) _ _ fT29
    obtain ⟨wa31, ha31, pa31⟩ := pv_tup fT29
    obtain ⟨wb31, hb31, pb31⟩ := pv_tup fT30
    refine ⟨T29, T30, wa31, wb31, rfl, rfl, ha31, hb31, by rw [pa31.len, pb31.len]; simp only [List.length_drop, List.length_take, List.length_cons, List.length_nil]; omega, fun T31 G31 s31 hT31 => ?_⟩
    have fT31 : PvAt K C CP [p] G31 (.tup ([.str z, .bl true] ++ (ps.drop 2))) (.ref T31) := by
      rw [PvAt]
      exact ⟨T31, _, rfl, hT31, PvsAt.app (PvsAt.kp (Kp.same s31) _ _ pa31) (PvsAt.kp (Kp.same s31) _ _ pb31)⟩
    replace kb := kb.trans (KB.of s31)
    replace hbag := hbag.same s31
    replace hex := hex.same s31
    replace hq := sqt_kt (KT.of s31) hq
    replace hps := PvsAt.kp (Kp.same s31) _ _ hps
    replace hit := PvAt.kp (Kp.same s31) _ _ hit
    replace gT25 := PvsAt.kp (Kp.same s31) _ _ gT25
    replace e25 := s31 _ _ e25
    replace fT28 := PvAt.kp (Kp.same s31) _ _ fT28
    refine ⟨_, rfl, T0, _, 0, _, rfl, rfl, hq, at0 _ _, by show 2 ≤ sizeLine; decide, fun T32 nT32 => ?_⟩
    have s32 := Same.new nT32 (o := .tup [V.str z, V.str "a"])
    have e32 : (upd G31 T32 (.tup [V.str z, V.str "a"])) T32 = some (.tup [V.str z, V.str "a"]) := upd_same
    revert s32 e32
    generalize upd G31 T32 (.tup [V.str z, V.str "a"]) = G32
    intro s32 e32
    replace kb := kb.trans (KB.of s32)
    replace hbag := hbag.same s32
    replace hex := hex.same s32
    replace hq := sqt_kt (KT.of s32) hq
    replace hps := PvsAt.kp (Kp.same s32) _ _ hps
    replace hit := PvAt.kp (Kp.same s32) _ _ hit
    replace gT25 := PvsAt.kp (Kp.same s32) _ _ gT25
    replace e25 := s32 _ _ e25
    replace fT28 := PvAt.kp (Kp.same s32) _ _ fT28
    replace fT31 := PvAt.kp (Kp.same s32) _ _ fT31
    have fT32 : PvAt K C CP [p] G32 (.tup [.str z, .str "a"]) (.ref T32) := by
      rw [PvAt]
      exact ⟨T32, _, rfl, SqT.of e32, (.cons (pvS _) (.cons (by rw [PvAt]) .nil))⟩
    refine ⟨_, rfl, _, rfl, T0, _, 2, rfl, rfl, rfl, hq, fun T33 G33 s33 hT33 => ?_⟩
    have fT33 : PvAt K C CP [p] G33 (.tup (ps.drop 2)) (.ref T33) := by
      rw [PvAt]
      exact ⟨T33, _, rfl, hT33, PvsAt.kp (Kp.same s33) _ _ (hps.dr _)⟩
    replace kb := kb.trans (KB.of s33)
    replace hbag := hbag.same s33
    replace hex := hex.same s33
    replace hq := sqt_kt (KT.of s33) hq
    replace hps := PvsAt.kp (Kp.same s33) _ _ hps
    replace hit := PvAt.kp (Kp.same s33) _ _ hit
    replace gT25 := PvsAt.kp (Kp.same s33) _ _ gT25
    replace e25 := s33 _ _ e25
    replace fT28 := PvAt.kp (Kp.same s33) _ _ fT28
    replace fT31 := PvAt.kp (Kp.same s33) _ _ fT31
    replace fT32 := PvAt.kp (Kp.same s33) _ _ fT32
    obtain ⟨wa34, ha34, pa34⟩ := pv_tup fT32
    obtain ⟨wb34, hb34, pb34⟩ := pv_tup fT33
    refine ⟨T32, T33, wa34, wb34, rfl, rfl, ha34, hb34, by rw [pa34.len, pb34.len]; simp only [List.length_drop, List.length_take, List.length_cons, List.length_nil]; omega, fun T34 G34 s34 hT34 => ?_⟩
    have fT34 : PvAt K C CP [p] G34 (.tup ([.str z, .str "a"] ++ (ps.drop 2))) (.ref T34) := by
      rw [PvAt]
      exact ⟨T34, _, rfl, hT34, PvsAt.app (PvsAt.kp (Kp.same s34) _ _ pa34) (PvsAt.kp (Kp.same s34) _ _ pb34)⟩
    replace kb := kb.trans (KB.of s34)
    replace hbag := hbag.same s34
    replace hex := hex.same s34
    replace hq := sqt_kt (KT.of s34) hq
    replace hps := PvsAt.kp (Kp.same s34) _ _ hps
    replace hit := PvAt.kp (Kp.same s34) _ _ hit
    replace gT25 := PvsAt.kp (Kp.same s34) _ _ gT25
    replace e25 := s34 _ _ e25
    replace fT28 := PvAt.kp (Kp.same s34) _ _ fT28
    replace fT31 := PvAt.kp (Kp.same s34) _ _ fT31
    refine ⟨_, rfl, _, rfl, _, rfl, T0, _, rfl, rfl, rfl, hq, fun T35 G35 s35 hT35 => ?_⟩
    rw [hps.len] at hT35
    have fT35 : PvAt K C CP [p] G35 (.tup (ps.take (ps.length - 1))) (.ref T35) := by
      rw [PvAt]
      exact ⟨T35, _, rfl, hT35, PvsAt.kp (Kp.same s35) _ _ (hps.tk _)⟩
    replace kb := kb.trans (KB.of s35)
    replace hbag := hbag.same s35
    replace hex := hex.same s35
    replace hq := sqt_kt (KT.of s35) hq
    replace hps := PvsAt.kp (Kp.same s35) _ _ hps
    replace hit := PvAt.kp (Kp.same s35) _ _ hit
    replace gT25 := PvsAt.kp (Kp.same s35) _ _ gT25
    replace e25 := s35 _ _ e25
    replace fT28 := PvAt.kp (Kp.same s35) _ _ fT28
    replace fT31 := PvAt.kp (Kp.same s35) _ _ fT31
    replace fT34 := PvAt.kp (Kp.same s35) _ _ fT34
    refine ⟨by show 1 ≤ sizeLine; decide, fun T36 nT36 => ?_⟩
    have s36 := Same.new nT36 (o := .tup [V.non])
    have e36 : (upd G35 T36 (.tup [V.non])) T36 = some (.tup [V.non]) := upd_same
    revert s36 e36
    generalize upd G35 T36 (.tup [V.non]) = G36
    intro s36 e36
    replace kb := kb.trans (KB.of s36)
    replace hbag := hbag.same s36
    replace hex := hex.same s36
    replace hq := sqt_kt (KT.of s36) hq
    replace hps := PvsAt.kp (Kp.same s36) _ _ hps
    replace hit := PvAt.kp (Kp.same s36) _ _ hit
    replace gT25 := PvsAt.kp (Kp.same s36) _ _ gT25
    replace e25 := s36 _ _ e25
    replace fT28 := PvAt.kp (Kp.same s36) _ _ fT28
    replace fT31 := PvAt.kp (Kp.same s36) _ _ fT31
    replace fT34 := PvAt.kp (Kp.same s36) _ _ fT34
    replace fT35 := PvAt.kp (Kp.same s36) _ _ fT35
    have fT36 : PvAt K C CP [p] G36 (.tup [.non]) (.ref T36) := by
      rw [PvAt]
      exact ⟨T36, _, rfl, SqT.of e36, (.cons (by rw [PvAt]) .nil)⟩
    obtain ⟨wa37, ha37, pa37⟩ := pv_tup fT35
    obtain ⟨wb37, hb37, pb37⟩ := pv_tup fT36
    refine ⟨T35, T36, wa37, wb37, rfl, rfl, ha37, hb37, by rw [pa37.len, pb37.len]; simp only [List.length_drop, List.length_take, List.length_cons, List.length_nil]; omega, fun T37 G37 s37 hT37 => ?_⟩
    have fT37 : PvAt K C CP [p] G37 (.tup ((ps.take (ps.length - 1)) ++ [.non])) (.ref T37) := by
      rw [PvAt]
      exact ⟨T37, _, rfl, hT37, PvsAt.app (PvsAt.kp (Kp.same s37) _ _ pa37) (PvsAt.kp (Kp.same s37) _ _ pb37)⟩
    replace kb := kb.trans (KB.of s37)
    replace hbag := hbag.same s37
    replace hex := hex.same s37
    replace hq := sqt_kt (KT.of s37) hq
    replace hps := PvsAt.kp (Kp.same s37) _ _ hps
    replace hit := PvAt.kp (Kp.same s37) _ _ hit
    replace gT25 := PvsAt.kp (Kp.same s37) _ _ gT25
    replace e25 := s37 _ _ e25
    replace fT28 := PvAt.kp (Kp.same s37) _ _ fT28
    replace fT31 := PvAt.kp (Kp.same s37) _ _ fT31
    replace fT34 := PvAt.kp (Kp.same s37) _ _ fT34
    refine ⟨by show 4 ≤ sizeLine; decide, fun T38 nT38 => ?_⟩
    have s38 := Same.new nT38 (o := .lst [V.ref T28, V.ref T31, V.ref T34, V.ref T37])
    have e38 : (upd G37 T38 (.lst [V.ref T28, V.ref T31, V.ref T34, V.ref T37])) T38 = some (.lst [V.ref T28, V.ref T31, V.ref T34, V.ref T37]) := upd_same
    have xT38 : T38 ∉ [p] := Ex.out hex nT38
    revert s38 e38
    generalize upd G37 T38 (.lst [V.ref T28, V.ref T31, V.ref T34, V.ref T37]) = G38
    intro s38 e38
    replace kb := kb.trans (KB.of s38)
    replace hbag := hbag.same s38
    replace hex := hex.same s38
    replace hq := sqt_kt (KT.of s38) hq
    replace hps := PvsAt.kp (Kp.same s38) _ _ hps
    replace hit := PvAt.kp (Kp.same s38) _ _ hit
    replace gT25 := PvsAt.kp (Kp.same s38) _ _ gT25
    replace e25 := s38 _ _ e25
    replace fT28 := PvAt.kp (Kp.same s38) _ _ fT28
    replace fT31 := PvAt.kp (Kp.same s38) _ _ fT31
    replace fT34 := PvAt.kp (Kp.same s38) _ _ fT34
    replace fT37 := PvAt.kp (Kp.same s38) _ _ fT37
    have gT38 : PvsAt K C CP [p] G38 ([.tup ([.str z, .int (-1)] ++ (ps.drop 2)), .tup ([.str z, .bl true] ++ (ps.drop 2)), .tup ([.str z, .str "a"] ++ (ps.drop 2)), .tup ((ps.take (ps.length - 1)) ++ [.non])]) ([V.ref T28, V.ref T31, V.ref T34, V.ref T37]) := (.cons fT28 (.cons fT31 (.cons fT34 (.cons fT37 .nil))))
    refine ⟨T25, T38, _, _, rfl, rfl, e25, e38, by have := line4; simp only [List.length_append, List.length_cons, List.length_nil]; omega, fun T39 nT39 => ?_⟩
    have s39 := Same.new nT39 (o := .lst (([V.non, V.int (5), V.str "first", V.ref T1, V.ref T2, V.ref T3, V.ref T4, V.ref T6, V.ref T7, V.ref T8, V.ref T9, V.bl true] ++ [V.ref T13, V.ref T16, V.ref T20, V.ref T23]) ++ [V.ref T28, V.ref T31, V.ref T34, V.ref T37]))
    have e39 : (upd G38 T39 (.lst (([V.non, V.int (5), V.str "first", V.ref T1, V.ref T2, V.ref T3, V.ref T4, V.ref T6, V.ref T7, V.ref T8, V.ref T9, V.bl true] ++ [V.ref T13, V.ref T16, V.ref T20, V.ref T23]) ++ [V.ref T28, V.ref T31, V.ref T34, V.ref T37]))) T39 = some (.lst (([V.non, V.int (5), V.str "first", V.ref T1, V.ref T2, V.ref T3, V.ref T4, V.ref T6, V.ref T7, V.ref T8, V.ref T9, V.bl true] ++ [V.ref T13, V.ref T16, V.ref T20, V.ref T23]) ++ [V.ref T28, V.ref T31, V.ref T34, V.ref T37])) := upd_same
    have xT39 : T39 ∉ [p] := Ex.out hex nT39
    have gT39 : PvsAt K C CP [p] G38 (([.non, .int (5), .str "first", .tup [], .tup [.non], .lst ps, .tup (ps.take (ps.length - 1)), .tup (ps ++ [.int (0)]), .tup [.tup ps], .tup (ps.drop 1), .tup [.str z], .bl true] ++ [.tup ([.str "again"] ++ (ps.drop 1)), .tup ([.str (Txt.upper z)] ++ (ps.drop 1)), .tup ([.lst [.str z]] ++ (ps.drop 1)), .tup ([.str z, .int (10)] ++ (ps.drop 2))]) ++ [.tup ([.str z, .int (-1)] ++ (ps.drop 2)), .tup ([.str z, .bl true] ++ (ps.drop 2)), .tup ([.str z, .str "a"] ++ (ps.drop 2)), .tup ((ps.take (ps.length - 1)) ++ [.non])]) (([V.non, V.int (5), V.str "first", V.ref T1, V.ref T2, V.ref T3, V.ref T4, V.ref T6, V.ref T7, V.ref T8, V.ref T9, V.bl true] ++ [V.ref T13, V.ref T16, V.ref T20, V.ref T23]) ++ [V.ref T28, V.ref T31, V.ref T34, V.ref T37]) := PvsAt.app gT25 gT38
    revert s39 e39
    generalize upd G38 T39 (.lst (([V.non, V.int (5), V.str "first", V.ref T1, V.ref T2, V.ref T3, V.ref T4, V.ref T6, V.ref T7, V.ref T8, V.ref T9, V.bl true] ++ [V.ref T13, V.ref T16, V.ref T20, V.ref T23]) ++ [V.ref T28, V.ref T31, V.ref T34, V.ref T37])) = G39
    intro s39 e39
    replace kb := kb.trans (KB.of s39)
    replace hbag := hbag.same s39
    replace hex := hex.same s39
    replace hq := sqt_kt (KT.of s39) hq
    replace hps := PvsAt.kp (Kp.same s39) _ _ hps
    replace hit := PvAt.kp (Kp.same s39) _ _ hit
    replace gT39 := PvsAt.kp (Kp.same s39) _ _ gT39
    refine ⟨_, rfl, _, rfl, _, rfl, _, rfl, T0, _, rfl, rfl, rfl, hq, fun T40 G40 s40 hT40 => ?_⟩
    rw [hps.len] at hT40
    have fT40 : PvAt K C CP [p] G40 (.tup (ps.take (ps.length - 1))) (.ref T40) := by
      rw [PvAt]
      exact ⟨T40, _, rfl, hT40, PvsAt.kp (Kp.same s40) _ _ (hps.tk _)⟩
    replace kb := kb.trans (KB.of s40)
    replace hbag := hbag.same s40
    replace hex := hex.same s40
    replace hq := sqt_kt (KT.of s40) hq
    replace hps := PvsAt.kp (Kp.same s40) _ _ hps
    replace hit := PvAt.kp (Kp.same s40) _ _ hit
    replace gT39 := PvsAt.kp (Kp.same s40) _ _ gT39
    replace e39 := s40 _ _ e39
    refine ⟨Nat.zero_le _, fun T41 nT41 => ?_⟩
    have s41 := Same.new nT41 (o := .lst [])
    have e41 : (upd G40 T41 (.lst [])) T41 = some (.lst []) := upd_same
    have xT41 : T41 ∉ [p] := Ex.out hex nT41
    revert s41 e41
    generalize upd G40 T41 (.lst []) = G41
    intro s41 e41
    replace kb := kb.trans (KB.of s41)
    replace hbag := hbag.same s41
    replace hex := hex.same s41
    replace hq := sqt_kt (KT.of s41) hq
    replace hps := PvsAt.kp (Kp.same s41) _ _ hps
    replace hit := PvAt.kp (Kp.same s41) _ _ hit
    replace gT39 := PvsAt.kp (Kp.same s41) _ _ gT39
    replace e39 := s41 _ _ e39
    replace fT40 := PvAt.kp (Kp.same s41) _ _ fT40
    have fT41 : PvAt K C CP [p] G41 (.lst []) (.ref T41) := by
      rw [PvAt]
      exact ⟨T41, _, rfl, xT41, e41, .nil⟩
    refine ⟨by show 1 ≤ sizeLine; decide, fun T42 nT42 => ?_⟩
    have s42 := Same.new nT42 (o := .tup [V.ref T41])
    have e42 : (upd G41 T42 (.tup [V.ref T41])) T42 = some (.tup [V.ref T41]) := upd_same
    revert s42 e42
    generalize upd G41 T42 (.tup [V.ref T41]) = G42
    intro s42 e42
    replace kb := kb.trans (KB.of s42)
    replace hbag := hbag.same s42
    replace hex := hex.same s42
    replace hq := sqt_kt (KT.of s42) hq
    replace hps := PvsAt.kp (Kp.same s42) _ _ hps
    replace hit := PvAt.kp (Kp.same s42) _ _ hit
    replace gT39 := PvsAt.kp (Kp.same s42) _ _ gT39
    replace e39 := s42 _ _ e39
    replace fT40 := PvAt.kp (Kp.same s42) _ _ fT40
    replace fT41 := PvAt.kp (Kp.same s42) _ _ fT41
    have fT42 : PvAt K C CP [p] G42 (.tup [.lst []]) (.ref T42) := by
      rw [PvAt]
      exact ⟨T42, _, rfl, SqT.of e42, (.cons fT41 .nil)⟩
    obtain ⟨wa43, ha43, pa43⟩ := pv_tup fT40
    obtain ⟨wb43, hb43, pb43⟩ := pv_tup fT42
    refine ⟨T40, T42, wa43, wb43, rfl, rfl, ha43, hb43, by rw [pa43.len, pb43.len]; simp only [List.length_drop, List.length_take, List.length_cons, List.length_nil]; omega, fun T43 G43 s43 hT43 => ?_⟩
    have fT43 : PvAt K C CP [p] G43 (.tup ((ps.take (ps.length - 1)) ++ [.lst []])) (.ref T43) := by
      rw [PvAt]
      exact ⟨T43, _, rfl, hT43, PvsAt.app (PvsAt.kp (Kp.same s43) _ _ pa43) (PvsAt.kp (Kp.same s43) _ _ pb43)⟩
    replace kb := kb.trans (KB.of s43)
    replace hbag := hbag.same s43
    replace hex := hex.same s43
    replace hq := sqt_kt (KT.of s43) hq
    replace hps := PvsAt.kp (Kp.same s43) _ _ hps
    replace hit := PvAt.kp (Kp.same s43) _ _ hit
    replace gT39 := PvsAt.kp (Kp.same s43) _ _ gT39
    replace e39 := s43 _ _ e39
    refine ⟨_, rfl, _, rfl, _, rfl, T0, _, rfl, rfl, rfl, hq, fun T44 G44 s44 hT44 => ?_⟩
    rw [hps.len] at hT44
    have fT44 : PvAt K C CP [p] G44 (.tup (ps.take (ps.length - 1))) (.ref T44) := by
      rw [PvAt]
      exact ⟨T44, _, rfl, hT44, PvsAt.kp (Kp.same s44) _ _ (hps.tk _)⟩
    replace kb := kb.trans (KB.of s44)
    replace hbag := hbag.same s44
    replace hex := hex.same s44
    replace hq := sqt_kt (KT.of s44) hq
    replace hps := PvsAt.kp (Kp.same s44) _ _ hps
    replace hit := PvAt.kp (Kp.same s44) _ _ hit
    replace gT39 := PvsAt.kp (Kp.same s44) _ _ gT39
    replace e39 := s44 _ _ e39
    replace fT43 := PvAt.kp (Kp.same s44) _ _ fT43
    refine fun T45 G45 s45 _ hT45 => ?_
    have fT45 : PvAt K C CP [p] G45 (.th .nil) (.ref T45) := by
      rw [PvAt]
      exact ⟨T45, rfl, hT45, by decide⟩
    replace kb := kb.trans (KB.of s45)
    replace hbag := hbag.same s45
    replace hex := hex.same s45
    replace hq := sqt_kt (KT.of s45) hq
    replace hps := PvsAt.kp (Kp.same s45) _ _ hps
    replace hit := PvAt.kp (Kp.same s45) _ _ hit
    replace gT39 := PvsAt.kp (Kp.same s45) _ _ gT39
    replace e39 := s45 _ _ e39
    replace fT43 := PvAt.kp (Kp.same s45) _ _ fT43
    replace fT44 := PvAt.kp (Kp.same s45) _ _ fT44
    refine ⟨by show 1 ≤ sizeLine; decide, fun T46 nT46 => ?_⟩
    have s46 := Same.new nT46 (o := .tup [V.ref T45])
    have e46 : (upd G45 T46 (.tup [V.ref T45])) T46 = some (.tup [V.ref T45]) := upd_same
    revert s46 e46
    generalize upd G45 T46 (.tup [V.ref T45]) = G46
    intro s46 e46
    replace kb := kb.trans (KB.of s46)
    replace hbag := hbag.same s46
    replace hex := hex.same s46
    replace hq := sqt_kt (KT.of s46) hq
    replace hps := PvsAt.kp (Kp.same s46) _ _ hps
    replace hit := PvAt.kp (Kp.same s46) _ _ hit
    replace gT39 := PvsAt.kp (Kp.same s46) _ _ gT39
    replace e39 := s46 _ _ e39
    replace fT43 := PvAt.kp (Kp.same s46) _ _ fT43
    replace fT44 := PvAt.kp (Kp.same s46) _ _ fT44
    replace fT45 := PvAt.kp (Kp.same s46) _ _ fT45
    have fT46 : PvAt K C CP [p] G46 (.tup [.th .nil]) (.ref T46) := by
      rw [PvAt]
      exact ⟨T46, _, rfl, SqT.of e46, (.cons fT45 .nil)⟩
    obtain ⟨wa47, ha47, pa47⟩ := pv_tup fT44
    obtain ⟨wb47, hb47, pb47⟩ := pv_tup fT46
    refine ⟨T44, T46, wa47, wb47, rfl, rfl, ha47, hb47, by rw [pa47.len, pb47.len]; simp only [List.length_drop, List.length_take, List.length_cons, List.length_nil]; omega, fun T47 G47 s47 hT47 => ?_⟩
    have fT47 : PvAt K C CP [p] G47 (.tup ((ps.take (ps.length - 1)) ++ [.th .nil])) (.ref T47) := by
      rw [PvAt]
      exact ⟨T47, _, rfl, hT47, PvsAt.app (PvsAt.kp (Kp.same s47) _ _ pa47) (PvsAt.kp (Kp.same s47) _ _ pb47)⟩
    replace kb := kb.trans (KB.of s47)
    replace hbag := hbag.same s47
    replace hex := hex.same s47
    replace hq := sqt_kt (KT.of s47) hq
    replace hps := PvsAt.kp (Kp.same s47) _ _ hps
    replace hit := PvAt.kp (Kp.same s47) _ _ hit
    replace gT39 := PvsAt.kp (Kp.same s47) _ _ gT39
    replace e39 := s47 _ _ e39
    replace fT43 := PvAt.kp (Kp.same s47) _ _ fT43
    refine ⟨_, rfl, _, rfl, _, rfl, T0, _, rfl, rfl, rfl, hq, fun T48 G48 s48 hT48 => ?_⟩
    rw [hps.len] at hT48
    have fT48 : PvAt K C CP [p] G48 (.tup (ps.take (ps.length - 1))) (.ref T48) := by
      rw [PvAt]
      exact ⟨T48, _, rfl, hT48, PvsAt.kp (Kp.same s48) _ _ (hps.tk _)⟩
    replace kb := kb.trans (KB.of s48)
    replace hbag := hbag.same s48
    replace hex := hex.same s48
    replace hq := sqt_kt (KT.of s48) hq
    replace hps := PvsAt.kp (Kp.same s48) _ _ hps
    replace hit := PvAt.kp (Kp.same s48) _ _ hit
    replace gT39 := PvsAt.kp (Kp.same s48) _ _ gT39
    replace e39 := s48 _ _ e39
    replace fT43 := PvAt.kp (Kp.same s48) _ _ fT43
    replace fT47 := PvAt.kp (Kp.same s48) _ _ fT47
    refine ⟨Nat.zero_le _, fun T49 nT49 => ?_⟩
    have s49 := Same.new nT49 (o := .tup [])
    have e49 : (upd G48 T49 (.tup [])) T49 = some (.tup []) := upd_same
    revert s49 e49
    generalize upd G48 T49 (.tup []) = G49
    intro s49 e49
    replace kb := kb.trans (KB.of s49)
    replace hbag := hbag.same s49
    replace hex := hex.same s49
    replace hq := sqt_kt (KT.of s49) hq
    replace hps := PvsAt.kp (Kp.same s49) _ _ hps
    replace hit := PvAt.kp (Kp.same s49) _ _ hit
    replace gT39 := PvsAt.kp (Kp.same s49) _ _ gT39
    replace e39 := s49 _ _ e39
    replace fT43 := PvAt.kp (Kp.same s49) _ _ fT43
    replace fT47 := PvAt.kp (Kp.same s49) _ _ fT47
    replace fT48 := PvAt.kp (Kp.same s49) _ _ fT48
    have fT49 : PvAt K C CP [p] G49 (.tup []) (.ref T49) := by
      rw [PvAt]
      exact ⟨T49, _, rfl, SqT.of e49, .nil⟩
    refine ⟨by show 1 ≤ sizeLine; decide, fun T50 nT50 => ?_⟩
    have s50 := Same.new nT50 (o := .tup [V.ref T49])
    have e50 : (upd G49 T50 (.tup [V.ref T49])) T50 = some (.tup [V.ref T49]) := upd_same
    revert s50 e50
    generalize upd G49 T50 (.tup [V.ref T49]) = G50
    intro s50 e50
    replace kb := kb.trans (KB.of s50)
    replace hbag := hbag.same s50
    replace hex := hex.same s50
    replace hq := sqt_kt (KT.of s50) hq
    replace hps := PvsAt.kp (Kp.same s50) _ _ hps
    replace hit := PvAt.kp (Kp.same s50) _ _ hit
    replace gT39 := PvsAt.kp (Kp.same s50) _ _ gT39
    replace e39 := s50 _ _ e39
    replace fT43 := PvAt.kp (Kp.same s50) _ _ fT43
    replace fT47 := PvAt.kp (Kp.same s50) _ _ fT47
    replace fT48 := PvAt.kp (Kp.same s50) _ _ fT48
    replace fT49 := PvAt.kp (Kp.same s50) _ _ fT49
    have fT50 : PvAt K C CP [p] G50 (.tup [.tup []]) (.ref T50) := by
      rw [PvAt]
      exact ⟨T50, _, rfl, SqT.of e50, (.cons fT49 .nil)⟩
    obtain ⟨wa51, ha51, pa51⟩ := pv_tup fT48
    obtain ⟨wb51, hb51, pb51⟩ := pv_tup fT50
    refine ⟨T48, T50, wa51, wb51, rfl, rfl, ha51, hb51, by rw [pa51.len, pb51.len]; simp only [List.length_drop, List.length_take, List.length_cons, List.length_nil]; omega, fun T51 G51 s51 hT51 => ?_⟩
    have fT51 : PvAt K C CP [p] G51 (.tup ((ps.take (ps.length - 1)) ++ [.tup []])) (.ref T51) := by
      rw [PvAt]
      exact ⟨T51, _, rfl, hT51, PvsAt.app (PvsAt.kp (Kp.same s51) _ _ pa51) (PvsAt.kp (Kp.same s51) _ _ pb51)⟩
    replace kb := kb.trans (KB.of s51)
    replace hbag := hbag.same s51
    replace hex := hex.same s51
    replace hq := sqt_kt (KT.of s51) hq
    replace hps := PvsAt.kp (Kp.same s51) _ _ hps
    replace hit := PvAt.kp (Kp.same s51) _ _ hit
    replace gT39 := PvsAt.kp (Kp.same s51) _ _ gT39
    replace e39 := s51 _ _ e39
    replace fT43 := PvAt.kp (Kp.same s51) _ _ fT43
    replace fT47 := PvAt.kp (Kp.same s51) _ _ fT47
    refine ⟨_, rfl, _, rfl, _, rfl, T0, _, rfl, rfl, rfl, hq, fun T52 G52 s52 hT52 => ?_⟩
    rw [hps.len] at hT52
    have fT52 : PvAt K C CP [p] G52 (.tup (ps.take (ps.length - 1))) (.ref T52) := by
      rw [PvAt]
      exact ⟨T52, _, rfl, hT52, PvsAt.kp (Kp.same s52) _ _ (hps.tk _)⟩
    replace kb := kb.trans (KB.of s52)
    replace hbag := hbag.same s52
    replace hex := hex.same s52
    replace hq := sqt_kt (KT.of s52) hq
    replace hps := PvsAt.kp (Kp.same s52) _ _ hps
    replace hit := PvAt.kp (Kp.same s52) _ _ hit
    replace gT39 := PvsAt.kp (Kp.same s52) _ _ gT39
    replace e39 := s52 _ _ e39
    replace fT43 := PvAt.kp (Kp.same s52) _ _ fT43
    replace fT47 := PvAt.kp (Kp.same s52) _ _ fT47
    replace fT51 := PvAt.kp (Kp.same s52) _ _ fT51
    refine ⟨by show 1 ≤ sizeLine; decide, fun T53 nT53 => ?_⟩
    have s53 := Same.new nT53 (o := .tup [V.bl false])
    have e53 : (upd G52 T53 (.tup [V.bl false])) T53 = some (.tup [V.bl false]) := upd_same
    revert s53 e53
    generalize upd G52 T53 (.tup [V.bl false]) = G53
    intro s53 e53
    replace kb := kb.trans (KB.of s53)
    replace hbag := hbag.same s53
    replace hex := hex.same s53
    replace hq := sqt_kt (KT.of s53) hq
    replace hps := PvsAt.kp (Kp.same s53) _ _ hps
    replace hit := PvAt.kp (Kp.same s53) _ _ hit
    replace gT39 := PvsAt.kp (Kp.same s53) _ _ gT39
    replace e39 := s53 _ _ e39
    replace fT43 := PvAt.kp (Kp.same s53) _ _ fT43
    replace fT47 := PvAt.kp (Kp.same s53) _ _ fT47
    replace fT51 := PvAt.kp (Kp.same s53) _ _ fT51
    replace fT52 := PvAt.kp (Kp.same s53) _ _ fT52
    have fT53 : PvAt K C CP [p] G53 (.tup [.bl false]) (.ref T53) := by
      rw [PvAt]
      exact ⟨T53, _, rfl, SqT.of e53, (.cons (by rw [PvAt]) .nil)⟩
    obtain ⟨wa54, ha54, pa54⟩ := pv_tup fT52
    obtain ⟨wb54, hb54, pb54⟩ := pv_tup fT53
    refine ⟨T52, T53, wa54, wb54, rfl, rfl, ha54, hb54, by rw [pa54.len, pb54.len]; simp only [List.length_drop, List.length_take, List.length_cons, List.length_nil]; omega, fun T54 G54 s54 hT54 => ?_⟩
    have fT54 : PvAt K C CP [p] G54 (.tup ((ps.take (ps.length - 1)) ++ [.bl false])) (.ref T54) := by
      rw [PvAt]
      exact ⟨T54, _, rfl, hT54, PvsAt.app (PvsAt.kp (Kp.same s54) _ _ pa54) (PvsAt.kp (Kp.same s54) _ _ pb54)⟩
    replace kb := kb.trans (KB.of s54)
    replace hbag := hbag.same s54
    replace hex := hex.same s54
    replace hq := sqt_kt (KT.of s54) hq
    replace hps := PvsAt.kp (Kp.same s54) _ _ hps
    replace hit := PvAt.kp (Kp.same s54) _ _ hit
    replace gT39 := PvsAt.kp (Kp.same s54) _ _ gT39
    replace e39 := s54 _ _ e39
    replace fT43 := PvAt.kp (Kp.same s54) _ _ fT43
    replace fT47 := PvAt.kp (Kp.same s54) _ _ fT47
    replace fT51 := PvAt.kp (Kp.same s54) _ _ fT51
    refine ⟨Nat.zero_le _, fun T55 nT55 => ?_⟩
    have s55 := Same.new nT55 (o := .tup [])
    have e55 : (upd G54 T55 (.tup [])) T55 = some (.tup []) := upd_same
    revert s55 e55
    generalize upd G54 T55 (.tup []) = G55
    intro s55 e55
    replace kb := kb.trans (KB.of s55)
    replace hbag := hbag.same s55
    replace hex := hex.same s55
    replace hq := sqt_kt (KT.of s55) hq
    replace hps := PvsAt.kp (Kp.same s55) _ _ hps
    replace hit := PvAt.kp (Kp.same s55) _ _ hit
    replace gT39 := PvsAt.kp (Kp.same s55) _ _ gT39
    replace e39 := s55 _ _ e39
    replace fT43 := PvAt.kp (Kp.same s55) _ _ fT43
    replace fT47 := PvAt.kp (Kp.same s55) _ _ fT47
    replace fT51 := PvAt.kp (Kp.same s55) _ _ fT51
    replace fT54 := PvAt.kp (Kp.same s55) _ _ fT54
    have fT55 : PvAt K C CP [p] G55 (.tup []) (.ref T55) := by
      rw [PvAt]
      exact ⟨T55, _, rfl, SqT.of e55, .nil⟩
    refine ⟨by show 3 ≤ sizeLine; decide, fun T56 nT56 => ?_⟩
    have s56 := Same.new nT56 (o := .tup [V.str "told", V.int (0), V.ref T55])
    have e56 : (upd G55 T56 (.tup [V.str "told", V.int (0), V.ref T55])) T56 = some (.tup [V.str "told", V.int (0), V.ref T55]) := upd_same
    revert s56 e56
    generalize upd G55 T56 (.tup [V.str "told", V.int (0), V.ref T55]) = G56
    intro s56 e56
    replace kb := kb.trans (KB.of s56)
    replace hbag := hbag.same s56
    replace hex := hex.same s56
    replace hq := sqt_kt (KT.of s56) hq
    replace hps := PvsAt.kp (Kp.same s56) _ _ hps
    replace hit := PvAt.kp (Kp.same s56) _ _ hit
    replace gT39 := PvsAt.kp (Kp.same s56) _ _ gT39
    replace e39 := s56 _ _ e39
    replace fT43 := PvAt.kp (Kp.same s56) _ _ fT43
    replace fT47 := PvAt.kp (Kp.same s56) _ _ fT47
    replace fT51 := PvAt.kp (Kp.same s56) _ _ fT51
    replace fT54 := PvAt.kp (Kp.same s56) _ _ fT54
    replace fT55 := PvAt.kp (Kp.same s56) _ _ fT55
    have fT56 : PvAt K C CP [p] G56 (.tup [.str "told", .int (0), .tup []]) (.ref T56) := by
      rw [PvAt]
      exact ⟨T56, _, rfl, SqT.of e56, (.cons (by rw [PvAt]) (.cons (by rw [PvAt]) (.cons fT55 .nil)))⟩
    refine ⟨by show 5 ≤ sizeLine; decide, fun T57 nT57 => ?_⟩
    have s57 := Same.new nT57 (o := .lst [V.ref T43, V.ref T47, V.ref T51, V.ref T54, V.ref T56])
    have e57 : (upd G56 T57 (.lst [V.ref T43, V.ref T47, V.ref T51, V.ref T54, V.ref T56])) T57 = some (.lst [V.ref T43, V.ref T47, V.ref T51, V.ref T54, V.ref T56]) := upd_same
    have xT57 : T57 ∉ [p] := Ex.out hex nT57
    revert s57 e57
    generalize upd G56 T57 (.lst [V.ref T43, V.ref T47, V.ref T51, V.ref T54, V.ref T56]) = G57
    intro s57 e57
    replace kb := kb.trans (KB.of s57)
    replace hbag := hbag.same s57
    replace hex := hex.same s57
    replace hq := sqt_kt (KT.of s57) hq
    replace hps := PvsAt.kp (Kp.same s57) _ _ hps
    replace hit := PvAt.kp (Kp.same s57) _ _ hit
    replace gT39 := PvsAt.kp (Kp.same s57) _ _ gT39
    replace e39 := s57 _ _ e39
    replace fT43 := PvAt.kp (Kp.same s57) _ _ fT43
    replace fT47 := PvAt.kp (Kp.same s57) _ _ fT47
    replace fT51 := PvAt.kp (Kp.same s57) _ _ fT51
    replace fT54 := PvAt.kp (Kp.same s57) _ _ fT54
    replace fT56 := PvAt.kp (Kp.same s57) _ _ fT56
    have gT57 : PvsAt K C CP [p] G57 ([.tup ((ps.take (ps.length - 1)) ++ [.lst []]), .tup ((ps.take (ps.length - 1)) ++ [.th .nil]), .tup ((ps.take (ps.length - 1)) ++ [.tup []]), .tup ((ps.take (ps.length - 1)) ++ [.bl false]), .tup [.str "told", .int (0), .tup []]]) ([V.ref T43, V.ref T47, V.ref T51, V.ref T54, V.ref T56]) := (.cons fT43 (.cons fT47 (.cons fT51 (.cons fT54 (.cons fT56 .nil)))))
    refine ⟨T39, T57, _, _, rfl, rfl, e39, e57, by have := line4; simp only [List.length_append, List.length_cons, List.length_nil]; omega, fun T58 nT58 => ?_⟩
    have s58 := Same.new nT58 (o := .lst ((([V.non, V.int (5), V.str "first", V.ref T1, V.ref T2, V.ref T3, V.ref T4, V.ref T6, V.ref T7, V.ref T8, V.ref T9, V.bl true] ++ [V.ref T13, V.ref T16, V.ref T20, V.ref T23]) ++ [V.ref T28, V.ref T31, V.ref T34, V.ref T37]) ++ [V.ref T43, V.ref T47, V.ref T51, V.ref T54, V.ref T56]))
    have e58 : (upd G57 T58 (.lst ((([V.non, V.int (5), V.str "first", V.ref T1, V.ref T2, V.ref T3, V.ref T4, V.ref T6, V.ref T7, V.ref T8, V.ref T9, V.bl true] ++ [V.ref T13, V.ref T16, V.ref T20, V.ref T23]) ++ [V.ref T28, V.ref T31, V.ref T34, V.ref T37]) ++ [V.ref T43, V.ref T47, V.ref T51, V.ref T54, V.ref T56]))) T58 = some (.lst ((([V.non, V.int (5), V.str "first", V.ref T1, V.ref T2, V.ref T3, V.ref T4, V.ref T6, V.ref T7, V.ref T8, V.ref T9, V.bl true] ++ [V.ref T13, V.ref T16, V.ref T20, V.ref T23]) ++ [V.ref T28, V.ref T31, V.ref T34, V.ref T37]) ++ [V.ref T43, V.ref T47, V.ref T51, V.ref T54, V.ref T56])) := upd_same
    have xT58 : T58 ∉ [p] := Ex.out hex nT58
    have gT58 : PvsAt K C CP [p] G57 ((([.non, .int (5), .str "first", .tup [], .tup [.non], .lst ps, .tup (ps.take (ps.length - 1)), .tup (ps ++ [.int (0)]), .tup [.tup ps], .tup (ps.drop 1), .tup [.str z], .bl true] ++ [.tup ([.str "again"] ++ (ps.drop 1)), .tup ([.str (Txt.upper z)] ++ (ps.drop 1)), .tup ([.lst [.str z]] ++ (ps.drop 1)), .tup ([.str z, .int (10)] ++ (ps.drop 2))]) ++ [.tup ([.str z, .int (-1)] ++ (ps.drop 2)), .tup ([.str z, .bl true] ++ (ps.drop 2)), .tup ([.str z, .str "a"] ++ (ps.drop 2)), .tup ((ps.take (ps.length - 1)) ++ [.non])]) ++ [.tup ((ps.take (ps.length - 1)) ++ [.lst []]), .tup ((ps.take (ps.length - 1)) ++ [.th .nil]), .tup ((ps.take (ps.length - 1)) ++ [.tup []]), .tup ((ps.take (ps.length - 1)) ++ [.bl false]), .tup [.str "told", .int (0), .tup []]]) ((([V.non, V.int (5), V.str "first", V.ref T1, V.ref T2, V.ref T3, V.ref T4, V.ref T6, V.ref T7, V.ref T8, V.ref T9, V.bl true] ++ [V.ref T13, V.ref T16, V.ref T20, V.ref T23]) ++ [V.ref T28, V.ref T31, V.ref T34, V.ref T37]) ++ [V.ref T43, V.ref T47, V.ref T51, V.ref T54, V.ref T56]) := PvsAt.app gT39 gT57
    revert s58 e58
    generalize upd G57 T58 (.lst ((([V.non, V.int (5), V.str "first", V.ref T1, V.ref T2, V.ref T3, V.ref T4, V.ref T6, V.ref T7, V.ref T8, V.ref T9, V.bl true] ++ [V.ref T13, V.ref T16, V.ref T20, V.ref T23]) ++ [V.ref T28, V.ref T31, V.ref T34, V.ref T37]) ++ [V.ref T43, V.ref T47, V.ref T51, V.ref T54, V.ref T56])) = G58
    intro s58 e58
    replace kb := kb.trans (KB.of s58)
    replace hbag := hbag.same s58
    replace hex := hex.same s58
    replace hq := sqt_kt (KT.of s58) hq
    replace hps := PvsAt.kp (Kp.same s58) _ _ hps
    replace hit := PvAt.kp (Kp.same s58) _ _ hit
    replace gT58 := PvsAt.kp (Kp.same s58) _ _ gT58
    refine ⟨_, rfl, by show 3 ≤ sizeLine; decide, fun T59 nT59 => ?_⟩
    have s59 := Same.new nT59 (o := .tup [V.str "first", V.int (0), V.int (0)])
    have e59 : (upd G58 T59 (.tup [V.str "first", V.int (0), V.int (0)])) T59 = some (.tup [V.str "first", V.int (0), V.int (0)]) := upd_same
    revert s59 e59
    generalize upd G58 T59 (.tup [V.str "first", V.int (0), V.int (0)]) = G59
    intro s59 e59
    replace kb := kb.trans (KB.of s59)
    replace hbag := hbag.same s59
    replace hex := hex.same s59
    replace hq := sqt_kt (KT.of s59) hq
    replace hps := PvsAt.kp (Kp.same s59) _ _ hps
    replace hit := PvAt.kp (Kp.same s59) _ _ hit
    replace gT58 := PvsAt.kp (Kp.same s59) _ _ gT58
    replace e58 := s59 _ _ e58
    have fT59 : PvAt K C CP [p] G59 (.tup [.str "first", .int (0), .int (0)]) (.ref T59) := by
      rw [PvAt]
      exact ⟨T59, _, rfl, SqT.of e59, (.cons (by rw [PvAt]) (.cons (by rw [PvAt]) (.cons (by rw [PvAt]) .nil)))⟩
    refine ⟨by show 1 ≤ sizeLine; decide, fun T60 nT60 => ?_⟩
    have s60 := Same.new nT60 (o := .lst [V.ref T59])
    have e60 : (upd G59 T60 (.lst [V.ref T59])) T60 = some (.lst [V.ref T59]) := upd_same
    have xT60 : T60 ∉ [p] := Ex.out hex nT60
    revert s60 e60
    generalize upd G59 T60 (.lst [V.ref T59]) = G60
    intro s60 e60
    replace kb := kb.trans (KB.of s60)
    replace hbag := hbag.same s60
    replace hex := hex.same s60
    replace hq := sqt_kt (KT.of s60) hq
    replace hps := PvsAt.kp (Kp.same s60) _ _ hps
    replace hit := PvAt.kp (Kp.same s60) _ _ hit
    replace gT58 := PvsAt.kp (Kp.same s60) _ _ gT58
    replace e58 := s60 _ _ e58
    replace fT59 := PvAt.kp (Kp.same s60) _ _ fT59
    have fT60 : PvAt K C CP [p] G60 (.lst [.tup [.str "first", .int (0), .int (0)]]) (.ref T60) := by
      rw [PvAt]
      exact ⟨T60, _, rfl, xT60, e60, (.cons fT59 .nil)⟩
    refine ⟨by show 3 ≤ sizeLine; decide, fun T61 nT61 => ?_⟩
    have s61 := Same.new nT61 (o := .tup [V.str "while", V.int (0), V.ref T60])
    have e61 : (upd G60 T61 (.tup [V.str "while", V.int (0), V.ref T60])) T61 = some (.tup [V.str "while", V.int (0), V.ref T60]) := upd_same
    revert s61 e61
    generalize upd G60 T61 (.tup [V.str "while", V.int (0), V.ref T60]) = G61
    intro s61 e61
    replace kb := kb.trans (KB.of s61)
    replace hbag := hbag.same s61
    replace hex := hex.same s61
    replace hq := sqt_kt (KT.of s61) hq
    replace hps := PvsAt.kp (Kp.same s61) _ _ hps
    replace hit := PvAt.kp (Kp.same s61) _ _ hit
    replace gT58 := PvsAt.kp (Kp.same s61) _ _ gT58
    replace e58 := s61 _ _ e58
    replace fT60 := PvAt.kp (Kp.same s61) _ _ fT60
    have fT61 : PvAt K C CP [p] G61 (.tup [.str "while", .int (0), .lst [.tup [.str "first", .int (0), .int (0)]]]) (.ref T61) := by
      rw [PvAt]
      exact ⟨T61, _, rfl, SqT.of e61, (.cons (by rw [PvAt]) (.cons (by rw [PvAt]) (.cons fT60 .nil)))⟩
    refine ⟨Nat.zero_le _, fun T62 nT62 => ?_⟩
    have s62 := Same.new nT62 (o := .tup [])
    have e62 : (upd G61 T62 (.tup [])) T62 = some (.tup []) := upd_same
    revert s62 e62
    generalize upd G61 T62 (.tup []) = G62
    intro s62 e62
    replace kb := kb.trans (KB.of s62)
    replace hbag := hbag.same s62
    replace hex := hex.same s62
    replace hq := sqt_kt (KT.of s62) hq
    replace hps := PvsAt.kp (Kp.same s62) _ _ hps
    replace hit := PvAt.kp (Kp.same s62) _ _ hit
    replace gT58 := PvsAt.kp (Kp.same s62) _ _ gT58
    replace e58 := s62 _ _ e58
    replace fT61 := PvAt.kp (Kp.same s62) _ _ fT61
    have fT62 : PvAt K C CP [p] G62 (.tup []) (.ref T62) := by
      rw [PvAt]
      exact ⟨T62, _, rfl, SqT.of e62, .nil⟩
    refine ⟨by show 4 ≤ sizeLine; decide, fun T63 nT63 => ?_⟩
    have s63 := Same.new nT63 (o := .tup [V.str "if", V.int (0), V.ref T62, V.non])
    have e63 : (upd G62 T63 (.tup [V.str "if", V.int (0), V.ref T62, V.non])) T63 = some (.tup [V.str "if", V.int (0), V.ref T62, V.non]) := upd_same
    revert s63 e63
    generalize upd G62 T63 (.tup [V.str "if", V.int (0), V.ref T62, V.non]) = G63
    intro s63 e63
    replace kb := kb.trans (KB.of s63)
    replace hbag := hbag.same s63
    replace hex := hex.same s63
    replace hq := sqt_kt (KT.of s63) hq
    replace hps := PvsAt.kp (Kp.same s63) _ _ hps
    replace hit := PvAt.kp (Kp.same s63) _ _ hit
    replace gT58 := PvsAt.kp (Kp.same s63) _ _ gT58
    replace e58 := s63 _ _ e58
    replace fT61 := PvAt.kp (Kp.same s63) _ _ fT61
    replace fT62 := PvAt.kp (Kp.same s63) _ _ fT62
    have fT63 : PvAt K C CP [p] G63 (.tup [.str "if", .int (0), .tup [], .non]) (.ref T63) := by
      rw [PvAt]
      exact ⟨T63, _, rfl, SqT.of e63, (.cons (by rw [PvAt]) (.cons (by rw [PvAt]) (.cons fT62 (.cons (by rw [PvAt]) .nil))))⟩
    refine ⟨by show 2 ≤ sizeLine; decide, fun T64 nT64 => ?_⟩
    have s64 := Same.new nT64 (o := .tup [V.str "first", V.int (0)])
    have e64 : (upd G63 T64 (.tup [V.str "first", V.int (0)])) T64 = some (.tup [V.str "first", V.int (0)]) := upd_same
    revert s64 e64
    generalize upd G63 T64 (.tup [V.str "first", V.int (0)]) = G64
    intro s64 e64
    replace kb := kb.trans (KB.of s64)
    replace hbag := hbag.same s64
    replace hex := hex.same s64
    replace hq := sqt_kt (KT.of s64) hq
    replace hps := PvsAt.kp (Kp.same s64) _ _ hps
    replace hit := PvAt.kp (Kp.same s64) _ _ hit
    replace gT58 := PvsAt.kp (Kp.same s64) _ _ gT58
    replace e58 := s64 _ _ e58
    replace fT61 := PvAt.kp (Kp.same s64) _ _ fT61
    replace fT63 := PvAt.kp (Kp.same s64) _ _ fT63
    have fT64 : PvAt K C CP [p] G64 (.tup [.str "first", .int (0)]) (.ref T64) := by
      rw [PvAt]
      exact ⟨T64, _, rfl, SqT.of e64, (.cons (by rw [PvAt]) (.cons (by rw [PvAt]) .nil))⟩
    refine ⟨by show 1 ≤ sizeLine; decide, fun T65 nT65 => ?_⟩
    have s65 := Same.new nT65 (o := .tup [V.ref T64])
    have e65 : (upd G64 T65 (.tup [V.ref T64])) T65 = some (.tup [V.ref T64]) := upd_same
    revert s65 e65
    generalize upd G64 T65 (.tup [V.ref T64]) = G65
    intro s65 e65
    replace kb := kb.trans (KB.of s65)
    replace hbag := hbag.same s65
    replace hex := hex.same s65
    replace hq := sqt_kt (KT.of s65) hq
    replace hps := PvsAt.kp (Kp.same s65) _ _ hps
    replace hit := PvAt.kp (Kp.same s65) _ _ hit
    replace gT58 := PvsAt.kp (Kp.same s65) _ _ gT58
    replace e58 := s65 _ _ e58
    replace fT61 := PvAt.kp (Kp.same s65) _ _ fT61
    replace fT63 := PvAt.kp (Kp.same s65) _ _ fT63
    replace fT64 := PvAt.kp (Kp.same s65) _ _ fT64
    have fT65 : PvAt K C CP [p] G65 (.tup [.tup [.str "first", .int (0)]]) (.ref T65) := by
      rw [PvAt]
      exact ⟨T65, _, rfl, SqT.of e65, (.cons fT64 .nil)⟩
    refine ⟨by show 3 ≤ sizeLine; decide, fun T66 nT66 => ?_⟩
    have s66 := Same.new nT66 (o := .tup [V.str "while", V.int (0), V.ref T65])
    have e66 : (upd G65 T66 (.tup [V.str "while", V.int (0), V.ref T65])) T66 = some (.tup [V.str "while", V.int (0), V.ref T65]) := upd_same
    revert s66 e66
    generalize upd G65 T66 (.tup [V.str "while", V.int (0), V.ref T65]) = G66
    intro s66 e66
    replace kb := kb.trans (KB.of s66)
    replace hbag := hbag.same s66
    replace hex := hex.same s66
    replace hq := sqt_kt (KT.of s66) hq
    replace hps := PvsAt.kp (Kp.same s66) _ _ hps
    replace hit := PvAt.kp (Kp.same s66) _ _ hit
    replace gT58 := PvsAt.kp (Kp.same s66) _ _ gT58
    replace e58 := s66 _ _ e58
    replace fT61 := PvAt.kp (Kp.same s66) _ _ fT61
    replace fT63 := PvAt.kp (Kp.same s66) _ _ fT63
    replace fT65 := PvAt.kp (Kp.same s66) _ _ fT65
    have fT66 : PvAt K C CP [p] G66 (.tup [.str "while", .int (0), .tup [.tup [.str "first", .int (0)]]]) (.ref T66) := by
      rw [PvAt]
      exact ⟨T66, _, rfl, SqT.of e66, (.cons (by rw [PvAt]) (.cons (by rw [PvAt]) (.cons fT65 .nil)))⟩
    refine ⟨by show 3 ≤ sizeLine; decide, fun T67 nT67 => ?_⟩
    have s67 := Same.new nT67 (o := .lst [V.ref T61, V.ref T63, V.ref T66])
    have e67 : (upd G66 T67 (.lst [V.ref T61, V.ref T63, V.ref T66])) T67 = some (.lst [V.ref T61, V.ref T63, V.ref T66]) := upd_same
    have xT67 : T67 ∉ [p] := Ex.out hex nT67
    revert s67 e67
    generalize upd G66 T67 (.lst [V.ref T61, V.ref T63, V.ref T66]) = G67
    intro s67 e67
    replace kb := kb.trans (KB.of s67)
    replace hbag := hbag.same s67
    replace hex := hex.same s67
    replace hq := sqt_kt (KT.of s67) hq
    replace hps := PvsAt.kp (Kp.same s67) _ _ hps
    replace hit := PvAt.kp (Kp.same s67) _ _ hit
    replace gT58 := PvsAt.kp (Kp.same s67) _ _ gT58
    replace e58 := s67 _ _ e58
    replace fT61 := PvAt.kp (Kp.same s67) _ _ fT61
    replace fT63 := PvAt.kp (Kp.same s67) _ _ fT63
    replace fT66 := PvAt.kp (Kp.same s67) _ _ fT66
    have gT67 : PvsAt K C CP [p] G67 ([.tup [.str "while", .int (0), .lst [.tup [.str "first", .int (0), .int (0)]]], .tup [.str "if", .int (0), .tup [], .non], .tup [.str "while", .int (0), .tup [.tup [.str "first", .int (0)]]]]) ([V.ref T61, V.ref T63, V.ref T66]) := (.cons fT61 (.cons fT63 (.cons fT66 .nil)))
    have gA : PvsAt K C CP [p] G67 (((([.non, .int (5), .str "first", .tup [], .tup [.non], .lst ps, .tup (ps.take (ps.length - 1)), .tup (ps ++ [.int (0)]), .tup [.tup ps], .tup (ps.drop 1), .tup [.str z], .bl true] ++ [.tup ([.str "again"] ++ (ps.drop 1)), .tup ([.str (Txt.upper z)] ++ (ps.drop 1)), .tup ([.lst [.str z]] ++ (ps.drop 1)), .tup ([.str z, .int (10)] ++ (ps.drop 2))]) ++ [.tup ([.str z, .int (-1)] ++ (ps.drop 2)), .tup ([.str z, .bl true] ++ (ps.drop 2)), .tup ([.str z, .str "a"] ++ (ps.drop 2)), .tup ((ps.take (ps.length - 1)) ++ [.non])]) ++ [.tup ((ps.take (ps.length - 1)) ++ [.lst []]), .tup ((ps.take (ps.length - 1)) ++ [.th .nil]), .tup ((ps.take (ps.length - 1)) ++ [.tup []]), .tup ((ps.take (ps.length - 1)) ++ [.bl false]), .tup [.str "told", .int (0), .tup []]]) ++ [.tup [.str "while", .int (0), .lst [.tup [.str "first", .int (0), .int (0)]]], .tup [.str "if", .int (0), .tup [], .non], .tup [.str "while", .int (0), .tup [.tup [.str "first", .int (0)]]]]) (((([V.non, V.int (5), V.str "first", V.ref T1, V.ref T2, V.ref T3, V.ref T4, V.ref T6, V.ref T7, V.ref T8, V.ref T9, V.bl true] ++ [V.ref T13, V.ref T16, V.ref T20, V.ref T23]) ++ [V.ref T28, V.ref T31, V.ref T34, V.ref T37]) ++ [V.ref T43, V.ref T47, V.ref T51, V.ref T54, V.ref T56]) ++ [V.ref T61, V.ref T63, V.ref T66]) := PvsAt.app gT58 gT67
    obtain ⟨ys, hys⟩ : ∃ ys : List Pv, (((([.non, .int (5), .str "first", .tup [], .tup [.non], .lst ps, .tup (ps.take (ps.length - 1)), .tup (ps ++ [.int (0)]), .tup [.tup ps], .tup (ps.drop 1), .tup [.str z], .bl true] ++ [.tup ([.str "again"] ++ (ps.drop 1)), .tup ([.str (Txt.upper z)] ++ (ps.drop 1)), .tup ([.lst [.str z]] ++ (ps.drop 1)), .tup ([.str z, .int (10)] ++ (ps.drop 2))]) ++ [.tup ([.str z, .int (-1)] ++ (ps.drop 2)), .tup ([.str z, .bl true] ++ (ps.drop 2)), .tup ([.str z, .str "a"] ++ (ps.drop 2)), .tup ((ps.take (ps.length - 1)) ++ [.non])]) ++ [.tup ((ps.take (ps.length - 1)) ++ [.lst []]), .tup ((ps.take (ps.length - 1)) ++ [.th .nil]), .tup ((ps.take (ps.length - 1)) ++ [.tup []]), .tup ((ps.take (ps.length - 1)) ++ [.bl false]), .tup [.str "told", .int (0), .tup []]]) ++ [.tup [.str "while", .int (0), .lst [.tup [.str "first", .int (0), .int (0)]]], .tup [.str "if", .int (0), .tup [], .non], .tup [.str "while", .int (0), .tup [.tup [.str "first", .int (0)]]]]) = ys := ⟨_, rfl⟩
    obtain ⟨ws, hws⟩ : ∃ ws : List V, (((([V.non, V.int (5), V.str "first", V.ref T1, V.ref T2, V.ref T3, V.ref T4, V.ref T6, V.ref T7, V.ref T8, V.ref T9, V.bl true] ++ [V.ref T13, V.ref T16, V.ref T20, V.ref T23]) ++ [V.ref T28, V.ref T31, V.ref T34, V.ref T37]) ++ [V.ref T43, V.ref T47, V.ref T51, V.ref T54, V.ref T56]) ++ [V.ref T61, V.ref T63, V.ref T66]) = ws := ⟨_, rfl⟩
    have hyl : ys.length = 28 := by rw [← hys]; rfl
    have hwl : ws.length = 28 := by rw [← hws]; rfl
    rw [hys, hws] at gA
    refine ⟨T58, T67, _, _, rfl, rfl, e58, e67, by show 28 ≤ sizeLine; omega, fun T68 nT68 => ?_⟩
    rw [hws]
    have neT : T68 ≠ p := bag_neF hbag nT68
    have nT0 : H T68 = none := kb_none kb neT nT68
    have gT := PvsAt.more nT68 gA
    have hexT : BagOk G67 p := hbag
    have s68 := Same.new nT68 (o := .lst ws)
    have e68 : (upd G67 T68 (.lst ws)) T68 = some (.lst ws) := upd_same
    revert s68 e68
    generalize upd G67 T68 (.lst ws) = G68
    intro s68 e68
    replace kb := kb.trans (KB.of s68)
    replace hbag := hbag.same s68
    replace gT := PvsAt.kp (Kp.same s68) _ _ gT
    refine ⟨_, rfl, .inl ⟨rfl, _, SqL.of e68⟩, by show 1 ≤ sizeLine; decide, fun T69 nT69 => ?_⟩
    have s69 := Same.new nT69 (o := .tup [V.int (3)])
    have e69 : (upd G68 T69 (.tup [V.int (3)])) T69 = some (.tup [V.int (3)]) := upd_same
    revert s69 e69
    generalize upd G68 T69 (.tup [V.int (3)]) = G69
    intro s69 e69
    replace kb := kb.trans (KB.of s69)
    replace hbag := hbag.same s69
    replace gT := PvsAt.kp (Kp.same s69) _ _ gT
    replace e68 := s69 _ _ e68
    have fT69 : PvAt K C CP (T68 :: [p]) G69 (.tup [.int (3)]) (.ref T69) := by
      rw [PvAt]
      exact ⟨T69, _, rfl, SqT.of e69, (.cons (by rw [PvAt]) .nil)⟩
    refine ⟨by show 3 ≤ sizeLine; decide, fun T70 nT70 => ?_⟩
    have s70 := Same.new nT70 (o := .tup [V.str "while", V.int (3), V.ref T69])
    have e70 : (upd G69 T70 (.tup [V.str "while", V.int (3), V.ref T69])) T70 = some (.tup [V.str "while", V.int (3), V.ref T69]) := upd_same
    revert s70 e70
    generalize upd G69 T70 (.tup [V.str "while", V.int (3), V.ref T69]) = G70
    intro s70 e70
    replace kb := kb.trans (KB.of s70)
    replace hbag := hbag.same s70
    replace gT := PvsAt.kp (Kp.same s70) _ _ gT
    replace e68 := s70 _ _ e68
    replace fT69 := PvAt.kp (Kp.same s70) _ _ fT69
    have fT70 : PvAt K C CP (T68 :: [p]) G70 (.tup [.str "while", .int (3), .tup [.int (3)]]) (.ref T70) := by
      rw [PvAt]
      exact ⟨T70, _, rfl, SqT.of e70, (.cons (by rw [PvAt]) (.cons (by rw [PvAt]) (.cons fT69 .nil)))⟩
    refine ⟨T68, _, _, rfl, rfl, e68, by rw [hwl]; omega, ?_⟩
    have gZ : PvsAt K C CP (T68 :: [p]) (upd G70 T68 (.lst (ws ++ [V.ref T70]))) (ys ++ [.tup [.str "while", .int (3), .tup [.int (3)]]]) (ws ++ [V.ref T70]) := PvsAt.kp (Kp.app e68 List.mem_cons_self) _ _ (PvsAt.app gT (.cons fT70 .nil))
    have kbZ : KB p H (upd G70 T68 (.lst (ws ++ [V.ref T70]))) := kb_app kb nT0
    have hZ : (upd G70 T68 (.lst (ws ++ [V.ref T70]))) T68 = some (.lst (ws ++ [V.ref T70])) := upd_same
    have bZ : BagOk (upd G70 T68 (.lst (ws ++ [V.ref T70]))) p := bag_upd7 hbag neT
    revert gZ kbZ hZ bZ
    generalize upd G70 T68 (.lst (ws ++ [V.ref T70])) = HZ
    intro gZ kbZ hZ bZ
    have okA : OksP (WfP K mg) ys := by
      rw [← hys]
      exact (oksP_app (oksP_app (oksP_app (oksP_app (oksP_cons okP_non (oksP_cons okP_int (oksP_cons (okP_kind kix1) (oksP_cons (okP_tup oksP_nil) (oksP_cons (okP_tup (oksP_cons okP_non oksP_nil)) (oksP_cons okP_lst (oksP_cons (okP_tup (oksP_tk hok)) (oksP_cons (okP_cat (okP_tup hok) (okP_tup (oksP_cons okP_int oksP_nil))) (oksP_cons (okP_tup (oksP_cons (okP_tup hok) oksP_nil)) (oksP_cons (okP_tup (oksP_dr hok)) (oksP_cons (okP_tup (oksP_cons (okP_kind hk) oksP_nil)) (oksP_cons okP_bl oksP_nil)))))))))))) (oksP_cons (okP_cat (okP_tup (oksP_cons (okW "again" (by simp [oddS])) oksP_nil)) (okP_tup (oksP_dr hok))) (oksP_cons (okP_cat (okP_tup (oksP_cons okU oksP_nil)) (okP_tup (oksP_dr hok))) (oksP_cons (okP_cat (okP_tup (oksP_cons okP_lst oksP_nil)) (okP_tup (oksP_dr hok))) (oksP_cons (okP_cat (okP_tup (oksP_cons (okP_kind hk) (oksP_cons okP_int oksP_nil))) (okP_tup (oksP_dr hok))) oksP_nil))))) (oksP_cons (okP_cat (okP_tup (oksP_cons (okP_kind hk) (oksP_cons okP_int oksP_nil))) (okP_tup (oksP_dr hok))) (oksP_cons (okP_cat (okP_tup (oksP_cons (okP_kind hk) (oksP_cons okP_bl oksP_nil))) (okP_tup (oksP_dr hok))) (oksP_cons (okP_cat (okP_tup (oksP_cons (okP_kind hk) (oksP_cons (okW "a" (by simp [oddS])) oksP_nil))) (okP_tup (oksP_dr hok))) (oksP_cons (okP_cat (okP_tup (oksP_tk hok)) (okP_tup (oksP_cons okP_non oksP_nil))) oksP_nil))))) (oksP_cons (okP_cat (okP_tup (oksP_tk hok)) (okP_tup (oksP_cons okP_lst oksP_nil))) (oksP_cons (okP_cat (okP_tup (oksP_tk hok)) (okP_tup (oksP_cons okP_th oksP_nil))) (oksP_cons (okP_cat (okP_tup (oksP_tk hok)) (okP_tup (oksP_cons (okP_tup oksP_nil) oksP_nil))) (oksP_cons (okP_cat (okP_tup (oksP_tk hok)) (okP_tup (oksP_cons okP_bl oksP_nil))) (oksP_cons (okP_tup (oksP_cons (okP_kind kix0) (oksP_cons okP_int (oksP_cons (okP_tup oksP_nil) oksP_nil)))) oksP_nil)))))) (oksP_cons (okP_tup (oksP_cons (okP_kind kix5) (oksP_cons okP_int (oksP_cons okP_lst oksP_nil)))) (oksP_cons (okP_tup (oksP_cons (okP_kind kix6) (oksP_cons okP_int (oksP_cons (okP_tup oksP_nil) (oksP_cons okP_non oksP_nil))))) (oksP_cons (okP_tup (oksP_cons (okP_kind kix5) (oksP_cons okP_int (oksP_cons (okP_tup (oksP_cons (okP_tup (oksP_cons (okP_kind kix1) (oksP_cons okP_int oksP_nil))) oksP_nil)) oksP_nil)))) oksP_nil))))
    have okZ : OksP (WfP K mg) (ys ++ [.tup [.str "while", .int (3), .tup [.int (3)]]]) := oksP_app okA (oksP_cons (okP_tup (oksP_cons (okP_kind kix5) (oksP_cons okP_int (oksP_cons (okP_tup (oksP_cons okP_int oksP_nil)) oksP_nil)))) oksP_nil)
    refine ⟨_, rfl, _, rfl, p, 29, rfl, bZ, by decide, by decide, fun d HD kD bD d0 d1 => ?_⟩
    obtain ⟨n, rfl⟩ := Int.eq_ofNat_of_zero_le d0
    have hn : n < (ys ++ [(.tup [.str "while", .int (3), .tup [.int (3)]] : Pv)]).length := by rw [List.length_append, hyl]; simp only [List.length_cons, List.length_nil]; omega
    obtain ⟨u, hu, hyu⟩ := gZ.get (List.getElem?_eq_getElem hn)
    exact ⟨T68, _, _, u, rfl, rfl, SqL.of (kD _ _ neT hZ), atI_nat hu, k _ u _ (kbZ.trans kD) bD (PvAt.less (by simp) (PvAt.kp (Kp.kb (List.mem_cons_of_mem _ List.mem_cons_self) bZ kD) _ _ hyu)) (OksP_mem okZ (List.getElem_mem hn))⟩
end
end Js
set_option Elab.async false
set_option linter.all false
set_option maxRecDepth 100000
set_option maxHeartbeats 2000000
namespace Js
open PySem L2
abbrev sName : Stmt := top 35
abbrev sDeed : Stmt := top 36
abbrev sDeeds : Stmt := top 37
abbrev sTop : Stmt := top 38
def KC (p f : Addr) (H H' : Hp) : Prop := ∀ a o, a ≠ p → a ≠ f → H a = some o → H' a = some o
theorem KC.refl (p f : Addr) (H : Hp) : KC p f H H := fun _ _ _ _ h => h
theorem KC.of {p f : Addr} {H H' : Hp} (s : Same H H') : KC p f H H' := fun _ _ _ _ h => s _ _ h
theorem KC.kb {p f : Addr} {H H' : Hp} (k : KB p H H') : KC p f H H' := fun _ _ n _ h => k _ _ n h
theorem KC.trans {p f : Addr} {H H1 H2 : Hp} (a : KC p f H H1) (b : KC p f H1 H2) : KC p f H H2 := fun x o n m h => b x o n m (a x o n m h)
theorem KC.set {p f : Addr} {H : Hp} {o : HO} : KC p f H (upd H f o) := fun x u _ m h => by rw [upd_ne m]; exact h
theorem KC.kt {p f : Addr} {H H' : Hp} (k : KC p f H H') {xs ys : List V} (hp : H p = some (.lst xs)) (hf : H f = some (.lst ys)) : KT H H' := fun a o h n => k a o (fun z => by subst z; exact n _ (Option.some.inj (h.symm.trans hp))) (fun z => by subst z; exact n _ (Option.some.inj (h.symm.trans hf))) h
def Lf (H : Hp) (f : Addr) (l : Nat) : Prop := H f = some (.lst [.int (l : Nat)])
def spName : Sp := fun vs H Q _ => ∃ p, vs = [.ref p] ∧ BagOk H p ∧ ∀ (a : Nat) H', KB p H H' → BagOk H' p → a < 10 → Q (.int (a : Nat)) H'
def spDeed (K : PySem.W.Frag) (C : Addr) (m : Nat) : Sp := fun vs H Q _ => ∃ (p f : Addr) (dp l : Nat), vs = [.ref p, .ref f, .int (dp : Nat)] ∧ BagOk H p ∧ Lf H f l ∧ p ≠ f ∧ dp + m = 5 ∧ l ≤ 1000 ∧
  ∀ v d l' H', KC p f H H' → BagOk H' p → Lf H' f l' → l' ≤ l → DAt K C H' v d → d.deep ≤ m → d.many ≤ 2 * (l - l') + 2 → Q v H'
def spDeeds (K : PySem.W.Frag) (C : Addr) (m : Nat) : Sp := fun vs H Q _ => ∃ (p f : Addr) (dp l : Nat), vs = [.ref p, .ref f, .int (dp : Nat)] ∧ BagOk H p ∧ Lf H f l ∧ p ≠ f ∧ dp + m = 6 ∧ 1 ≤ m ∧ l ≤ 1000 ∧
  ∀ q r l' H', KC p f H H' → BagOk H' p → Lf H' f l' → l' ≤ l → RAt K C H' q r → deepR r + 1 ≤ m → manyR r ≤ 2 * (l - l') → Q (.ref q) H'
theorem name_at (d : Int) (h0 : 0 ≤ d) (h1 : d < 8) : ∃ a : Nat, atI [V.int 0, V.int 0, V.int 0, V.int 1, V.int 1, V.int 2, V.int 2, V.int 3] d = some (.int (a : Nat)) ∧ a < 10 := by
  obtain ⟨n, rfl⟩ := Int.eq_ofNat_of_zero_le h0
  match n, h1 with
  | 0, _ => exact ⟨0, rfl, by decide⟩
  | 1, _ => exact ⟨0, rfl, by decide⟩
  | 2, _ => exact ⟨0, rfl, by decide⟩
  | 3, _ => exact ⟨1, rfl, by decide⟩
  | 4, _ => exact ⟨1, rfl, by decide⟩
  | 5, _ => exact ⟨2, rfl, by decide⟩
  | 6, _ => exact ⟨2, rfl, by decide⟩
  | 7, _ => exact ⟨3, rfl, by decide⟩
  | n + 8, h => exact absurd h (by omega)
theorem kind_at (d : Int) (h0 : 0 ≤ d) (h1 : d < 6) : ∃ k : Str, atI [V.str "first", V.str "second", V.str "second", V.str "pair", V.str "pair", V.str "same"] d = some (.str k) ∧ ((∃ s, k = takeS s) ∨ ∃ s, k = twoS s) := by
  obtain ⟨n, rfl⟩ := Int.eq_ofNat_of_zero_le h0
  match n, h1 with
  | 0, _ => exact ⟨_, rfl, .inl ⟨false, rfl⟩⟩
  | 1, _ => exact ⟨_, rfl, .inl ⟨true, rfl⟩⟩
  | 2, _ => exact ⟨_, rfl, .inl ⟨true, rfl⟩⟩
  | 3, _ => exact ⟨_, rfl, .inr ⟨false, rfl⟩⟩
  | 4, _ => exact ⟨_, rfl, .inr ⟨false, rfl⟩⟩
  | 5, _ => exact ⟨_, rfl, .inr ⟨true, rfl⟩⟩
  | n + 6, h => exact absurd h (by omega)
theorem in_take (s : Bool) : inV (.str (takeS s)) [V.str "pair", V.str "same"] = false := by cases s <;> decide +kernel
theorem in_two (s : Bool) : inV (.str (twoS s)) [V.str "pair", V.str "same"] = true := by cases s <;> decide +kernel
theorem DsAt_snoc {K : PySem.W.Frag} {C : Addr} {H : Hp} {v : V} {d : Dd} (hd : DAt K C H v d) : ∀ (r : List Dd) (vs : List V), DsAt K C H vs r → DsAt K C H (vs ++ [v]) (r ++ [d])
  | [], vs, h => by
    have e : vs = [] := h
    subst e
    exact ⟨v, [], rfl, hd, rfl⟩
  | e :: r, vs, h => by
    obtain ⟨u, us, rfl, h1, h2⟩ := h
    exact ⟨u, us ++ [v], rfl, h1, DsAt_snoc hd r us h2⟩
theorem DsAt_app {K : PySem.W.Frag} {C : Addr} {H : Hp} : ∀ (r u : List Dd) (vs us : List V), DsAt K C H vs r → DsAt K C H us u → DsAt K C H (vs ++ us) (r ++ u)
  | [], u, vs, us, h, g => by
    have e : vs = [] := h
    subst e
    exact g
  | e :: r, u, vs, us, h, g => by
    obtain ⟨v, ws, rfl, h1, h2⟩ := h
    exact ⟨v, ws ++ us, rfl, h1, DsAt_app r u ws us h2 g⟩
theorem deepR_app : ∀ (a b : List Dd), deepR (a ++ b) = max (deepR a) (deepR b)
  | [], b => by rw [List.nil_append, deepR, Nat.max_eq_right (Nat.zero_le _)]
  | d :: a, b => by rw [List.cons_append, deepR, deepR_app a b, deepR, Nat.max_assoc]
theorem len_many : ∀ r : List Dd, r.length ≤ manyR r
  | [] => Nat.zero_le _
  | d :: r => by
    have := len_many r
    have := many_pos d
    rw [List.length_cons, many_cons]
    omega
theorem deepR_one (d : Dd) : deepR [d] = d.deep := by rw [deepR, deepR, Nat.max_eq_left (Nat.zero_le _)]
section
variable {P : Program} {w : World} {K : PySem.W.Frag} {mg : Str → Option Value} {base : Heap} {C : Addr}
theorem scNa : FnScope ["_law_bag_here"] ["_law_bag_here"] (defScope sName) := ⟨rfl, rfl, rfl, by decide +kernel, rfl, by decide +kernel, by decide +kernel⟩
theorem ok_name {f : Addr} {fd : FuncData} (F : Fun K "_law_name" "_law_name" sName f fd) (DTk : Def P w K mg base "_law_take" 1 ["_law_bag_here", "_law_many_here"] spTake) : FnOk P w K mg base CX0 2 f fd ["_law_bag_here"] spName := by
  refine F.ok scNa (fun vs H Q E h => ?_) (fun cdv A outer s H vs Q E hr h => ?_)
  · obtain ⟨p, rfl, _⟩ := h
    rfl
  · obtain ⟨p, rfl, hb, k⟩ := h
    have hr1 : Room 1 _ := hr
    refine ⟨_, pss_cons (ps_if (pt_cmpR op_eq (pe_def DTk hr1 rfl (pa_cons (pv 0) (pa_cons pe_int pa_nil))) pe_int (nomark _)) (pss_one (ps_ret (pe_def DTk hr1 rfl (pa_cons (pv 0) (pa_cons pe_int pa_nil))))) pss_nil) (pss_one (ps_ret (pe_ix (r := rIxL K) ix_list (pe_lst (pa_cons pe_int (pa_cons pe_int (pa_cons pe_int (pa_cons pe_int (pa_cons pe_int (pa_cons pe_int (pa_cons pe_int (pa_cons pe_int pa_nil))))))))) (pe_def DTk hr1 rfl (pa_cons (pv 0) (pa_cons pe_int pa_nil))) (fun _ _ => rfl)))), ?_⟩
    refine ⟨_, rfl, p, 12, rfl, hb, by decide, by decide, fun d H1 k1 b1 h0 h1 => ?_⟩
    refine ⟨rfl, _, rfl, ?_⟩
    by_cases hd : d = 0
    · rw [decide_eq_true (show V.int d = V.int 0 by rw [hd])]
      refine iteT ?_
      refine ⟨_, rfl, p, 10, rfl, b1, by decide, by decide, fun d2 H2 k2 b2 h20 h21 => ?_⟩
      obtain ⟨n, rfl⟩ := Int.eq_ofNat_of_zero_le h20
      exact k n H2 (k1.trans k2) b2 (by omega)
    · rw [decide_eq_false (show ¬ V.int d = V.int 0 from fun z => hd (V.int.inj z))]
      refine iteF ?_
      refine ⟨by show 8 ≤ sizeLine; decide, fun L nL => ?_⟩
      have hLp : L ≠ p := fun z => by
        obtain ⟨bx, hbx⟩ := b1.some
        rw [z, hbx] at nL
        cases nL
      have sL := Same.new nL (o := .lst [V.int 0, V.int 0, V.int 0, V.int 1, V.int 1, V.int 2, V.int 2, V.int 3])
      refine ⟨_, rfl, p, 8, rfl, b1.same sL, by decide, by decide, fun d2 H2 k2 b2 h20 h21 => ?_⟩
      obtain ⟨a, ha, ha10⟩ := name_at d2 h20 h21
      exact ⟨L, _, _, _, rfl, rfl, SqL.of (k2 _ _ hLp upd_same), ha, k a H2 ((k1.trans (KB.of sL)).trans k2) b2 ha10⟩
theorem scDe : FnScope ["_law_bag_here", "_law_left", "_law_deep", "_law_way", "_law_a", "_law_b", "_law_c", "_law_kind", "_law_inner"] ["_law_bag_here", "_law_left", "_law_deep"] (defScope sDeed) := ⟨rfl, rfl, rfl, by decide +kernel, rfl, by decide +kernel, by decide +kernel⟩
theorem ok_deed {f fs : Addr} {fd fds : FuncData} {m : Nat} (F : Fun K "_law_deed" "_law_deed" sDeed f fd) (B : Blt mg) (DTk : Def P w K mg base "_law_take" 1 ["_law_bag_here", "_law_many_here"] spTake) (DNm : Def P w K mg base "_law_name" 2 ["_law_bag_here"] spName) (DTh : Def P w K mg base "_law_thing" 4 ["_law_bag_here", "_law_many_here"] (spThing C))
    (Gs : FnOk P w K mg base CX0 (2 * m + 4) fs fds ["_law_bag_here", "_law_left", "_law_deep"] (spDeeds K C m)) (mgs : mg "_law_deeds" = some (.ref fs)) (ks : PySem.W.keepIn K (.ref fs) = true) (bs : Binds K fds ["_law_bag_here", "_law_left", "_law_deep"] []) : FnOk P w K mg base CX0 (2 * m + 5) f fd ["_law_bag_here", "_law_left", "_law_deep"] (spDeed K C m) := by
  refine F.ok scDe (fun vs H Q E h => ?_) (fun cdv A outer s H vs Q E hr h => ?_)
  · obtain ⟨p, f, dp, l, rfl, _⟩ := h
    rfl
  · obtain ⟨p, f, dp, l, rfl, hb, hl, hpf, hdm, hll, k⟩ := h
    have hr1 : Room 1 _ := hr.mono (by omega)
    have hr2 : Room 2 _ := hr.mono (by omega)
    have hr4 : Room 4 _ := hr.mono (by omega)
    refine ⟨_, pss_cons (ps_set (i := 3) scDe.nd rfl (Or.inl rfl) (pe_def DTk hr1 rfl (pa_cons (pv 0) (pa_cons pe_int pa_nil)))) (pss_cons (ps_par3 (i := 4) (j := 5) (l := 6) (by rfl) scDe.nd rfl rfl rfl (by decide) (by decide) (by decide) rfl rfl rfl (pa_cons (pe_def DNm hr2 rfl (pa_cons (pv 0) pa_nil)) (pa_cons (pe_def DNm hr2 rfl (pa_cons (pv 0) pa_nil)) (pa_cons (pe_def DNm hr2 rfl (pa_cons (pv 0) pa_nil)) pa_nil))) (by rfl)) (pss_cons (ps_if (pt_cmpR op_lt (pv 3) pe_int (nomark _)) (pss_one (ps_ret (pe_tup (pa_cons pe_str (pa_cons (pv 4) (pa_cons (pe_def DTh hr4 rfl (pa_cons (pv 0) (pa_cons (pe_def DTk hr1 rfl (pa_cons (pv 0) (pa_cons pe_int pa_nil))) pa_nil))) pa_nil)))))) pss_nil) (pss_cons (ps_if (PW.pt (pw_or (pt_cmpR op_lt (pv 3) pe_int (nomark _)) (pw_or1 (pt_cmpR op_gt (pv 2) pe_int (nomark _))))) (pss_cons (ps_set (i := 7) scDe.nd rfl (Or.inl rfl) (pe_ix (r := rIxL K) ix_list (pe_lst (pa_cons pe_str (pa_cons pe_str (pa_cons pe_str (pa_cons pe_str (pa_cons pe_str (pa_cons pe_str pa_nil))))))) (pe_op op_mod (pv 3) pe_int) (fun _ _ => rfl))) (pss_one (ps_ret (pe_slice sl_tupA (pe_tup (pa_cons (pv 7) (pa_cons (pv 4) (pa_cons (pv 5) (pa_cons (pv 6) pa_nil))))) po_none (po_some (pe_op op_add pe_int (pe_callTy call_int1 (by rfl) B.int PyProof.Rows.boot_int (pa_cons (pe_cmpR op_in_seq (pv 7) (pe_tup (pa_cons pe_str (pa_cons pe_str pa_nil))) rfl) pa_nil)))))))) pss_nil) (pss_cons (ps_set (i := 8) scDe.nd rfl (Or.inl rfl) (pe_call Gs hr rfl mgs ks bs .nil pass0 (pa_cons (pv 0) (pa_cons (pv 1) (pa_cons (pe_op op_add (pv 2) pe_int) pa_nil))))) (pss_cons (ps_if (pt_cmpR op_lt (pv 3) pe_int (nomark _)) (pss_cons (ps_if (pt_cmpR op_gt (pe_def DTk hr1 rfl (pa_cons (pv 0) (pa_cons pe_int pa_nil))) pe_int (nomark _)) (pss_one (ps_set (i := 8) scDe.nd rfl (Or.inl rfl) (pe_op op_catA (pv 8) (pe_tup (pa_cons (pe_tup (pa_cons pe_str (pa_cons (pv 4) (pa_cons (pv 4) pa_nil)))) pa_nil))))) pss_nil) (pss_one (ps_ret (pe_tup (pa_cons pe_str (pa_cons (pv 4) (pa_cons (pv 8) pa_nil))))))) pss_nil) (pss_one (ps_ret (pe_tup (pa_cons pe_str (pa_cons (pv 4) (pa_cons (pv 8) (pa_cons (pe_call Gs hr rfl mgs ks bs .nil pass0 (pa_cons (pv 0) (pa_cons (pv 1) (pa_cons (pe_op op_add (pv 2) pe_int) pa_nil)))) pa_nil)))))))))))), ?_⟩
    have hsl := line4
    refine ⟨_, rfl, p, 12, rfl, hb, by decide, by decide, fun wy H1 k1 b1 h0 h1 => ?_⟩
    refine ⟨_, rfl, p, rfl, b1, fun a H2 k2 b2 ha => ?_⟩
    refine ⟨_, rfl, p, rfl, b2, fun bb H3 k3 b3 hbb => ?_⟩
    refine ⟨_, rfl, p, rfl, b3, fun c H4 k4 b4 hc => ?_⟩
    refine ⟨_, _, _, rfl, ?_⟩
    have kb4 : KB p H H4 := ((k1.trans k2).trans k3).trans k4
    have l4 : Lf H4 f l := kb4 _ _ (Ne.symm hpf) hl
    refine ⟨_, rfl, _, _, rfl, rfl, _, rfl, ?_⟩
    by_cases w2 : wy < 2
    · rw [decide_eq_true w2]
      refine iteT ?_
      refine ⟨_, rfl, _, rfl, _, rfl, p, 4, rfl, b4, by decide, by decide, fun tz H5 k5 b5 t0 t1 => ?_⟩
      obtain ⟨n, rfl⟩ := Int.eq_ofNat_of_zero_le t0
      refine ⟨p, n, rfl, b5, by omega, fun x t H6 k6 b6 hx hxs => ?_⟩
      refine ⟨by show 3 ≤ sizeLine; decide, fun T nT => ?_⟩
      have sT := Same.new nT (o := .tup [.str "told", .int (a : Nat), .ref x])
      have kb6 : KB p H4 H6 := k5.trans k6
      refine k (.ref T) (.told a t) l _ ((KC.kb (kb4.trans kb6)).trans (KC.of sT)) (b6.same sT) (sT _ _ (kb6 _ _ (Ne.symm hpf) l4)) (Nat.le_refl _) ⟨T, x, rfl, SqT.of upd_same, ha, hx.same sT, by omega⟩ (Nat.zero_le _) (by rw [many_told]; omega)
    · rw [decide_eq_false w2]
      refine iteF ?_
      refine ⟨_, rfl, _, _, rfl, rfl, _, rfl, ?_⟩
      by_cases w8 : wy < 8
      · rw [decide_eq_true w8]
        refine iteT (iteT ?_)
        obtain ⟨kk, hkk, hk2⟩ := kind_at (wy % 6) (by omega) (by omega)
        refine ⟨by show 6 ≤ sizeLine; decide, fun L nL => ?_⟩
        have sL := Same.new nL (o := .lst [V.str "first", V.str "second", V.str "second", V.str "pair", V.str "pair", V.str "same"])
        refine ⟨_, rfl, _, _, rfl, rfl, (show (0 : Int) < 6 by decide), L, _, _, _, rfl, rfl, SqL.of upd_same, hkk, ?_⟩
        revert sL
        generalize upd H4 L (.lst [V.str "first", V.str "second", V.str "second", V.str "pair", V.str "pair", V.str "same"]) = H5
        intro sL
        refine ⟨_, rfl, _, rfl, _, rfl, _, rfl, by show 4 ≤ sizeLine; decide, fun T nT => ?_⟩
        have sT := Same.new nT (o := .tup [.str kk, .int (a : Nat), .int (bb : Nat), .int (c : Nat)])
        have hT : (upd H5 T (.tup [.str kk, .int (a : Nat), .int (bb : Nat), .int (c : Nat)])) T = some (.tup [.str kk, .int (a : Nat), .int (bb : Nat), .int (c : Nat)]) := upd_same
        revert sT hT
        generalize upd H5 T (.tup [.str kk, .int (a : Nat), .int (bb : Nat), .int (c : Nat)]) = H6
        intro sT hT
        refine ⟨_, rfl, by show 2 ≤ sizeLine; decide, fun U nU => ?_⟩
        have sU := Same.new nU (o := .tup [V.str "pair", V.str "same"])
        refine ⟨U, _, rfl, .inr (SqT.of upd_same), rfl, rfl, .inr ⟨_, rfl, _, _, rfl, rfl, _, rfl, T, _, rfl, SqT.of (sU _ _ hT), ?_⟩⟩
        have s47 := (sL.trans sT).trans sU
        have kc7 : KC p f H (upd H6 U (.tup [V.str "pair", V.str "same"])) := (KC.kb kb4).trans (KC.of s47)
        have l7 := s47 _ _ l4
        have b7 := b4.same s47
        rcases hk2 with ⟨s, rfl⟩ | ⟨s, rfl⟩
        · rw [show (if false = true then !inV (.str (takeS s)) [V.str "pair", V.str "same"] else inV (.str (takeS s)) [V.str "pair", V.str "same"]) = false from in_take s]
          refine ⟨fun ⟨_, h2⟩ => absurd h2 (show ¬ ((3 : Nat) = 4) by decide), fun _ z nz => ?_⟩
          have sz := Same.new nz (o := .tup [.str (takeS s), .int (a : Nat), .int (bb : Nat)])
          exact k (.ref z) (.take s a bb) l _ (kc7.trans (KC.of sz)) (b7.same sz) (sz _ _ l7) (Nat.le_refl _) ⟨z, rfl, SqT.of upd_same, ha, hbb⟩ (Nat.zero_le _) (by rw [many_take]; omega)
        · rw [show (if false = true then !inV (.str (twoS s)) [V.str "pair", V.str "same"] else inV (.str (twoS s)) [V.str "pair", V.str "same"]) = true from in_two s]
          refine ⟨fun _ => ?_, fun hn => absurd ⟨rfl, rfl⟩ hn⟩
          exact k (.ref T) (.two s a bb c) l _ kc7 b7 l7 (Nat.le_refl _) ⟨T, rfl, SqT.of (sU _ _ hT), ha, hbb, hc⟩ (Nat.zero_le _) (by rw [many_two]; omega)
      · rw [decide_eq_false w8]
        refine iteF ?_
        refine ⟨_, rfl, _, _, rfl, rfl, _, rfl, ?_⟩
        by_cases w4 : 4 < dp
        · rw [decide_eq_true (show (4 : Int) < ((dp : Nat) : Int) by omega)]
          refine iteT ?_
          obtain ⟨kk, hkk, hk2⟩ := kind_at (wy % 6) (by omega) (by omega)
          refine ⟨by show 6 ≤ sizeLine; decide, fun L nL => ?_⟩
          have sL := Same.new nL (o := .lst [V.str "first", V.str "second", V.str "second", V.str "pair", V.str "pair", V.str "same"])
          refine ⟨_, rfl, _, _, rfl, rfl, (show (0 : Int) < 6 by decide), L, _, _, _, rfl, rfl, SqL.of upd_same, hkk, ?_⟩
          revert sL
          generalize upd H4 L (.lst [V.str "first", V.str "second", V.str "second", V.str "pair", V.str "pair", V.str "same"]) = H5
          intro sL
          refine ⟨_, rfl, _, rfl, _, rfl, _, rfl, by show 4 ≤ sizeLine; decide, fun T nT => ?_⟩
          have sT := Same.new nT (o := .tup [.str kk, .int (a : Nat), .int (bb : Nat), .int (c : Nat)])
          have hT : (upd H5 T (.tup [.str kk, .int (a : Nat), .int (bb : Nat), .int (c : Nat)])) T = some (.tup [.str kk, .int (a : Nat), .int (bb : Nat), .int (c : Nat)]) := upd_same
          revert sT hT
          generalize upd H5 T (.tup [.str kk, .int (a : Nat), .int (bb : Nat), .int (c : Nat)]) = H6
          intro sT hT
          refine ⟨_, rfl, by show 2 ≤ sizeLine; decide, fun U nU => ?_⟩
          have sU := Same.new nU (o := .tup [V.str "pair", V.str "same"])
          refine ⟨U, _, rfl, .inr (SqT.of upd_same), rfl, rfl, .inr ⟨_, rfl, _, _, rfl, rfl, _, rfl, T, _, rfl, SqT.of (sU _ _ hT), ?_⟩⟩
          have s47 := (sL.trans sT).trans sU
          have kc7 : KC p f H (upd H6 U (.tup [V.str "pair", V.str "same"])) := (KC.kb kb4).trans (KC.of s47)
          have l7 := s47 _ _ l4
          have b7 := b4.same s47
          rcases hk2 with ⟨s, rfl⟩ | ⟨s, rfl⟩
          · rw [show (if false = true then !inV (.str (takeS s)) [V.str "pair", V.str "same"] else inV (.str (takeS s)) [V.str "pair", V.str "same"]) = false from in_take s]
            refine ⟨fun ⟨_, h2⟩ => absurd h2 (show ¬ ((3 : Nat) = 4) by decide), fun _ z nz => ?_⟩
            have sz := Same.new nz (o := .tup [.str (takeS s), .int (a : Nat), .int (bb : Nat)])
            exact k (.ref z) (.take s a bb) l _ (kc7.trans (KC.of sz)) (b7.same sz) (sz _ _ l7) (Nat.le_refl _) ⟨z, rfl, SqT.of upd_same, ha, hbb⟩ (Nat.zero_le _) (by rw [many_take]; omega)
          · rw [show (if false = true then !inV (.str (twoS s)) [V.str "pair", V.str "same"] else inV (.str (twoS s)) [V.str "pair", V.str "same"]) = true from in_two s]
            refine ⟨fun _ => ?_, fun hn => absurd ⟨rfl, rfl⟩ hn⟩
            exact k (.ref T) (.two s a bb c) l _ kc7 b7 l7 (Nat.le_refl _) ⟨T, rfl, SqT.of (sU _ _ hT), ha, hbb, hc⟩ (Nat.zero_le _) (by rw [many_two]; omega)
        · rw [decide_eq_false (show ¬ (4 : Int) < ((dp : Nat) : Int) by omega)]
          refine iteF ?_
          refine ⟨_, rfl, _, rfl, _, rfl, _, _, rfl, rfl, p, f, dp + 1, l, rfl, b4, l4, hpf, by omega, by omega, hll, fun q r l1 H5 kc5 b5 lf5 hl5 hr5 hd5 hm5 => ?_⟩
          have kc45 : KC p f H H5 := (KC.kb kb4).trans kc5
          refine ⟨_, rfl, _, _, rfl, rfl, _, rfl, ?_⟩
          by_cases w10 : wy < 10
          · rw [decide_eq_true w10]
            refine iteT ?_
            refine ⟨_, rfl, p, 5, rfl, b5, by decide, by decide, fun d5 H6 k6 b6 d50 d51 => ?_⟩
            refine ⟨_, _, rfl, rfl, _, rfl, ?_⟩
            obtain ⟨bx, hbx⟩ := b5.some
            have hr6 : RAt K C H6 q r := hr5.kt (k6.kt hbx)
            have lf6 : Lf H6 f l1 := k6 _ _ (Ne.symm hpf) lf5
            have kc6 : KC p f H H6 := kc45.trans (KC.kb k6)
            by_cases h5 : 0 < d5
            · rw [decide_eq_true h5]
              refine iteT ?_
              obtain ⟨vs, hq, hvs⟩ := hr6
              refine ⟨_, rfl, _, rfl, _, rfl, by show 3 ≤ sizeLine; decide, fun T1 n1 => ?_⟩
              have s7 := Same.new n1 (o := .tup [V.str "second", .int (a : Nat), .int (a : Nat)])
              have hT1 : (upd H6 T1 (.tup [V.str "second", .int (a : Nat), .int (a : Nat)])) T1 = some (.tup [V.str "second", .int (a : Nat), .int (a : Nat)]) := upd_same
              revert s7 hT1
              generalize upd H6 T1 (.tup [V.str "second", .int (a : Nat), .int (a : Nat)]) = H7
              intro s7 hT1
              refine ⟨by show 1 ≤ sizeLine; decide, fun T2 n2 => ?_⟩
              have s8 := Same.new n2 (o := .tup [V.ref T1])
              have hT2 : (upd H7 T2 (.tup [V.ref T1])) T2 = some (.tup [V.ref T1]) := upd_same
              revert s8 hT2
              generalize upd H7 T2 (.tup [V.ref T1]) = H8
              intro s8 hT2
              have s68 := s7.trans s8
              have dsec : DAt K C H8 (.ref T1) (.take true a a) := ⟨T1, rfl, SqT.of (s8 _ _ hT1), ha, ha⟩
              have hvs8 := DsAt_kt (KT.of s68) r vs hvs
              have hq8 := sqt_kt (KT.of s68) hq
              have lr := len_many r
              have lv := DsAt.length r vs hvs
              have cont : ∀ (q2 : Addr) (H9 : Hp), Same H8 H9 → RAt K C H9 q2 (r ++ [.take true a a]) → (tRet (tTup (tCons (tC (.str "while")) (tCons (tVar 4) (tCons (tVar 8) tNil)))) { nx := fun _ H' => Q .non H', rt := Q } [some (.ref p), some (.ref f), some (.int (dp : Nat)), some (.int wy), some (.int (a : Nat)), some (.int (bb : Nat)), some (.int (c : Nat)), none, some (.ref q2)] H9) := by
                intro q2 H9 s9 hr9
                refine ⟨_, rfl, _, rfl, by show 3 ≤ sizeLine; decide, fun T3 n3 => ?_⟩
                have sT := Same.new n3 (o := .tup [V.str "while", .int (a : Nat), .ref q2])
                have s69 := (s68.trans s9).trans sT
                obtain ⟨vs9, h91, h92⟩ := hr9.same sT
                refine k (.ref T3) (.wh a (r ++ [.take true a a])) l1 _ (kc6.trans (KC.of s69)) (b6.same s69) (s69 _ _ lf6) hl5 ⟨T3, q2, vs9, rfl, SqT.of upd_same, ha, h91, h92⟩ ?_ ?_
                · rw [Dd.deep, deepR_app, deepR_one]
                  have : max (deepR r) (Dd.take true a a).deep = deepR r := Nat.max_eq_left (Nat.zero_le _)
                  omega
                · rw [many_wh, manyR_app, manyR_one, many_take]
                  omega
              refine ⟨q, T2, vs, _, rfl, rfl, hq8, SqT.of hT2, by simp only [List.length_cons, List.length_nil]; omega, fun e0 => ?_, fun _ e1 => (by cases e1), fun _ _ U nU => ?_⟩
              · subst e0
                have er : r = [] := List.length_eq_zero_iff.mp lv.symm
                refine cont T2 H8 (Same.refl H8) ?_
                rw [er]
                exact ⟨_, SqT.of hT2, _, _, rfl, dsec, rfl⟩
              · have sU := Same.new nU (o := .tup (vs ++ [V.ref T1]))
                exact cont U _ sU ⟨_, SqT.of upd_same, DsAt_snoc (DAt_kt (KT.of sU) _ _ dsec) r vs (DsAt_kt (KT.of sU) r vs hvs8)⟩
            · rw [decide_eq_false h5]
              refine iteF ?_
              refine ⟨_, rfl, _, rfl, by show 3 ≤ sizeLine; decide, fun T3 n3 => ?_⟩
              have sT := Same.new n3 (o := .tup [V.str "while", .int (a : Nat), .ref q])
              obtain ⟨vs9, h91, h92⟩ := hr6.same sT
              refine k (.ref T3) (.wh a r) l1 _ (kc6.trans (KC.of sT)) (b6.same sT) (sT _ _ lf6) hl5 ⟨T3, q, vs9, rfl, SqT.of upd_same, ha, h91, h92⟩ (by rw [Dd.deep]; omega) (by rw [many_wh]; omega)
          · rw [decide_eq_false w10]
            refine iteF ?_
            refine ⟨_, rfl, _, rfl, _, rfl, _, rfl, _, rfl, _, _, rfl, rfl, p, f, dp + 1, l1, rfl, b5, lf5, hpf, by omega, by omega, by omega, fun q2 r2 l2 H6 kc6 b6 lf6 hl6 hr6 hd6 hm6 => ?_⟩
            refine ⟨by show 4 ≤ sizeLine; decide, fun T3 n3 => ?_⟩
            have sT := Same.new n3 (o := .tup [V.str "if", .int (a : Nat), .ref q, .ref q2])
            obtain ⟨bx, hbx⟩ := b5.some
            obtain ⟨vs9, h91, h92⟩ := (hr5.kt (kc6.kt hbx lf5)).same sT
            obtain ⟨vs8, h81, h82⟩ := hr6.same sT
            refine k (.ref T3) (.iff a r r2) l2 _ ((kc45.trans kc6).trans (KC.of sT)) (b6.same sT) (sT _ _ lf6) (Nat.le_trans hl6 hl5) ⟨T3, q, vs9, q2, vs8, rfl, SqT.of upd_same, ha, h91, h92, h81, h82⟩ ?_ ?_
            · rw [Dd.deep]
              have : max (deepR r) (deepR r2) ≤ m - 1 := Nat.max_le.mpr ⟨by omega, by omega⟩
              omega
            · rw [many_iff]
              omega
theorem scDs : FnScope ["_law_bag_here", "_law_left", "_law_deep", "_law_found", "_law_turn"] ["_law_bag_here", "_law_left", "_law_deep"] (defScope sDeeds) := ⟨rfl, rfl, rfl, by decide +kernel, rfl, by decide +kernel, by decide +kernel⟩
theorem ok_deedsS {f fe : Addr} {fd fde : FuncData} {m : Nat} (F : Fun K "_law_deeds" "_law_deeds" sDeeds f fd) (B : Blt mg) (G : FrmC K w mg) (DTk : Def P w K mg base "_law_take" 1 ["_law_bag_here", "_law_many_here"] spTake)
    (Gd : FnOk P w K mg base CX0 (2 * m + 5) fe fde ["_law_bag_here", "_law_left", "_law_deep"] (spDeed K C m)) (mgd : mg "_law_deed" = some (.ref fe)) (kd : PySem.W.keepIn K (.ref fe) = true) (bd : Binds K fde ["_law_bag_here", "_law_left", "_law_deep"] []) : FnOk P w K mg base CX0 (2 * m + 6) f fd ["_law_bag_here", "_law_left", "_law_deep"] (spDeeds K C (m + 1)) := by
  refine F.ok scDs (fun vs H Q E h => ?_) (fun cdv A outer s H vs Q E hr h => ?_)
  · obtain ⟨p, f, dp, l, rfl, _⟩ := h
    rfl
  · obtain ⟨p, f, dp, l, rfl, hb, hl, hpf, hdm, _, hll, k⟩ := h
    have hr1 : Room 1 _ := hr.mono (by omega)
    refine ⟨_, pss_cons (ps_set (i := 3) scDs.nd rfl (Or.inl rfl) (pe_lst pa_nil)) (pss_cons (ps_for PassesOwn.never rfl (pi_range1 rfl B.range (pa_cons (pe_def DTk hr1 rfl (pa_cons (pv 0) (pa_cons pe_int pa_nil))) pa_nil)) (pg_name (i := 4) scDs.nd rfl (Or.inl rfl)) (pss_one (ps_if (pt_cmpR op_gt (pe_ix (r := rIxL K) ix_list (pv 1) pe_int (fun _ _ => rfl)) pe_int (nomark _)) (pss_cons (ps_asg (pe_op op_sub (pe_ix (r := rIxL K) ix_list (pv 1) pe_int (fun _ _ => rfl)) pe_int) (pg_sub (pv 1) pe_int set_list)) (pss_one (ps_expr (pe_bm PySem.F.plainAttrs_list PySem.F.slot_list_append PySem.F.type_list_append mt_append (pv 3) (pa_cons (pe_call Gd hr rfl mgd kd bd .nil pass0 (pa_cons (pv 0) (pa_cons (pv 1) (pa_cons (pv 2) pa_nil)))) pa_nil))))) pss_nil))) (pss_one (ps_ret (pe_callTy call_tuple_of (by rfl) G.mt PyProof.Rows.boot_tuple (pa_cons (pv 3) pa_nil))))), ?_⟩
    have hsl := line4
    refine ⟨Nat.zero_le _, fun fl nfl => ?_⟩
    have s1 : Same H (upd H fl (.lst [])) := Same.new nfl
    have hfl1 : (upd H fl (.lst [])) fl = some (.lst []) := upd_same
    have hflp : fl ≠ p := fun z => by
      obtain ⟨bx, hbx⟩ := hb.some
      rw [z, hbx] at nfl
      cases nfl
    have hflf : fl ≠ f := fun z => by
      rw [z] at nfl
      have := nfl.symm.trans hl
      cases this
    revert s1 hfl1
    generalize upd H fl (.lst []) = H1
    intro s1 hfl1
    refine ⟨_, rfl, p, 6, rfl, hb.same s1, by decide, by decide, fun n6 H2 k2 b2 n0 n1 => ?_⟩
    have kc2 : KC p f H H2 := (KC.of s1).trans (KC.kb k2)
    refine ⟨n6, rfl, by omega, by omega, for_range (n := n6.toNat) (fun i σ H' => ∃ (x4 : Option V) (us : List V) (r : List Dd) (l' : Nat), σ = [some (.ref p), some (.ref f), some (.int (dp : Nat)), some (.ref fl), x4] ∧ KC p f H H' ∧ BagOk H' p ∧ Lf H' f l' ∧ l' ≤ l ∧ H' fl = some (.lst us) ∧ DsAt K C H' us r ∧ deepR r ≤ m ∧ manyR r ≤ 2 * (l - l') ∧ r.length ≤ i)
      ⟨none, [], [], l, rfl, kc2, b2, k2 _ _ (Ne.symm hpf) (s1 _ _ hl), Nat.le_refl _, k2 _ _ hflp hfl1, rfl, Nat.zero_le _, by rw [many_nil]; omega, Nat.le_refl _⟩ ?_ ?_⟩
    · rintro i σ H3 hi ⟨x4, us, r, l1, rfl, kc3, b3, lf3, hl3, hfl3, hus, hdr, hmr, hri⟩
      refine ⟨_, rfl, f, _, _, _, rfl, rfl, SqL.of lf3, at0 _ _, _, _, rfl, rfl, _, rfl, ?_⟩
      by_cases h1 : 0 < l1
      · rw [decide_eq_true (show (0 : Int) < ((l1 : Nat) : Int) by omega)]
        refine iteT ?_
        refine ⟨_, rfl, f, _, _, _, rfl, rfl, SqL.of lf3, at0 _ _, _, _, rfl, rfl, _, rfl, f, _, _, 0, rfl, rfl, lf3, rfl, ?_⟩
        have e4 : [V.int ((l1 : Nat) : Int)].set 0 (V.int (((l1 : Nat) : Int) - 1)) = [V.int (((l1 - 1 : Nat)) : Int)] := by
          rw [show (((l1 - 1 : Nat)) : Int) = ((l1 : Nat) : Int) - 1 by omega]
          rfl
        rw [e4]
        have lf4 : Lf (upd H3 f (.lst [V.int (((l1 - 1 : Nat)) : Int)])) f (l1 - 1) := upd_same
        have kc4 : KC p f H3 (upd H3 f (.lst [V.int (((l1 - 1 : Nat)) : Int)])) := KC.set
        obtain ⟨bx, hbx⟩ := b3.some
        have kt4 : KT H3 (upd H3 f (.lst [V.int (((l1 - 1 : Nat)) : Int)])) := kc4.kt hbx lf3
        have b4 : BagOk (upd H3 f (.lst [V.int (((l1 - 1 : Nat)) : Int)])) p := by
          obtain ⟨x0, x1', pr, x3', hx, rest⟩ := b3.ex
          exact ⟨⟨x0, x1', pr, x3', by rw [upd_ne hpf]; exact hx, rest⟩⟩
        have hfl4 : (upd H3 f (.lst [V.int (((l1 - 1 : Nat)) : Int)])) fl = some (.lst us) := by rw [upd_ne hflf]; exact hfl3
        revert lf4 kc4 kt4 b4 hfl4
        generalize upd H3 f (.lst [V.int (((l1 - 1 : Nat)) : Int)]) = H4
        intro lf4 kc4 kt4 b4 hfl4
        refine ⟨_, rfl, .inl ⟨rfl, _, SqL.of hfl4⟩, _, rfl, _, rfl, _, rfl, p, f, dp, l1 - 1, rfl, b4, lf4, hpf, by omega, by omega, fun v d l2 H5 kc5 b5 lf5 hl5 hdv hdd hdm2 => ?_⟩
        have hfl5 := kc5 _ _ hflp hflf hfl4
        have lus := DsAt.length r us hus
        refine ⟨fl, _, _, rfl, rfl, hfl5, by omega, ?_⟩
        obtain ⟨by_, hby⟩ := b4.some
        have kt5 : KT H4 H5 := kc5.kt hby lf4
        have kt6 : KT H5 (upd H5 fl (.lst (us ++ [v]))) := KT.lst hfl5
        refine ⟨_, us ++ [v], r ++ [d], l2, rfl, fun a o na nf ha => ?_, ?_, ?_, by omega, upd_same, DsAt_snoc (DAt_kt kt6 d v hdv) r us (DsAt_kt kt6 r us (DsAt_kt kt5 r us (DsAt_kt kt4 r us hus))), ?_, ?_, by rw [List.length_append]; simp only [List.length_cons, List.length_nil]; omega⟩
        · rw [upd_ne (ne_of_none ha nfl)]
          exact kc5 _ _ na nf (kc4 _ _ na nf (kc3 _ _ na nf ha))
        · obtain ⟨x0, x1', pr, x3', hx, rest⟩ := b5.ex
          exact ⟨⟨x0, x1', pr, x3', by rw [upd_ne (Ne.symm hflp)]; exact hx, rest⟩⟩
        · show (upd H5 fl (.lst (us ++ [v]))) f = _
          rw [upd_ne (Ne.symm hflf)]
          exact lf5
        · rw [deepR_app, deepR_one]
          exact Nat.max_le.mpr ⟨hdr, hdd⟩
        · rw [manyR_app, manyR_one]
          omega
      · rw [decide_eq_false (show ¬ (0 : Int) < ((l1 : Nat) : Int) by omega)]
        refine iteF ?_
        exact ⟨_, us, r, l1, rfl, kc3, b3, lf3, hl3, hfl3, hus, hdr, hmr, by omega⟩
    · rintro σ H3 ⟨x4, us, r, l1, rfl, kc3, b3, lf3, hl3, hfl3, hus, hdr, hmr, hri⟩
      refine ⟨_, rfl, fl, _, rfl, .inl ⟨SqL.of hfl3, fun q nq => ?_⟩⟩
      have sq := Same.new nq (o := .tup us)
      exact k q r l1 _ (kc3.trans (KC.of sq)) (b3.same sq) (sq _ _ lf3) hl3 ⟨us, SqT.of upd_same, DsAt_kt (KT.of sq) r us hus⟩ (by omega) hmr
theorem ok_deeds0 {f : Addr} {fd : FuncData} (F : Fun K "_law_deeds" "_law_deeds" sDeeds f fd) : FnOk P w K mg base CX0 4 f fd ["_law_bag_here", "_law_left", "_law_deep"] (spDeeds K C 0) := by
  refine F.ok scDs (fun vs H Q E h => ?_) (fun cdv A outer s H vs Q E hr h => ?_)
  · obtain ⟨p, f, dp, l, rfl, _⟩ := h
    rfl
  · obtain ⟨p, f, dp, l, _, _, _, _, _, h, _⟩ := h
    exact absurd h (Nat.not_succ_le_zero _)
theorem ok_deeds {f fe : Addr} {fd fde : FuncData} (F : Fun K "_law_deeds" "_law_deeds" sDeeds f fd) (Fe : Fun K "_law_deed" "_law_deed" sDeed fe fde) (B : Blt mg) (G : FrmC K w mg) (DTk : Def P w K mg base "_law_take" 1 ["_law_bag_here", "_law_many_here"] spTake) (DNm : Def P w K mg base "_law_name" 2 ["_law_bag_here"] spName) (DTh : Def P w K mg base "_law_thing" 4 ["_law_bag_here", "_law_many_here"] (spThing C))
    (mgf : mg "_law_deeds" = some (.ref f)) (bf : Binds K fd ["_law_bag_here", "_law_left", "_law_deep"] []) (mge : mg "_law_deed" = some (.ref fe)) (be : Binds K fde ["_law_bag_here", "_law_left", "_law_deep"] []) : ∀ m, FnOk P w K mg base CX0 (2 * m + 4) f fd ["_law_bag_here", "_law_left", "_law_deep"] (spDeeds K C m)
  | 0 => ok_deeds0 F
  | m + 1 => ok_deedsS F B G DTk (ok_deed Fe B DTk DNm DTh (ok_deeds F Fe B G DTk DNm DTh mgf bf mge be m) mgf F.kp bf) mge Fe.kp be
def spTop (K : PySem.W.Frag) (C : Addr) : Sp := fun vs H Q _ => ∃ (p : Addr) (n : Nat), vs = [.ref p, .int (n : Nat)] ∧ BagOk H p ∧ n ≤ 1000 ∧ ∀ q r H', KB p H H' → BagOk H' p → RAt K C H' q r → deepR r ≤ 4 → manyR r ≤ 2 * n → Q (.ref q) H'
theorem scTo : FnScope ["_law_bag_here", "_law_many_here", "_law_left"] ["_law_bag_here", "_law_many_here"] (defScope sTop) := ⟨rfl, rfl, rfl, by decide +kernel, rfl, by decide +kernel, by decide +kernel⟩
theorem ok_top {f : Addr} {fd : FuncData} (F : Fun K "_law_top" "_law_top" sTop f fd) (DDs : Def P w K mg base "_law_deeds" 14 ["_law_bag_here", "_law_left", "_law_deep"] (spDeeds K C 5)) : FnOk P w K mg base CX0 15 f fd ["_law_bag_here", "_law_many_here"] (spTop K C) := by
  refine F.ok scTo (fun vs H Q E h => ?_) (fun cdv A outer s H vs Q E hr h => ?_)
  · obtain ⟨p, n, rfl, _⟩ := h
    rfl
  · obtain ⟨p, n, rfl, hb, hn, k⟩ := h
    refine ⟨_, pss_cons (ps_set (i := 2) scTo.nd rfl (Or.inl rfl) (pe_lst (pa_cons (pv 1) pa_nil))) (pss_one (ps_ret (pe_op op_catA (pe_def (k := 14) DDs hr rfl (pa_cons (pv 0) (pa_cons (pv 2) (pa_cons pe_int pa_nil)))) (pe_def (k := 14) DDs hr rfl (pa_cons (pv 0) (pa_cons (pv 2) (pa_cons pe_int pa_nil))))))), ?_⟩
    have hsl := line4
    refine ⟨_, rfl, by show 1 ≤ sizeLine; decide, fun f nf => ?_⟩
    have hpf : p ≠ f := fun z => by
      obtain ⟨bx, hbx⟩ := hb.some
      rw [← z, hbx] at nf
      cases nf
    have s1 : Same H (upd H f (.lst [.int (n : Nat)])) := Same.new nf
    have l1 : Lf (upd H f (.lst [.int (n : Nat)])) f n := upd_same
    revert s1 l1
    generalize upd H f (.lst [.int (n : Nat)]) = H1
    intro s1 l1
    refine ⟨_, rfl, _, rfl, p, f, 1, n, rfl, hb.same s1, l1, hpf, rfl, by decide, hn, fun q r m1 H2 kc2 b2 l2 hl2 hr2 hd2 hm2 => ?_⟩
    refine ⟨_, rfl, _, rfl, p, f, 1, m1, rfl, b2, l2, hpf, rfl, by decide, by omega, fun q2 r2 m2 H3 kc3 b3 l3 hl3 hr3 hd3 hm3 => ?_⟩
    obtain ⟨bx, hbx⟩ := b2.some
    obtain ⟨vs, h1, h2⟩ := hr2.kt (kc3.kt hbx l2)
    obtain ⟨us, g1, g2⟩ := hr3
    have kb3 : KB p H H3 := fun a o na ha => kc3 _ _ na (ne_of_none ha nf) (kc2 _ _ na (ne_of_none ha nf) (s1 _ _ ha))
    have lv := DsAt.length r vs h2
    have lu := DsAt.length r2 us g2
    have lr := len_many r
    have lr2 := len_many r2
    have hdd : deepR (r ++ r2) ≤ 4 := by
      rw [deepR_app]
      exact Nat.max_le.mpr ⟨by omega, by omega⟩
    have hmm : manyR (r ++ r2) ≤ 2 * n := by
      rw [manyR_app]
      omega
    refine ⟨q, q2, vs, us, rfl, rfl, h1, g1, by omega, fun e0 => ?_, fun _ e1 => ?_, fun _ _ U nU => ?_⟩
    · subst e0
      have er : r = [] := List.length_eq_zero_iff.mp lv.symm
      subst er
      exact k q2 r2 H3 kb3 b3 ⟨us, g1, g2⟩ (by simpa using hdd) (by simpa using hmm)
    · subst e1
      have er : r2 = [] := List.length_eq_zero_iff.mp lu.symm
      subst er
      exact k q r H3 kb3 b3 ⟨vs, h1, h2⟩ (by simpa using hdd) (by simpa using hmm)
    · have sU := Same.new nU (o := .tup (vs ++ us))
      exact k U (r ++ r2) _ (kb3.trans (KB.of sU)) (b3.same sU) ⟨_, SqT.of upd_same, DsAt_app r r2 vs us (DsAt_kt (KT.of sU) r vs h2) (DsAt_kt (KT.of sU) r2 us g2)⟩ hdd hmm
end
end Js
set_option Elab.async false
set_option linter.all false
set_option maxRecDepth 100000
set_option maxHeartbeats 2000000
namespace Js
open PySem L2
open PySem PySem.Spec PyProof.Rows L2
abbrev sBe7 : Stmt := top 45
def partsP : Dd → List Pv
  | .told a t => [.str "told", .int (a : Nat), .th t]
  | .take s a b => [.str (takeS s), .int (a : Nat), .int (b : Nat)]
  | .two s a b c => [.str (twoS s), .int (a : Nat), .int (b : Nat), .int (c : Nat)]
  | .wh a r => [.str "while", .int (a : Nat), .tup (rPv r)]
  | .iff a r o => [.str "if", .int (a : Nat), .tup (rPv r), .tup (rPv o)]
theorem ddPv_parts (d : Dd) : ddPv d = .tup (partsP d) := by cases d <;> rw [ddPv, partsP]
theorem parts_len (d : Dd) : 3 ≤ (partsP d).length ∧ (partsP d).length ≤ 4 := by
  cases d with
  | two s a b c => exact ⟨by show 3 ≤ 4; decide, by show 4 ≤ 4; decide⟩
  | iff a b c => exact ⟨by show 3 ≤ 4; decide, by show 4 ≤ 4; decide⟩
  | told a t => exact ⟨by show 3 ≤ 3; decide, by show 3 ≤ 4; decide⟩
  | take a t c => exact ⟨by show 3 ≤ 3; decide, by show 3 ≤ 4; decide⟩
  | wh a t => exact ⟨by show 3 ≤ 3; decide, by show 3 ≤ 4; decide⟩
theorem kix_kind (d : Dd) : ∃ k, kix (kindOf d) = some k := by
  cases d with
  | told a t => exact ⟨_, kix0⟩
  | take s a b => cases s; exact ⟨_, kix1⟩; exact ⟨_, kix2⟩
  | two s a b c => cases s; exact ⟨_, kix3⟩; exact ⟨_, kix4⟩
  | wh a r => exact ⟨_, kix5⟩
  | iff a r o => exact ⟨_, kix6⟩
theorem ok_parts {W : Str → Prop} (d : Dd) : OksP W (partsP d) := by
  have := okP_dd (W := W) d
  rw [ddPv_parts, OkP] at this
  exact this
theorem pvs_rev {K : PySem.W.Frag} {C CP : Addr} {F : List Addr} {H : Hp} {a b c : Pv} {x y z : V} (h1 : PvAt K C CP F H a x) (h2 : PvAt K C CP F H b y) (h3 : PvAt K C CP F H c z) : PvsAt K C CP F H [a, b, c] [x, y, z] := .cons h1 (.cons h2 (.cons h3 .nil))
theorem parts_at {K : PySem.W.Frag} {C CP : Addr} {F : List Addr} {H : Hp} {v : V} : ∀ (d : Dd), DAt K C H v d → ∃ (p : Addr) (y : V) (its : List V), v = .ref p ∧ SqT K H p (.str (kindOf d) :: y :: its) ∧ PvsAt K C CP F H (partsP d) (.str (kindOf d) :: y :: its) ∧ (d.rows ≠ [] → RowsAt K C H its d.rows)
  | .told a t, h => by
    obtain ⟨q, x, e, h1, h2, h3, h4⟩ := h
    exact ⟨q, _, _, e, h1, pvs_rev (pvS _) (pvI _) (by rw [PvAt]; exact ⟨x, rfl, h3, h4⟩), fun z => absurd rfl z⟩
  | .take s a b, h => by
    obtain ⟨q, e, h1, h2, h3⟩ := h
    exact ⟨q, _, _, e, h1, pvs_rev (pvS _) (pvI _) (pvI _), fun z => absurd rfl z⟩
  | .two s a b c, h => by
    obtain ⟨q, e, h1, h2, h3, h4⟩ := h
    exact ⟨q, _, _, e, h1, .cons (pvS _) (pvs_rev (pvI _) (pvI _) (pvI _)), fun z => absurd rfl z⟩
  | .wh a r, h => by
    obtain ⟨q, q1, vs, e, h1, h2, h3, h4⟩ := h
    exact ⟨q, _, _, e, h1, pvs_rev (pvS _) (pvI _) (by rw [PvAt]; exact ⟨q1, vs, rfl, h3, DsAt_pv r vs h4⟩), fun _ => .cons ⟨q1, rfl, vs, h3, h4⟩ .nil⟩
  | .iff a r o, h => by
    obtain ⟨q, q1, vs, q2, vs2, e, h1, h2, h3, h4, h5, h6⟩ := h
    exact ⟨q, _, _, e, h1, .cons (pvS _) (pvs_rev (pvI _) (by rw [PvAt]; exact ⟨q1, vs, rfl, h3, DsAt_pv r vs h4⟩) (by rw [PvAt]; exact ⟨q2, vs2, rfl, h5, DsAt_pv o vs2 h6⟩)), fun _ => .cons ⟨q1, rfl, vs, h3, h4⟩ (.cons ⟨q2, rfl, vs2, h5, h6⟩ .nil)⟩
theorem atI_2i {x y v : V} {its : List V} {i : Nat} (h : its[i]? = some v) : atI (x :: y :: its) (2 + (i : Nat)) = some v := by
  have e : atI (x :: y :: its) (((i + 2 : Nat)) : Int) = some v := atI_nat (by simpa using h)
  rw [show (2 : Int) + (i : Nat) = ((i + 2 : Nat) : Int) by omega]
  exact e
def spBe7 (K : PySem.W.Frag) (C CP : Addr) (mg : Str → Option Value) (n : Nat) : Sp := fun vs H Q _ => ∃ (p T : Addr) (r : List Dd), vs = [.ref p, .ref T] ∧ BagOk H p ∧ RAt K C H T r ∧ r ≠ [] ∧ deepR r < n ∧ manyR r ≤ 1000 ∧ ∀ xs a H', KB p H H' → BagOk H' p → PvAt K C CP [p] H' (.tup xs) (.ref a) → OksP (WfP K mg) xs → xs.length = r.length → Q (.ref a) H'
theorem many_mem7 : ∀ (r : List Dd) (d : Dd), d ∈ r → d.many ≤ manyR r
  | x :: r, d, h => by
    rw [many_cons]
    rcases List.mem_cons.mp h with rfl | h
    · omega
    · have := many_mem7 r d h
      omega
theorem many_memL7 : ∀ (rs : List (List Dd)) (r : List Dd), r ∈ rs → manyR r ≤ manyL rs
  | x :: rs, r, h => by
    rw [manyL]
    rcases List.mem_cons.mp h with rfl | h
    · omega
    · have := many_memL7 rs r h
      omega
section
variable {P : Program} {w : World} {K : PySem.W.Frag} {mg : Str → Option Value} {base : Heap} {C CP : Addr}
theorem scBe7 : FnScope ["_law_bag_here", "_law_deeds_here", "_law_at", "_law_deed_here", "_law_place", "_law_inner", "_law_other"] ["_law_bag_here", "_law_deeds_here"] (defScope sBe7) := ⟨rfl, rfl, rfl, by decide +kernel, rfl, by decide +kernel, by decide +kernel⟩
theorem ok_be7 {f : Addr} {fd : FuncData} (F : Fun K "_law_bent" "_law_bent" sBe7 f fd) (mgf : mg "_law_bent" = some (.ref f)) (b : Binds K fd ["_law_bag_here", "_law_deeds_here"] []) (B : Blt mg) (DTk : Def P w K mg base "_law_take" 1 ["_law_bag_here", "_law_many_here"] spTake) (DOd : Def P w K mg base "_law_odd" 4 ["_law_bag_here", "_law_it"] (spOdd7 K C CP mg)) : ∀ n, FnOk P w K mg base CX0 (n + 5) f fd ["_law_bag_here", "_law_deeds_here"] (spBe7 K C CP mg n) := by
  intro n
  induction n with
  | zero =>
    refine F.ok scBe7 (fun vs H Q E h => ?_) (fun cdv A outer s H vs Q E hr h => ?_)
    · obtain ⟨p, T, r, rfl, _⟩ := h
      rfl
    · obtain ⟨p, T, r, _, _, _, _, h, _⟩ := h
      exact absurd h (Nat.not_lt_zero _)
  | succ n G' =>
  refine F.ok scBe7 (fun vs H Q E h => ?_) (fun cdv A outer s H vs Q E hr h => ?_)
  · obtain ⟨p, T, r, rfl, _⟩ := h
    rfl
  · obtain ⟨p, T, r, rfl, hbag, ⟨vs, hq, hvs⟩, hne, hdp, hmn, k⟩ := h
    have hr1 : Room 1 _ := hr.mono (by omega)
    have hr4 : Room 4 _ := hr.mono (by omega)
    refine ⟨_, pss_cons (ps_set (i := 2) scBe7.nd rfl (Or.inl rfl) (pe_def DTk hr1 rfl (pa_cons (pv 0) (pa_cons (pe_callB call_len_seq (by rfl) B.len PySem.boot_len (pa_cons (pv 1) pa_nil)) pa_nil)))) (pss_cons (ps_set (i := 3) scBe7.nd rfl (Or.inr rfl) (pe_ix (r := rIxT K) ix_tup (pv 1) (pv 2) (fun _ _ => rfl))) (pss_cons (ps_setLc (i := 5) (own := [("_law_place", 4)]) (g := gName 4)  rfl scBe7.nd rfl rfl (sw_true rfl rfl rfl (by decide +kernel)) (pi_range2 rfl B.range (pa_cons pe_int (pa_cons (pe_callB call_len_seq (by rfl) B.len PySem.boot_len (pa_cons (pv 3) pa_nil)) pa_nil))) (blkOk_by (N := ["_law_bag_here", "_law_deeds_here", "_law_at", "_law_deed_here", "_law_place", "_law_inner", "_law_other"]) (sc := defScope sBe7) (by decide +kernel)) (fun _ _ _ _ _ => (pg_name (i := 4) scBe7.nd rfl (Or.inl rfl))) (fun _ _ _ _ _ => (pts_one (PW.pt (pw_and (pt_cmpR (r := rIn K false) op_in_seq (pe_ix (r := rIxT K) ix_tup (pv 3) pe_int (fun _ _ => rfl)) (pe_tup (pa_cons pe_str (pa_cons pe_str pa_nil))) rfl) (pw_and1 (pt_cmpR (op_neTl (D := TTup K TFlat) (by exact (rcT_tup_ne (D := TFlat) (fun _ _ _ _ _ _ d => d) eqT_flat)) (by exact hr1)) (pe_ix (r := rIxT K) ix_tup (pv 3) (pv 4) (fun _ _ => rfl)) (pe_tup pa_nil) (nomark _))))))) (fun _ _ _ _ _ => (pv 4))) (pss_cons (ps_if (PW.pt (pw_and (pt_cmpR (op_neTl (rcT_list_ne (D := TFlat) (fun _ _ _ _ _ _ d => d) eqT_flat) hr1) (pv 5) (pe_lst pa_nil) (nomark _)) (pw_and1 (pt_cmpR op_gt (pe_def DTk hr1 rfl (pa_cons (pv 0) (pa_cons pe_int pa_nil))) pe_int (nomark _))))) (pss_cons (ps_set (i := 4) scBe7.nd rfl (Or.inl rfl) (pe_ix (r := rIxL K) ix_list (pv 5) (pe_def DTk hr1 rfl (pa_cons (pv 0) (pa_cons (pe_callB call_len_seq (by rfl) B.len PySem.boot_len (pa_cons (pv 5) pa_nil)) pa_nil))) (fun _ _ => rfl))) (pss_one (ps_set (i := 6) scBe7.nd rfl (Or.inl rfl) (pe_op (r := rCatS K) op_catS (pe_op (r := rCatS K) op_catS (pe_slice (r := rTkS K) sl_tkS (pv 3) po_none (po_some (pv 4))) (pe_tup (pa_cons (pe_call G' hr rfl mgf F.kp b .nil pass0 (pa_cons (pv 0) (pa_cons (pe_ix (r := rIxT K) ix_tup (pv 3) (pv 4) (fun _ _ => rfl)) pa_nil))) pa_nil))) (pe_slice (r := rDrS K) sl_drS (pv 3) (po_some (pe_op op_add (pv 4) pe_int)) po_none))))) (pss_one (ps_set (i := 6) scBe7.nd rfl (Or.inl rfl) (pe_def DOd hr4 rfl (pa_cons (pv 0) (pa_cons (pv 3) pa_nil)))))) (pss_one (ps_ret (pe_op (r := rCatS K) op_catS (pe_op (r := rCatS K) op_catS (pe_slice (r := rTkS K) sl_tkS (pv 1) po_none (po_some (pv 2))) (pe_tup (pa_cons (pv 6) pa_nil))) (pe_slice (r := rDrS K) sl_drS (pv 1) (po_some (pe_op op_add (pv 2) pe_int)) po_none))))))), ?_⟩
    have hsl := line4
    have hul := DsAt.length r vs hvs
    have hrl : r.length ≤ 1000 := Nat.le_trans (len_many r) hmn
    have hr0 : 0 < r.length := List.length_pos_iff.mpr hne
    refine ⟨_, rfl, _, rfl, T, vs, rfl, .inr hq, p, _, rfl, hbag, by omega, by omega, fun d1 H1 k1 b1 d10 d11 => ?_⟩
    obtain ⟨n0, rfl⟩ := Int.eq_ofNat_of_zero_le d10
    have hn : n0 < r.length := by omega
    obtain ⟨d, hd⟩ : ∃ d, r[n0]? = some d := ⟨_, List.getElem?_eq_getElem hn⟩
    obtain ⟨v, hv⟩ : ∃ v, vs[n0]? = some v := ⟨_, List.getElem?_eq_getElem (by omega)⟩
    have hdv : DAt K C H v d := by
      obtain ⟨d', h1, h2⟩ := DsAt.get r vs n0 v hvs hv
      rw [hd] at h1
      cases Option.some.inj h1
      exact h2
    have kt1 := hbag.kt k1
    have hq1 := sqt_kt kt1 hq
    have hvs1 := DsAt_kt kt1 r vs hvs
    have hdv1 := DAt_kt kt1 d v hdv
    have hdd := deepR_mem r d (List.mem_of_getElem? hd)
    have hdm := many_mem7 r d (List.mem_of_getElem? hd)
    dsimp only [gName]
    refine ⟨_, rfl, _, rfl, T, vs, _, v, rfl, rfl, hq1, atI_nat hv, ?_⟩
    dsimp only [gName]
    obtain ⟨P0, y, its, rfl, hP, hps, hrows⟩ := parts_at (CP := CP) (F := [p]) d hdv1
    have hpl := parts_len d
    have hil := hps.len
    have hil2 : its.length + 2 = (partsP d).length := by rw [← hil]; rfl
    refine ⟨_, rfl, P0, _, rfl, .inr hP, ?_⟩
    obtain ⟨J, hJ⟩ : ∃ J : List Nat → List V, J = fun js => js.map fun (j : Nat) => V.int (((j + 2 : Nat) : Int)) := ⟨_, rfl⟩
    refine ⟨2, _, rfl, by rw [List.length_cons, List.length_cons]; omega, fun D nD => lc_range (n := ((((V.str (kindOf d) :: y :: its).length : Nat) : Int) - 2).toNat) (fun i H' => ∃ js : List Nat, Same H1 H' ∧ H' D = some (.lst (J js)) ∧ js.length ≤ i ∧ ∀ j ∈ js, ∃ ri, d.rows[j]? = some ri ∧ ri ≠ []) ⟨[], Same.new nD, by rw [hJ]; exact upd_same, Nat.le_refl _, fun j h => absurd h List.not_mem_nil⟩ ?_ ?_⟩
    · rintro i H2 hi ⟨js, s2, hD, hjl, hjs⟩
      have hi : i < its.length := by
        rw [List.length_cons, List.length_cons] at hi
        omega
      have hP2 := sqt_kt (KT.of s2) hP
      refine ⟨rfl, ?_⟩
      refine ⟨_, rfl, P0, _, 0, _, rfl, rfl, hP2, at0 _ _, by show 2 ≤ sizeLine; decide, fun U nU => ?_⟩
      have s3 := Same.new nU (o := .tup [V.str "while", V.str "if"])
      have e3 : (upd H2 U (.tup [V.str "while", V.str "if"])) U = some (.tup [V.str "while", V.str "if"]) := upd_same
      revert s3 e3
      generalize upd H2 U (.tup [V.str "while", V.str "if"]) = H3
      intro s3 e3
      refine ⟨U, _, rfl, .inr (SqT.of e3), rfl, rfl, _, rfl, ?_⟩
      have hin : (if false = true then !inV (.str (kindOf d)) [V.str "while", V.str "if"] else inV (.str (kindOf d)) [V.str "while", V.str "if"]) = decide (d.rows ≠ []) := in_look d
      have hD3 := s3 _ _ hD
      have hP3 := sqt_kt (KT.of s3) hP2
      by_cases hrw : d.rows ≠ []
      rotate_left
      · exact iteF7 (hin.trans (decide_eq_false hrw)) (iteF ⟨js, s2.trans s3, hD3, by omega, hjs⟩)
      refine iteT7 (hin.trans (decide_eq_true hrw)) ?_
      have hrs := (hrows hrw).kt (KT.of (s2.trans s3))
      obtain ⟨vi, hvi⟩ : ∃ vi, its[i]? = some vi := ⟨_, List.getElem?_eq_getElem hi⟩
      obtain ⟨ri, hri, qi, rfl, vsi, hqi, hvsi⟩ := paired_get hrs hvi
      have hvl := DsAt.length ri vsi hvsi
      refine ⟨_, rfl, _, rfl, P0, _, _, _, rfl, rfl, hP3, atI_2i hvi, Nat.zero_le _, fun U2 nU2 => ?_⟩
      have s4 := Same.new nU2 (o := .tup [])
      have e4 : (upd H3 U2 (.tup [])) U2 = some (.tup []) := upd_same
      revert s4 e4
      generalize upd H3 U2 (.tup []) = H4
      intro s4 e4
      refine ⟨tells vsi [] [], ⟨qi, U2, vsi, [], [], rfl, rfl, sqt_kt (KT.of s4) hqi, SqT.of e4, ⟨by simp, fun i x y b g1 g2 => by cases g2⟩, rfl⟩, fun H5 s5 => ⟨_, rfl, ?_⟩⟩
      have s25 := (s3.trans s4).trans s5
      have hD5 := s25 _ _ hD
      cases ri with
      | nil =>
        have ev : vsi = [] := List.length_eq_zero_iff.mp hvl
        subst ev
        exact iteF ⟨js, s2.trans s25, hD5, by omega, hjs⟩
      | cons d0 rr =>
        cases vsi with
        | nil => cases hvl
        | cons w0 wr =>
        refine iteT ?_
        refine ⟨_, rfl, _, hD5, by rw [hJ, List.length_map]; omega, js ++ [i], (s2.trans s25).set nD, ?_, by rw [List.length_append]; simp only [List.length_cons, List.length_nil]; omega, fun j hj => ?_⟩
        · rw [upd_same, hJ]
          show some (HO.lst (List.map _ js ++ [V.int (2 + (i : Int))])) = _
          rw [show (2 : Int) + (i : Int) = ((i + 2 : Nat) : Int) by omega]
          show _ = some (HO.lst (List.map _ (js ++ [i])))
          rw [List.map_append]
          rfl
        · rcases List.mem_append.mp hj with h | h
          · exact hjs j h
          · rw [List.mem_singleton.mp h]
            exact ⟨_, hri, fun z => by cases z⟩
    rintro H2 ⟨js, s2, hD, hjl, hjs⟩
    have hjl : js.length ≤ 2 := by
      rw [List.length_cons, List.length_cons] at hjl
      omega
    dsimp only [gName]
    have neD : D ≠ p := bag_neF b1 nD
    have bG2 := b1.same s2
    have hP2 := sqt_kt (KT.of s2) hP
    have hJl : (J js).length = js.length := by rw [hJ, List.length_map]
    refine seq7 (a := tIfS _ _ _) (fun σ' H' => ∃ (x4 x5 : Option V) (o : V) (po : Pv), σ' = [some (.ref p), some (.ref T), some (.int (n0 : Nat)), some (.ref P0), x4, x5, some o] ∧ KB p H2 H' ∧ BagOk H' p ∧ PvAt K C CP [p] H' po o ∧ OkP (WfP K mg) po) (fun D' hD' _ => ?_) ?_
    · have els : ∀ (G : Hp) (x4 x5 : Option V), KB p H2 G → BagOk G p → (tAsg (tCall (spOdd7 K C CP mg) [] E0 (tCons (tVar 0) (tCons (tVar 3) tNil))) (gName 6)) D' [some (.ref p), some (.ref T), some (.int (n0 : Nat)), some (.ref P0), x4, x5, none] G := fun G x4 x5 kG bG => by
        obtain ⟨kk, hkk⟩ := kix_kind d
        refine ⟨_, rfl, _, rfl, p, P0, _, partsP d, kindOf d, kk, rfl, bG, sqt_kt (bG2.kt kG) hP2, PvsAt.kp (Kp.kb (by simp) bG2 kG) _ _ (PvsAt.kp (Kp.same s2) _ _ hps), hkk, hpl.2, ok_parts d, fun po o G2 k2 b2 hpo hok => ?_⟩
        exact hD' _ _ ⟨x4, x5, o, po, rfl, kG.trans k2, b2, hpo, hok⟩
      refine ⟨_, rfl, Nat.zero_le _, fun E1 nE1 => ?_⟩
      have s3 := Same.new nE1 (o := .lst [])
      have e3 : (upd H2 E1 (.lst [])) E1 = some (.lst []) := upd_same
      revert s3 e3
      generalize upd H2 E1 (.lst []) = H3
      intro s3 e3
      refine ⟨tells (J js) [] [], ⟨D, E1, J js, [], [], rfl, rfl, s3 _ _ hD, e3, ⟨by simp, fun i x y b g1 g2 => by cases g2⟩, rfl⟩, fun H4 s4 => ⟨_, rfl, ?_⟩⟩
      have s24 := s3.trans s4
      cases hjc : js with
      | nil =>
        have ej : J [] = [] := by rw [hJ]; rfl
        rw [ej]
        refine iteF ?_
        refine iteF ?_
        exact els H4 _ _ (KB.of s24) (bG2.same s24)
      | cons j0 jr =>
      rw [← hjc]
      have ht : tells (J js) [] [] = false := by
        rw [hjc, hJ]
        rfl
      rw [ht]
      refine iteT ?_
      have b4 := bG2.same s24
      refine ⟨_, rfl, p, 3, rfl, b4, by decide, by decide, fun d2 H5 k5 b5 d20 d21 => ?_⟩
      have k25 := (KB.of s24).trans k5
      refine ⟨_, _, rfl, rfl, _, rfl, ?_⟩
      by_cases hd2 : 0 < d2
      rotate_left
      · refine iteF7 (decide_eq_false hd2) ?_
        exact els H5 _ _ k25 b5
      refine iteT7 (decide_eq_true hd2) ?_
      have hD5 := k25 _ _ neD hD
      refine ⟨_, rfl, _, rfl, _, rfl, D, _, rfl, .inl (SqL.of hD5), p, _, rfl, b5, by rw [hJl, hjc, List.length_cons]; omega, by rw [hJl]; omega, fun d3 H6 k6 b6 d30 d31 => ?_⟩
      obtain ⟨n3, rfl⟩ := Int.eq_ofNat_of_zero_le d30
      have hn3 : n3 < js.length := by rw [hJl] at d31; omega
      obtain ⟨i, hi⟩ : ∃ i, js[n3]? = some i := ⟨_, List.getElem?_eq_getElem hn3⟩
      obtain ⟨ri, hri, hrine⟩ := hjs i (List.mem_of_getElem? hi)
      have hu : (J js)[n3]? = some (V.int ((i + 2 : Nat) : Int)) := by rw [hJ, List.getElem?_map, hi]; rfl
      have k26 := k25.trans k6
      refine ⟨D, _, _, _, rfl, rfl, SqL.of (k6 _ _ neD hD5), atI_nat hu, ?_⟩
      dsimp only [gName]
      have hrw : d.rows ≠ [] := fun z => by rw [z] at hri; cases hri
      have kt6 := bG2.kt k26
      have hP6 := sqt_kt kt6 hP2
      have hps6 := PvsAt.kp (Kp.kb (List.mem_singleton.mpr rfl) bG2 k26) _ _ (PvsAt.kp (Kp.same s2) _ _ hps)
      have hrs6 := ((hrows hrw).kt (KT.of s2)).kt kt6
      have hrl2 := Paired.length hrs6
      have hi2 : i < its.length := by rw [hrl2]; exact (List.getElem?_eq_some_iff.mp hri).1
      obtain ⟨vi, hvi⟩ : ∃ vi, its[i]? = some vi := ⟨_, List.getElem?_eq_getElem hi2⟩
      obtain ⟨ri', hri', qi, rfl, hqi⟩ := paired_get hrs6 hvi
      rw [hri] at hri'
      cases Option.some.inj hri'
      refine ⟨_, rfl, _, rfl, _, rfl, P0, _, i + 2, rfl, rfl, rfl, hP6, fun q1 H7 s7 hq1 => ?_⟩
      have b7 := b6.same s7
      have hxi : (V.str (kindOf d) :: y :: its)[i + 2]? = some (.ref qi) := by simpa using hvi
      have hdr := deep_rows d hrw
      have hdl := deepL_mem d.rows ri (List.mem_of_getElem? hri)
      have hml := many_memL7 d.rows ri (List.mem_of_getElem? hri)
      have hmr := many_rows d
      refine ⟨_, rfl, _, rfl, _, rfl, P0, _, _, _, rfl, rfl, sqt_kt (KT.of s7) hP6, atI_nat hxi, p, qi, ri, rfl, b7, hqi.kt (KT.of s7), hrine, by omega, by omega, fun xs a H8 k8 b8 hxs okx hxl => ?_⟩
      refine ⟨by show 1 ≤ sizeLine; decide, fun U nU => ?_⟩
      have s9 := Same.new nU (o := .tup [V.ref a])
      have e9 : (upd H8 U (.tup [V.ref a])) U = some (.tup [V.ref a]) := upd_same
      revert s9 e9
      generalize upd H8 U (.tup [V.ref a]) = H9
      intro s9 e9
      have k69 := ((KB.of s7).trans k8).trans (KB.of s9)
      have k79 := k8.trans (KB.of s9)
      have hps7 := PvsAt.kp (Kp.same s7) _ _ hps6
      refine ⟨q1, U, _, _, rfl, rfl, sqt_kt (b7.kt k79) hq1, SqT.of e9, by rw [List.length_take]; simp only [List.length_cons, List.length_nil]; omega, fun q2 G1 t1 hq2 => ?_⟩
      refine ⟨_, rfl, _, rfl, _, _, rfl, rfl, _, rfl, P0, _, i + 2 + 1, rfl, rfl, rfl, sqt_kt (KT.of t1) (sqt_kt (b6.kt k69) hP6), fun q3 G2 t2 hq3 => ?_⟩
      refine ⟨q2, q3, _, _, rfl, rfl, sqt_kt (KT.of t2) hq2, hq3, by rw [List.length_append, List.length_take, List.length_drop]; simp only [List.length_cons, List.length_nil]; omega, fun q4 G3 t3 hq4 => ?_⟩
      have t13 := (t1.trans t2).trans t3
      have k6G := k69.trans (KB.of t13)
      have hpsG := PvsAt.kp (Kp.kb (List.mem_singleton.mpr rfl) b6 k6G) _ _ hps6
      have hxsG := PvAt.kp (Kp.same (s9.trans t13)) _ _ hxs
      refine hD' _ _ ⟨_, _, _, .tup ((partsP d).take (i + 2) ++ [.tup xs] ++ (partsP d).drop (i + 2 + 1)), rfl, k26.trans k6G, (b8.same s9).same t13, ?_, okP_tup (oksP_app (oksP_app (oksP_tk (ok_parts d)) (oksP_cons (okP_tup okx) oksP_nil)) (oksP_dr (ok_parts d)))⟩
      rw [PvAt]
      exact ⟨q4, _, rfl, hq4, PvsAt.app (PvsAt.app (hpsG.tk _) (.cons hxsG .nil)) (hpsG.dr _)⟩
    rintro σ3 H3 ⟨x4, x5, o, po, rfl, k3, b3, hpo, hok⟩
    have k03 := (k1.trans (KB.of s2)).trans k3
    have hq3 := sqt_kt (hbag.kt k03) hq
    have hvs3 := DsAt_kt (hbag.kt k03) r vs hvs
    have hpv3 : PvsAt K C CP [p] H3 (rPv r) vs := DsAt_pv r vs hvs3
    refine ⟨_, rfl, _, rfl, _, rfl, T, vs, n0, rfl, rfl, rfl, hq3, fun q1 H4 s4 hq1 => ?_⟩
    refine ⟨_, rfl, by show 1 ≤ sizeLine; decide, fun U nU => ?_⟩
    have s5 := Same.new nU (o := .tup [o])
    have e5 : (upd H4 U (.tup [o])) U = some (.tup [o]) := upd_same
    revert s5 e5
    generalize upd H4 U (.tup [o]) = H5
    intro s5 e5
    refine ⟨q1, U, _, _, rfl, rfl, sqt_kt (KT.of s5) hq1, SqT.of e5, by rw [List.length_take]; simp only [List.length_cons, List.length_nil]; omega, fun q2 G1 t1 hq2 => ?_⟩
    refine ⟨_, rfl, _, rfl, _, _, rfl, rfl, _, rfl, T, vs, n0 + 1, rfl, rfl, rfl, sqt_kt (KT.of ((s4.trans s5).trans t1)) hq3, fun q3 G2 t2 hq3' => ?_⟩
    refine ⟨q2, q3, _, _, rfl, rfl, sqt_kt (KT.of t2) hq2, hq3', by rw [List.length_append, List.length_take, List.length_drop]; simp only [List.length_cons, List.length_nil]; omega, fun q4 G3 t3 hq4 => ?_⟩
    have s3G := (((s4.trans s5).trans t1).trans t2).trans t3
    have hpvG := PvsAt.kp (Kp.same s3G) _ _ hpv3
    refine k ((rPv r).take n0 ++ [po] ++ (rPv r).drop (n0 + 1)) q4 G3 (k03.trans (KB.of s3G)) (b3.same s3G) ?_ (oksP_app (oksP_app (oksP_tk (okP_row r)) (oksP_cons hok oksP_nil)) (oksP_dr (okP_row r))) ?_
    · rw [PvAt]
      exact ⟨q4, _, rfl, hq4, PvsAt.app (PvsAt.app (hpvG.tk _) (.cons (PvAt.kp (Kp.same s3G) _ _ hpo) .nil)) (hpvG.dr _)⟩
    · rw [List.length_append, List.length_append, List.length_take, List.length_drop, rPv_len]
      simp only [List.length_cons, List.length_nil]
      omega
end
end Js
set_option Elab.async false
set_option linter.all false
set_option maxRecDepth 100000
set_option maxHeartbeats 2000000
namespace Js
open PySem L2
open PySem PySem.Spec PyProof.Rows L2
abbrev sNe7 : Stmt := top 46
def spNe7 (K : PySem.W.Frag) (C : Addr) : Sp := fun vs H Q _ => ∃ (p q : Addr) (r : List Dd) (n : Nat), vs = [.ref p, .ref q, .int ((n : Nat) : Int)] ∧ n ≤ 100 ∧ BagOk H p ∧ RAt K C H q r ∧ r.length ≤ 2 ∧ ∀ q' r' H', KB p H H' → BagOk H' p → RAt K C H' q' r' → r'.length ≤ 2 → Q (.ref q') H'
section
variable {P : Program} {w : World} {K : PySem.W.Frag} {mg : Str → Option Value} {base : Heap} {C CP : Addr}
theorem scNe7 : FnScope ["_law_bag_here", "_law_deeds_here", "_law_floors", "_law_floor", "_law_some"] ["_law_bag_here", "_law_deeds_here", "_law_floors"] (defScope sNe7) := ⟨rfl, rfl, rfl, by decide +kernel, rfl, by decide +kernel, by decide +kernel⟩
theorem ok_ne7 {f : Addr} {fd : FuncData} (F : Fun K "_law_nested" "_law_nested" sNe7 f fd) (B : Blt mg) (DTk : Def P w K mg base "_law_take" 1 ["_law_bag_here", "_law_many_here"] spTake) : FnOk P w K mg base CX0 2 f fd ["_law_bag_here", "_law_deeds_here", "_law_floors"] (spNe7 K C) := by
  refine F.ok scNe7 (fun vs H Q E h => ?_) (fun cdv A outer s H vs Q E hr h => ?_)
  · obtain ⟨p, q, r, n, rfl, _⟩ := h
    rfl
  · obtain ⟨p, q, r, n, rfl, hn, hbag, hq, hrl, k⟩ := h
    have hr1' : Room 1 _ := hr.mono (by decide)
    refine ⟨_, pss_cons (ps_for PassesOwn.never rfl (pi_range1 rfl B.range (pa_cons (pv 2) pa_nil)) (pg_name (i := 3) scNe7.nd rfl (Or.inl rfl)) (pss_cons (ps_set (i := 4) scNe7.nd rfl (Or.inl rfl) (pe_lst (pa_cons (pe_tup (pa_cons (pe_tup (pa_cons pe_str (pa_cons pe_int (pa_cons (pv 1) pa_nil)))) pa_nil)) (pa_cons (pe_tup (pa_cons (pe_tup (pa_cons pe_str (pa_cons pe_int (pa_cons pe_int pa_nil)))) (pa_cons (pe_tup (pa_cons pe_str (pa_cons pe_int (pa_cons (pe_tup pa_nil) (pa_cons (pv 1) pa_nil))))) pa_nil))) (pa_cons (pe_tup (pa_cons (pe_tup (pa_cons pe_str (pa_cons pe_int (pa_cons (pv 1) (pa_cons (pe_tup pa_nil) pa_nil))))) pa_nil)) pa_nil))))) (pss_one (ps_set (i := 1) scNe7.nd rfl (Or.inl rfl) (pe_ix (r := rIxL K) ix_list (pv 4) (pe_def DTk hr1' rfl (pa_cons (pv 0) (pa_cons pe_int pa_nil))) (fun _ _ => rfl)))))) (pss_one (ps_ret (pv 1))), ?_⟩
    have hsl := line4
    refine ⟨_, rfl, ((n : Nat) : Int), rfl, by omega, by omega, for_range (n := ((n : Nat) : Int).toNat) (fun i σ H' => ∃ (q1 : Addr) (r1 : List Dd) (x3 x4 : Option V), σ = [some (.ref p), some (.ref q1), some (.int ((n : Nat) : Int)), x3, x4] ∧ KB p H H' ∧ BagOk H' p ∧ RAt K C H' q1 r1 ∧ r1.length ≤ 2) ⟨q, r, _, _, rfl, KB.refl p H, hbag, hq, hrl⟩ ?_ ?_⟩
    · rintro i σ H1 hi ⟨q1, r1, x3, x4, rfl, kb1, bag1, hr1, hrl1⟩
      dsimp only [gName]
      refine ⟨_, rfl, by show 3 ≤ sizeLine; decide, fun Ta1 nTa1 => ?_⟩
      have sa1 := Same.new nTa1 (o := .tup [V.str "while", V.int (1), .ref q1])
      have ea1 : (upd H1 Ta1 (.tup [V.str "while", V.int (1), .ref q1])) Ta1 = some (.tup [V.str "while", V.int (1), .ref q1]) := upd_same
      revert sa1 ea1
      generalize upd H1 Ta1 (.tup [V.str "while", V.int (1), .ref q1]) = Ga1
      intro sa1 ea1
      replace hr1 := hr1.same sa1
      replace bag1 := bag1.same sa1
      replace kb1 := kb1.trans (KB.of sa1)
      have dTa1 : DAt K C Ga1 (.ref Ta1) (.wh 1 r1) := (let ⟨vs, h1, h2⟩ := hr1; ⟨Ta1, q1, vs, rfl, SqT.of ea1, by decide, h1, h2⟩)
      refine ⟨by show 1 ≤ sizeLine; decide, fun Ta2 nTa2 => ?_⟩
      have sa2 := Same.new nTa2 (o := .tup [.ref Ta1])
      have ea2 : (upd Ga1 Ta2 (.tup [.ref Ta1])) Ta2 = some (.tup [.ref Ta1]) := upd_same
      revert sa2 ea2
      generalize upd Ga1 Ta2 (.tup [.ref Ta1]) = Ga2
      intro sa2 ea2
      replace hr1 := hr1.same sa2
      replace bag1 := bag1.same sa2
      replace kb1 := kb1.trans (KB.of sa2)
      replace dTa1 := DAt_kt (KT.of sa2) _ _ dTa1
      have rTa2 : RAt K C Ga2 Ta2 [.wh 1 r1] := ⟨_, SqT.of ea2, ⟨_, _, rfl, dTa1, rfl⟩⟩
      refine ⟨by show 3 ≤ sizeLine; decide, fun Ta3 nTa3 => ?_⟩
      have sa3 := Same.new nTa3 (o := .tup [V.str "first", V.int (2), V.int (2)])
      have ea3 : (upd Ga2 Ta3 (.tup [V.str "first", V.int (2), V.int (2)])) Ta3 = some (.tup [V.str "first", V.int (2), V.int (2)]) := upd_same
      revert sa3 ea3
      generalize upd Ga2 Ta3 (.tup [V.str "first", V.int (2), V.int (2)]) = Ga3
      intro sa3 ea3
      replace hr1 := hr1.same sa3
      replace bag1 := bag1.same sa3
      replace kb1 := kb1.trans (KB.of sa3)
      replace rTa2 := RAt.same sa3 rTa2
      have dTa3 : DAt K C Ga3 (.ref Ta3) (.take false 2 2) := ⟨Ta3, rfl, SqT.of ea3, by decide, by decide⟩
      refine ⟨by show 0 ≤ sizeLine; decide, fun Ta4 nTa4 => ?_⟩
      have sa4 := Same.new nTa4 (o := .tup [])
      have ea4 : (upd Ga3 Ta4 (.tup [])) Ta4 = some (.tup []) := upd_same
      revert sa4 ea4
      generalize upd Ga3 Ta4 (.tup []) = Ga4
      intro sa4 ea4
      replace hr1 := hr1.same sa4
      replace bag1 := bag1.same sa4
      replace kb1 := kb1.trans (KB.of sa4)
      replace rTa2 := RAt.same sa4 rTa2
      replace dTa3 := DAt_kt (KT.of sa4) _ _ dTa3
      have rTa4 : RAt K C Ga4 Ta4 [] := ⟨_, SqT.of ea4, rfl⟩
      refine ⟨_, rfl, by show 4 ≤ sizeLine; decide, fun Ta5 nTa5 => ?_⟩
      have sa5 := Same.new nTa5 (o := .tup [V.str "if", V.int (1), .ref Ta4, .ref q1])
      have ea5 : (upd Ga4 Ta5 (.tup [V.str "if", V.int (1), .ref Ta4, .ref q1])) Ta5 = some (.tup [V.str "if", V.int (1), .ref Ta4, .ref q1]) := upd_same
      revert sa5 ea5
      generalize upd Ga4 Ta5 (.tup [V.str "if", V.int (1), .ref Ta4, .ref q1]) = Ga5
      intro sa5 ea5
      replace hr1 := hr1.same sa5
      replace bag1 := bag1.same sa5
      replace kb1 := kb1.trans (KB.of sa5)
      replace rTa2 := RAt.same sa5 rTa2
      replace dTa3 := DAt_kt (KT.of sa5) _ _ dTa3
      replace rTa4 := RAt.same sa5 rTa4
      have dTa5 : DAt K C Ga5 (.ref Ta5) (.iff 1 [] r1) := (let ⟨vs, h1, h2⟩ := rTa4; let ⟨us, h3, h4⟩ := hr1; ⟨Ta5, Ta4, vs, q1, us, rfl, SqT.of ea5, by decide, h1, h2, h3, h4⟩)
      refine ⟨by show 2 ≤ sizeLine; decide, fun Ta6 nTa6 => ?_⟩
      have sa6 := Same.new nTa6 (o := .tup [.ref Ta3, .ref Ta5])
      have ea6 : (upd Ga5 Ta6 (.tup [.ref Ta3, .ref Ta5])) Ta6 = some (.tup [.ref Ta3, .ref Ta5]) := upd_same
      revert sa6 ea6
      generalize upd Ga5 Ta6 (.tup [.ref Ta3, .ref Ta5]) = Ga6
      intro sa6 ea6
      replace hr1 := hr1.same sa6
      replace bag1 := bag1.same sa6
      replace kb1 := kb1.trans (KB.of sa6)
      replace rTa2 := RAt.same sa6 rTa2
      replace dTa3 := DAt_kt (KT.of sa6) _ _ dTa3
      replace rTa4 := RAt.same sa6 rTa4
      replace dTa5 := DAt_kt (KT.of sa6) _ _ dTa5
      have rTa6 : RAt K C Ga6 Ta6 [.take false 2 2, .iff 1 [] r1] := ⟨_, SqT.of ea6, ⟨_, _, rfl, dTa3, ⟨_, _, rfl, dTa5, rfl⟩⟩⟩
      refine ⟨_, rfl, by show 0 ≤ sizeLine; decide, fun Ta7 nTa7 => ?_⟩
      have sa7 := Same.new nTa7 (o := .tup [])
      have ea7 : (upd Ga6 Ta7 (.tup [])) Ta7 = some (.tup []) := upd_same
      revert sa7 ea7
      generalize upd Ga6 Ta7 (.tup []) = Ga7
      intro sa7 ea7
      replace hr1 := hr1.same sa7
      replace bag1 := bag1.same sa7
      replace kb1 := kb1.trans (KB.of sa7)
      replace rTa2 := RAt.same sa7 rTa2
      replace rTa4 := RAt.same sa7 rTa4
      replace rTa6 := RAt.same sa7 rTa6
      have rTa7 : RAt K C Ga7 Ta7 [] := ⟨_, SqT.of ea7, rfl⟩
      refine ⟨by show 4 ≤ sizeLine; decide, fun Ta8 nTa8 => ?_⟩
      have sa8 := Same.new nTa8 (o := .tup [V.str "if", V.int (1), .ref q1, .ref Ta7])
      have ea8 : (upd Ga7 Ta8 (.tup [V.str "if", V.int (1), .ref q1, .ref Ta7])) Ta8 = some (.tup [V.str "if", V.int (1), .ref q1, .ref Ta7]) := upd_same
      revert sa8 ea8
      generalize upd Ga7 Ta8 (.tup [V.str "if", V.int (1), .ref q1, .ref Ta7]) = Ga8
      intro sa8 ea8
      replace hr1 := hr1.same sa8
      replace bag1 := bag1.same sa8
      replace kb1 := kb1.trans (KB.of sa8)
      replace rTa2 := RAt.same sa8 rTa2
      replace rTa4 := RAt.same sa8 rTa4
      replace rTa6 := RAt.same sa8 rTa6
      replace rTa7 := RAt.same sa8 rTa7
      have dTa8 : DAt K C Ga8 (.ref Ta8) (.iff 1 r1 []) := (let ⟨vs, h1, h2⟩ := hr1; let ⟨us, h3, h4⟩ := rTa7; ⟨Ta8, q1, vs, Ta7, us, rfl, SqT.of ea8, by decide, h1, h2, h3, h4⟩)
      refine ⟨by show 1 ≤ sizeLine; decide, fun Ta9 nTa9 => ?_⟩
      have sa9 := Same.new nTa9 (o := .tup [.ref Ta8])
      have ea9 : (upd Ga8 Ta9 (.tup [.ref Ta8])) Ta9 = some (.tup [.ref Ta8]) := upd_same
      revert sa9 ea9
      generalize upd Ga8 Ta9 (.tup [.ref Ta8]) = Ga9
      intro sa9 ea9
      replace hr1 := hr1.same sa9
      replace bag1 := bag1.same sa9
      replace kb1 := kb1.trans (KB.of sa9)
      replace rTa2 := RAt.same sa9 rTa2
      replace rTa4 := RAt.same sa9 rTa4
      replace rTa6 := RAt.same sa9 rTa6
      replace rTa7 := RAt.same sa9 rTa7
      replace dTa8 := DAt_kt (KT.of sa9) _ _ dTa8
      have rTa9 : RAt K C Ga9 Ta9 [.iff 1 r1 []] := ⟨_, SqT.of ea9, ⟨_, _, rfl, dTa8, rfl⟩⟩
      have bagP := bag1
      refine ⟨by show 3 ≤ sizeLine; decide, fun Ta10 nTa10 => ?_⟩
      have sa10 := Same.new nTa10 (o := .lst [.ref Ta2, .ref Ta6, .ref Ta9])
      have ea10 : (upd Ga9 Ta10 (.lst [.ref Ta2, .ref Ta6, .ref Ta9])) Ta10 = some (.lst [.ref Ta2, .ref Ta6, .ref Ta9]) := upd_same
      revert sa10 ea10
      generalize upd Ga9 Ta10 (.lst [.ref Ta2, .ref Ta6, .ref Ta9]) = Ga10
      intro sa10 ea10
      replace hr1 := hr1.same sa10
      replace bag1 := bag1.same sa10
      replace kb1 := kb1.trans (KB.of sa10)
      replace rTa2 := RAt.same sa10 rTa2
      replace rTa4 := RAt.same sa10 rTa4
      replace rTa6 := RAt.same sa10 rTa6
      replace rTa7 := RAt.same sa10 rTa7
      replace rTa9 := RAt.same sa10 rTa9
      have hTp : Ta10 ≠ p := fun z => by
        obtain ⟨xs, hx⟩ := bagP.some
        rw [z, hx] at nTa10
        cases nTa10
      refine ⟨_, rfl, _, rfl, p, 3, rfl, bag1, by decide, by decide, fun d HD kD bD d0 d1 => ?_⟩
      have kt := bag1.kt kD
      have hL := kD _ _ hTp ea10
      have hd : d = 0 ∨ d = 1 ∨ d = 2 := by omega
      rcases hd with rfl | rfl | rfl
      · exact ⟨Ta10, _, _, _, rfl, rfl, SqL.of hL, atI_nat (j := 0) rfl, Ta2, [.wh 1 r1], _, _, rfl, kb1.trans kD, bD, rTa2.kt kt, by simp only [List.length_cons, List.length_nil]; omega⟩
      · exact ⟨Ta10, _, _, _, rfl, rfl, SqL.of hL, atI_nat (j := 1) rfl, Ta6, [.take false 2 2, .iff 1 [] r1], _, _, rfl, kb1.trans kD, bD, rTa6.kt kt, by simp only [List.length_cons, List.length_nil]; omega⟩
      · exact ⟨Ta10, _, _, _, rfl, rfl, SqL.of hL, atI_nat (j := 2) rfl, Ta9, [.iff 1 r1 []], _, _, rfl, kb1.trans kD, bD, rTa9.kt kt, by simp only [List.length_cons, List.length_nil]; omega⟩
    · rintro σ H1 ⟨q1, r1, x3, x4, rfl, kb1, bag1, hr1, hrl1⟩
      exact ⟨_, rfl, k q1 r1 H1 kb1 bag1 hr1 hrl1⟩
end
end Js
set_option Elab.async false
set_option linter.all false
set_option maxRecDepth 100000
set_option maxHeartbeats 4000000
namespace L2
open PySem PySem.Spec PyProof.Rows
end L2
set_option Elab.async false
set_option linter.all false
set_option maxRecDepth 100000
set_option maxHeartbeats 2000000
namespace Js
open PySem L2
theorem DsAt_repP {K : PySem.W.Frag} {C : Addr} {H : Hp} {v : V} {d : Dd} (h : DAt K C H v d) : ∀ n : Nat, DsAt K C H (List.replicate n v) (List.replicate n d)
  | 0 => rfl
  | n + 1 => ⟨v, _, rfl, h, DsAt_repP h n⟩
theorem flat_oneP (v : V) : ∀ n : Nat, (List.replicate n [v]).flatten = List.replicate n v
  | 0 => rfl
  | n + 1 => by rw [List.replicate_succ, List.flatten_cons, flat_oneP v n]; rfl
end Js
set_option Elab.async false
set_option linter.all false
set_option maxRecDepth 100000
set_option maxHeartbeats 2000000
namespace Js
open PySem L2 HT PyProof.Rows
theorem flat_rep7 {α : Type} (v : α) : ∀ n : Nat, (List.replicate n [v]).flatten = List.replicate n v
  | 0 => rfl
  | n + 1 => by rw [List.replicate_succ, List.flatten_cons, flat_rep7 v n]; rfl
theorem op_repT7 {X : Cx} : OpR X (binaryOp .Mult) (fun x y H Q => ∃ tp m zs, x = .ref tp ∧ y = .int m ∧ SqT X.K H tp zs ∧ zs.length = 1 ∧ 2 ≤ m ∧ m ≤ 5000 ∧ ∀ q, H q = none → Q (.ref q) (upd H q (.tup (List.replicate m.toNat zs).flatten))) := by
  intro pins s σ H x y v u Q I rx ry hq
  obtain ⟨tp, m, zs, rfl, rfl, hT, hone, m2, m5, cont⟩ := hq
  cases rx
  obtain ⟨tok, rfl⟩ := ry
  obtain ⟨vs, rel, ⟨⟨cl, od, dt, sl⟩, hget, hcl, cap, hdt⟩, _⟩ := I.tuple hT
  simp only at hcl hdt
  subst hcl hdt
  have hvl : vs.length = 1 := rel.length.symm.trans hone
  obtain ⟨v0, rfl⟩ : ∃ v0, vs = [v0] := List.length_eq_one_iff.mp hvl
  have hts : ((([v0] : List Value).toArray.size : Nat) : Int) = 1 := rfl
  have hfl : (List.replicate m.toNat [v0]).flatten.length ≤ sizeLine := by
    rw [flat_rep7, List.length_replicate, sizeLine_eq]
    omega
  have b0 : (decide (m < -(2 ^ 63)) || decide (m ≥ 2 ^ 63)) = false := by
    simp only [Bool.or_eq_false_iff, decide_eq_false_iff_not]
    omega
  have b1 : (([v0] : List Value).toArray.isEmpty || m == 1) = false := by
    have : (m == 1) = false := beq_eq_false_iff_ne.mpr (by omega)
    rw [this]
    rfl
  have b2 : (decide (m ≤ 0) || ([v0] : List Value).toArray.isEmpty) = false := by
    have : decide (m ≤ 0) = false := decide_eq_false (by omega)
    rw [this]
    rfl
  have b4 : Builtin.Tuple.tupleTooMany (((([v0] : List Value).toArray.size : Nat) : Int) * m) = false := by
    rw [hts, Int.one_mul]
    unfold Builtin.Tuple.tupleTooMany
    have := sizeLine_eq
    exact decide_eq_false (by omega)
  refine wpAny_binaryOp_repeat_ref (T := "tuple") (U := "int") (by decide) ⟨_, hget, rfl⟩ (fun z => typeIs_int z m tok) noFill_tuple_mul F.fills_int_mul F.slot_int_rmul repeat_tuple F.slot_int_index.lookup (call_meets F.slot_int_rmul (typeIs_int s m tok) F.entry_int_rmul (F.args_int_rmul_2 _ _) (int_rmul_tuple m tok tp [v0].toArray cap od sl) ⟨hget, rfl, ⟨_, hget, rfl⟩, call_meets F.slot_tuple_mul ⟨_, hget, rfl⟩ F.entry_tuple_mul (F.args_tuple_mul_2 _ _) (tuple_mulW tp [v0].toArray cap od sl m tok b0 b1 b2 (by rw [hts]; omega) b4 (by rw [size_rep, List.size_toArray]; exact hfl)) ⟨hget, ?_⟩⟩)
  rw [size_rep]
  have hz2 : (List.replicate m.toNat zs).flatten.length ≤ sizeLine := by
    rw [PyProof.Rows.lm_len_rep_flat, hone, sizeLine_eq]
    omega
  exact ⟨.ref s.heap.objs.size, _, I.laid (t' := s.toks) (o := .tup (List.replicate m.toNat zs).flatten) (fun b ob e => Heap.get?_push_of_some _ e) (Nat.le_refl _) ⟨hz2, _, rel.rep m.toNat, IsTup.new _ _⟩, rfl, cont _ (I.hok.fresh (Nat.le_refl _))⟩
section
variable {X : Cx} {C : Addr}
theorem op_repR7 : OpR X (binaryOp .Mult) (fun x y H Q => ∃ q d n, x = .ref q ∧ y = .int n ∧ RAt X.K C H q [d] ∧ 2 ≤ n ∧ n ≤ 5000 ∧ ∀ q' H', Same H H' → RAt X.K C H' q' (List.replicate n.toNat d) → Q (.ref q') H') := by
  intro pins s σ H x y v u Q I rx ry h
  obtain ⟨q, d, n, rfl, rfl, ⟨vs, h1, h2⟩, h3, h4, k⟩ := h
  obtain ⟨w, ws, rfl, h5, h6⟩ := h2
  have e : ws = [] := h6
  subst e
  refine op_repT7 pins s σ H _ _ v u Q I rx ry ⟨q, n, [w], rfl, rfl, h1, rfl, h3, h4, fun p np => ?_⟩
  rw [flat_oneP]
  have s := Same.new np (o := .tup (List.replicate n.toNat w))
  exact k p _ s ⟨_, SqT.of upd_same, DsAt_repP (DAt_kt (KT.of s) d w h5) _⟩
end
end Js
set_option Elab.async false
set_option linter.all false
set_option maxRecDepth 100000
set_option maxHeartbeats 2000000
namespace Js
open PySem L2
open PySem PySem.Spec PyProof.Rows L2
abbrev sLaw : Stmt := top 48
def spLaw (K : PySem.W.Frag) : Sp := fun vs H Q _ => ∃ (a : Addr) (ns : List Int), vs = [.ref a] ∧ SqL K H a (ns.map V.int) ∧ ns.length ≤ 63 ∧ ∀ H', Q (.bl true) H'
theorem same_kb {H0 H H' : Hp} {p : Addr} (s : Same H0 H) (k : KB p H H') (hp : H0 p = none) : Same H0 H' := fun b o h => k _ _ (ne_of_none h hp) (s _ _ h)
theorem ex1 {H : Hp} {p : Addr} (b : BagOk H p) : Ex [p] H := fun f hf => by
  rw [List.mem_singleton.mp hf]
  obtain ⟨xs, hx⟩ := b.some
  exact ⟨_, hx⟩
section
variable {P : Program} {w : World} {K : PySem.W.Frag} {mg : Str → Option Value} {base : Heap} {C CP fTh fPI : Addr} {fdTh fdPI : FuncData}
theorem scLaw : FnScope ["_law_script", "_law_k", "_law_bag_here", "_law_turn", "_law_deeds_here", "_law_bent_here", "_law_deep", "_law_thing_here", "_law_odd_here", "_law_one"] ["_law_script"] (defScope sLaw) := ⟨rfl, rfl, rfl, by decide +kernel, rfl, by decide +kernel, by decide +kernel⟩
theorem ok_law {f : Addr} {fd : FuncData} (F : Fun K "law" "law" sLaw f fd) (B : Blt mg) (ml : mg "list" = none) (mk : Maker P w K mg base C fTh fdTh) (MP : MakerP P w K mg base C CP fPI fdPI) (hW : ∀ s ∈ oddS, WfP K mg s) (DBa : Def P w K mg base "_law_bag" 1 ["_law_script", "_law_at"] (spBag K)) (DTk : Def P w K mg base "_law_take" 1 ["_law_bag_here", "_law_many_here"] spTake) (DTo : Def P w K mg base "_law_top" 15 ["_law_bag_here", "_law_many_here"] (spTop K C)) (DBe : Def P w K mg base "_law_bent" 10 ["_law_bag_here", "_law_deeds_here"] (spBe7 K C CP mg 5)) (DNe : Def P w K mg base "_law_nested" 2 ["_law_bag_here", "_law_deeds_here", "_law_floors"] (spNe7 K C)) (DGd : Def P w K mg base "_law_good" 16 ["_law_thing_here"] (spGood7 K C CP mg)) : FnOk P w K mg base CX0 17 f fd ["_law_script"] (spLaw K) := by
  refine F.ok scLaw (fun vs H Q E h => ?_) (fun cdv A outer s H vs Q E hr h => ?_)
  · obtain ⟨a, ns, rfl, _⟩ := h
    rfl
  · obtain ⟨a, ns, rfl, hS, hlen, k⟩ := h
    have hr1 : Room 1 _ := hr.mono (by decide)
    have hr2 : Room 2 _ := hr.mono (by decide)
    have hr3 : Room 3 _ := hr.mono (by decide)
    have hr10 : Room 10 _ := hr.mono (by decide)
    have hr15 : Room 15 _ := hr.mono (by decide)
    have hr16 : Room 16 _ := hr
    refine ⟨_, pss_cons (ps_for PassesOwn.never rfl (pi_range1 rfl B.range (pa_cons (pe_callB (call_max2 rfl) (by rfl) B.max (by decide +kernel) (pa_cons pe_int (pa_cons (pe_callB (call_min2 rfl) (by rfl) B.min (by decide +kernel) (pa_cons pe_int (pa_cons (pe_callB call_len_seq (by rfl) B.len PySem.boot_len (pa_cons (pv 0) pa_nil)) pa_nil))) pa_nil))) pa_nil)) (pg_name (i := 1) scLaw.nd rfl (Or.inl rfl)) (pss_cons (ps_set (i := 2) scLaw.nd rfl (Or.inl rfl) (pe_def DBa hr1 rfl (pa_cons (pv 0) (pa_cons (pv 1) pa_nil)))) (pss_cons (ps_for PassesOwn.never rfl (pi_range1 rfl B.range (pa_cons pe_int pa_nil)) (pg_name (i := 3) scLaw.nd rfl (Or.inl rfl)) (pss_cons (ps_set (i := 4) scLaw.nd rfl (Or.inl rfl) (pe_op (r := rCatS K) op_catS (pe_def DTo hr15 rfl (pa_cons (pv 2) (pa_cons (pe_op op_add pe_int (pe_def DTk hr1 rfl (pa_cons (pv 2) (pa_cons pe_int pa_nil)))) pa_nil))) (pe_tup (pa_cons (pe_tup (pa_cons pe_str (pa_cons pe_int (pa_cons pe_int (pa_cons pe_int pa_nil))))) pa_nil)))) (pss_cons (ps_set (i := 5) scLaw.nd rfl (Or.inl rfl) (pe_def DBe hr10 rfl (pa_cons (pv 2) (pa_cons (pv 4) pa_nil)))) (pss_cons (ps_set (i := 6) scLaw.nd rfl (Or.inl rfl) (pe_def DNe hr2 rfl (pa_cons (pv 2) (pa_cons (pe_tup (pa_cons (pe_tup (pa_cons pe_str (pa_cons pe_int (pa_cons pe_int (pa_cons pe_int pa_nil))))) pa_nil)) (pa_cons (pe_op op_add pe_int (pe_def DTk hr1 rfl (pa_cons (pv 2) (pa_cons pe_int pa_nil)))) pa_nil))))) (pss_one (ps_for PassesOwn.never rfl (pi_list (pe_lst (pa_cons (pv 5) (pa_cons (pe_def DBe hr10 rfl (pa_cons (pv 2) (pa_cons (pv 4) pa_nil))) (pa_cons (pv 4) (pa_cons (pe_callTy call_list_of (by rfl) ml PyProof.Rows.boot_list (pa_cons (pv 4) pa_nil)) (pa_cons (pe_op (r := rCatS K) op_catS (pv 5) (pv 4)) (pa_cons (pe_op (r := rCatS K) op_catS (pv 4) (pv 6)) (pa_cons (pe_op (r := rCatS K) op_catS (pv 6) (pv 5)) pa_nil))))))))) (pg_name (i := 7) scLaw.nd rfl (Or.inl rfl)) (pss_one (ps_if (pt_not (pt_val (pe_def DGd hr16 rfl (pa_cons (pv 7) pa_nil)))) (pss_one (ps_ret pe_bl)) pss_nil)))))))) (pss_cons (ps_set (i := 8) scLaw.nd rfl (Or.inl rfl) (pe_lst (pa_cons pe_non (pa_cons pe_int (pa_cons pe_bl (pa_cons pe_str (pa_cons pe_str (pa_cons (pe_lst pa_nil) (pa_cons (pe_T0 mk hr3 rfl) (pa_cons (pe_lst (pa_cons (pe_tup pa_nil) pa_nil)) (pa_cons (pe_tup (pa_cons pe_non pa_nil)) (pa_cons (pe_tup (pa_cons (pe_tup pa_nil) pa_nil)) (pa_cons (pe_P MP hr15 rfl (pa_cons (pe_tup pa_nil) pa_nil)) (pa_cons (pe_tup (pa_cons (pe_P MP hr15 rfl (pa_cons (pe_tup pa_nil) pa_nil)) pa_nil)) pa_nil)))))))))))))) (pss_one (ps_if (pt_not (pt_val (pe_def DGd hr16 rfl (pa_cons (pe_ix (r := rIxL K) ix_list (pv 8) (pe_def DTk hr1 rfl (pa_cons (pv 2) (pa_cons pe_int pa_nil))) (fun _ _ => rfl)) pa_nil)))) (pss_one (ps_ret pe_bl)) pss_nil)))))) (pss_cons (ps_set (i := 9) scLaw.nd rfl (Or.inl rfl) (pe_tup (pa_cons (pe_tup (pa_cons pe_str (pa_cons pe_int (pa_cons pe_int pa_nil)))) pa_nil))) (pss_one (ps_ret (pe_and (pe_def DGd hr16 rfl (pa_cons (pe_op (op_repR7 (C := C)) (pv 9) pe_int) pa_nil)) (pe_and (pe_def DGd hr16 rfl (pa_cons (pe_op (op_repR7 (C := C)) (pv 9) pe_int) pa_nil)) (pe_one (pe_def DGd hr16 rfl (pa_cons (pe_op (r := rCatS K) op_catS (pe_tup (pa_cons (pe_tup (pa_cons pe_str (pa_cons pe_int (pa_cons (pe_op (op_repR7 (C := C)) (pv 9) pe_int) pa_nil)))) pa_nil)) (pv 9)) pa_nil)))))))), ?_⟩
    have hsl := line4
    have okW : ∀ s : Str, s ∈ oddS → OkP (WfP K mg) (.str s) := fun s hs => by
      rw [OkP]
      exact fun _ => hW s hs
    refine seq7 (a := tFor _ _ _) (fun σ' H' => ∃ x1 x2 x3 x4 x5 x6 x7 x8 : Option V, σ' = [some (.ref a), x1, x2, x3, x4, x5, x6, x7, x8, none] ∧ Same H H') (fun D' hD hrt => ?_) ?_
    · refine ⟨_, rfl, a, _, rfl, .inl hS, _, _, rfl, _, _, rfl, ?_⟩
      rw [List.length_map]
      have hj : 0 ≤ (if (if ((ns.length : Nat) : Int) < 4 then ((ns.length : Nat) : Int) else 4) > 2 then (if ((ns.length : Nat) : Int) < 4 then ((ns.length : Nat) : Int) else 4) else 2) ∧ (if (if ((ns.length : Nat) : Int) < 4 then ((ns.length : Nat) : Int) else 4) > 2 then (if ((ns.length : Nat) : Int) < 4 then ((ns.length : Nat) : Int) else 4) else 2) ≤ 4 := by
        constructor
        · split <;> omega
        · split <;> split <;> omega
      revert hj
      generalize (if (if ((ns.length : Nat) : Int) < 4 then ((ns.length : Nat) : Int) else 4) > 2 then (if ((ns.length : Nat) : Int) < 4 then ((ns.length : Nat) : Int) else 4) else 2) = j
      intro hj
      refine ⟨j, rfl, by omega, by omega, for_range (n := j.toNat) (fun i σ H' => ∃ x1 x2 x3 x4 x5 x6 x7 x8 : Option V, σ = [some (.ref a), x1, x2, x3, x4, x5, x6, x7, x8, none] ∧ Same H H') ⟨_, _, _, _, _, _, _, _, rfl, Same.refl H⟩ ?_ (fun σ H' z => hD _ _ z)⟩
      rintro i σ H0 hi ⟨x1, x2, x3, x4, x5, x6, x7, x8, rfl, s0⟩
      refine ⟨_, rfl, _, rfl, a, ns, i, by rw [Int.zero_add]; rfl, s0.seq hS, by omega, fun p H1 sb np hbag => ?_⟩
      have hp0 : H p = none := s0.free np
      dsimp only [gName]
      refine seq7 (a := tFor _ _ _) (fun σ' H' => ∃ x3 x4 x5 x6 x7 x8 : Option V, σ' = [some (.ref a), some (.int (0 + ((i : Nat) : Int))), some (.ref p), x3, x4, x5, x6, x7, x8, none] ∧ KB p H1 H' ∧ BagOk H' p) (fun D2 hD2 hrt2 => ?_) ?_
      · refine ⟨5, rfl, by decide, by decide, for_range (n := 5) (fun m σ H' => ∃ x3 x4 x5 x6 x7 x8 : Option V, σ = [some (.ref a), some (.int (0 + ((i : Nat) : Int))), some (.ref p), x3, x4, x5, x6, x7, x8, none] ∧ KB p H1 H' ∧ BagOk H' p) ⟨_, _, _, _, _, _, rfl, KB.refl p H1, hbag⟩ ?_ (fun σ H' z => hD2 _ _ z)⟩
        rintro m σ H2 hm ⟨x3, x4, x5, x6, x7, x8, rfl, k2, b2⟩
        dsimp only [gName]
        refine seq7 (a := tAsg _ _) (fun σ' H' => ∃ (q : Addr) (r : List Dd), σ' = [some (.ref a), some (.int (0 + ((i : Nat) : Int))), some (.ref p), some (.int (0 + ((m : Nat) : Int))), some (.ref q), x5, x6, x7, x8, none] ∧ RAt K C H' q r ∧ r ≠ [] ∧ deepR r < 5 ∧ manyR r ≤ 51 ∧ KB p H2 H' ∧ BagOk H' p) (fun D3 hD3 _ => ?_) ?_
        · refine ⟨_, rfl, _, rfl, p, 25, rfl, b2, by decide, by decide, fun d H3 k3 b3 d0 d1 => ?_⟩
          obtain ⟨n, rfl⟩ := Int.eq_ofNat_of_zero_le d0
          refine ⟨_, _, rfl, rfl, p, 1 + n, by rw [Int.natCast_add]; rfl, b3, by omega, fun q r H4 k4 b4 hq hd hm => ?_⟩
          refine ⟨by show 4 ≤ sizeLine; decide, fun T1 nT1 => ?_⟩
          have s5 := Same.new nT1 (o := .tup [V.str "pair", .int 0, .int 1, .int 2])
          have e5 : (upd H4 T1 (.tup [V.str "pair", .int 0, .int 1, .int 2])) T1 = some (.tup [V.str "pair", .int 0, .int 1, .int 2]) := upd_same
          revert s5 e5
          generalize upd H4 T1 (.tup [V.str "pair", .int 0, .int 1, .int 2]) = H5
          intro s5 e5
          refine ⟨by show 1 ≤ sizeLine; decide, fun T2 nT2 => ?_⟩
          have s6 := Same.new nT2 (o := .tup [V.ref T1])
          have e6 : (upd H5 T2 (.tup [V.ref T1])) T2 = some (.tup [V.ref T1]) := upd_same
          revert s6 e6
          generalize upd H5 T2 (.tup [V.ref T1]) = H6
          intro s6 e6
          obtain ⟨vs, hv, hds⟩ := id (hq.same (s5.trans s6))
          have hvl := DsAt.length r vs hds
          have hlm : r.length ≤ manyR r := len_many r
          refine ⟨q, T2, vs, _, rfl, rfl, hv, SqT.of e6, by show vs.length + 1 ≤ 100000; omega, fun q2 H7 s7 hq2 => ?_⟩
          have hone : DsAt K C H7 [V.ref T1] [Dd.two false 0 1 2] := ⟨_, _, rfl, ⟨T1, rfl, SqT.of (s7 _ _ (s6 _ _ e5)), by decide, by decide, by decide⟩, rfl⟩
          refine hD3 _ _ ⟨q2, r ++ [Dd.two false 0 1 2], rfl, ⟨_, hq2, DsAt_app r _ vs _ (DsAt_kt (KT.of s7) r vs hds) hone⟩, by simp, ?_, ?_, (k3.trans k4).trans (KB.of ((s5.trans s6).trans s7)), b4.same ((s5.trans s6).trans s7)⟩
          · rw [deepR_ap]
            exact Nat.lt_of_le_of_lt (Nat.max_le.mpr ⟨hd, show deepR [Dd.two false 0 1 2] ≤ 4 by decide⟩) (by decide)
          · rw [manyR_app, manyR_one, many_two]
            omega
        rintro σ3 H3 ⟨q, r, rfl, hq, hne, hd, hm, k3, b3⟩
        have hlm : r.length ≤ manyR r := len_many r
        refine seq7 (a := tAsg _ _) (fun σ' H' => ∃ (a5 : Addr) (xs : List Pv), σ' = [some (.ref a), some (.int (0 + ((i : Nat) : Int))), some (.ref p), some (.int (0 + ((m : Nat) : Int))), some (.ref q), some (.ref a5), x6, x7, x8, none] ∧ PvAt K C CP [p] H' (.tup xs) (.ref a5) ∧ OksP (WfP K mg) xs ∧ xs.length = r.length ∧ KB p H3 H' ∧ BagOk H' p) (fun D3 hD3 _ => ?_) ?_
        · refine ⟨_, rfl, _, rfl, p, q, r, rfl, b3, hq, hne, hd, by omega, fun xs a5 H4 k4 b4 hxs okx hxl => ?_⟩
          exact hD3 _ _ ⟨a5, xs, rfl, hxs, okx, hxl, k4, b4⟩
        rintro σ4 H4 ⟨a5, xs, rfl, hxs, okx, hxl, k4, b4⟩
        refine seq7 (a := tAsg _ _) (fun σ' H' => ∃ (q6 : Addr) (r6 : List Dd), σ' = [some (.ref a), some (.int (0 + ((i : Nat) : Int))), some (.ref p), some (.int (0 + ((m : Nat) : Int))), some (.ref q), some (.ref a5), some (.ref q6), x7, x8, none] ∧ RAt K C H' q6 r6 ∧ r6.length ≤ 2 ∧ KB p H4 H' ∧ BagOk H' p) (fun D3 hD3 _ => ?_) ?_
        · refine ⟨_, rfl, by show 4 ≤ sizeLine; decide, fun T1 nT1 => ?_⟩
          have s5 := Same.new nT1 (o := .tup [V.str "same", .int 0, .int 0, .int 1])
          have e5 : (upd H4 T1 (.tup [V.str "same", .int 0, .int 0, .int 1])) T1 = some (.tup [V.str "same", .int 0, .int 0, .int 1]) := upd_same
          revert s5 e5
          generalize upd H4 T1 (.tup [V.str "same", .int 0, .int 0, .int 1]) = H5
          intro s5 e5
          refine ⟨by show 1 ≤ sizeLine; decide, fun T2 nT2 => ?_⟩
          have s6 := Same.new nT2 (o := .tup [V.ref T1])
          have e6 : (upd H5 T2 (.tup [V.ref T1])) T2 = some (.tup [V.ref T1]) := upd_same
          revert s6 e6
          generalize upd H5 T2 (.tup [V.ref T1]) = H6
          intro s6 e6
          have b6 := (b4.same s5).same s6
          refine ⟨_, rfl, p, 4, rfl, b6, by decide, by decide, fun d H7 k7 b7 d0 d1 => ?_⟩
          obtain ⟨n, rfl⟩ := Int.eq_ofNat_of_zero_le d0
          have hone : RAt K C H6 T2 [Dd.two true 0 0 1] := ⟨_, SqT.of e6, _, _, rfl, ⟨T1, rfl, SqT.of (s6 _ _ e5), by decide, by decide, by decide⟩, rfl⟩
          refine ⟨_, _, rfl, rfl, p, T2, [Dd.two true 0 0 1], 6 + n, by rw [Int.natCast_add]; rfl, by omega, b7, hone.kt (b6.kt k7), by decide, fun q6 r6 H8 k8 b8 hq6 hl6 => ?_⟩
          exact hD3 _ _ ⟨q6, r6, rfl, hq6, hl6, ((KB.of (s5.trans s6)).trans k7).trans k8, b8⟩
        rintro σ5 H5 ⟨q6, r6, rfl, hq6, hl6, k5, b5⟩
        have hq5 := (hq.kt (b3.kt k4)).kt (b4.kt k5)
        refine ⟨_, rfl, _, rfl, _, rfl, p, q, r, rfl, b5, hq5, hne, hd, by omega, fun xs2 a7 H6 k6 b6 hxs2 okx2 hxl2 => ?_⟩
        have k46 := k5.trans k6
        have hxs6 := PvAt.kp (Kp.kb (List.mem_singleton.mpr rfl) b4 k46) _ _ hxs
        obtain ⟨vs, hv6, hds6⟩ := id (hq5.kt (b5.kt k6))
        obtain ⟨ws, hw6, hws6⟩ := id (hq6.kt (b5.kt k6))
        have pvd6 : PvsAt K C CP [p] H6 (rPv r) vs := DsAt_pv r vs hds6
        have pvw6 : PvsAt K C CP [p] H6 (rPv r6) ws := DsAt_pv r6 ws hws6
        obtain ⟨us, hu6, pvu6⟩ := pv_tup hxs6
        have hvl : vs.length = r.length := DsAt.length r vs hds6
        have hwl : ws.length = r6.length := DsAt.length r6 ws hws6
        have hul : us.length = r.length := by rw [pvu6.len, hxl]
        refine ⟨_, rfl, _, rfl, q, vs, rfl, .inr hv6, fun L nL => ?_⟩
        have xL := (ex1 b6).out nL
        have s7 := Same.new nL (o := .lst vs)
        have e7 : (upd H6 L (.lst vs)) L = some (.lst vs) := upd_same
        revert s7 e7
        generalize upd H6 L (.lst vs) = H7
        intro s7 e7
        refine ⟨_, rfl, _, rfl, a5, q, us, vs, rfl, rfl, sqt_kt (KT.of s7) hu6, sqt_kt (KT.of s7) hv6, by omega, fun c1 H8 s8 hc1 => ?_⟩
        have s68 := s7.trans s8
        refine ⟨_, rfl, _, rfl, q, q6, vs, ws, rfl, rfl, sqt_kt (KT.of s68) hv6, sqt_kt (KT.of s68) hw6, by omega, fun c2 H9 s9 hc2 => ?_⟩
        have s69 := s68.trans s9
        refine ⟨_, rfl, _, rfl, q6, a5, ws, us, rfl, rfl, sqt_kt (KT.of s69) hw6, sqt_kt (KT.of s69) hu6, by omega, fun c3 HA sA hc3 => ?_⟩
        have s6A := s69.trans sA
        refine ⟨by show 7 ≤ sizeLine; decide, fun L2 nL2 => ?_⟩
        have sB := Same.new nL2 (o := .lst [V.ref a5, .ref a7, .ref q, .ref L, .ref c1, .ref c2, .ref c3])
        have eB : (upd HA L2 (.lst [V.ref a5, .ref a7, .ref q, .ref L, .ref c1, .ref c2, .ref c3])) L2 = some (.lst [V.ref a5, .ref a7, .ref q, .ref L, .ref c1, .ref c2, .ref c3]) := upd_same
        revert sB eB
        generalize upd HA L2 (.lst [V.ref a5, .ref a7, .ref q, .ref L, .ref c1, .ref c2, .ref c3]) = HB
        intro sB eB
        have s6B := s6A.trans sB
        have kpB : Kp [p] H6 HB := Kp.same s6B
        have hall : PvsAt K C CP [p] HB [.tup xs, .tup xs2, .tup (rPv r), .lst (rPv r), .tup (xs ++ rPv r), .tup (rPv r ++ rPv r6), .tup (rPv r6 ++ xs)] [V.ref a5, .ref a7, .ref q, .ref L, .ref c1, .ref c2, .ref c3] := by
          refine .cons (PvAt.kp kpB _ _ hxs6) (.cons (PvAt.kp kpB _ _ hxs2) (.cons ?_ (.cons ?_ (.cons ?_ (.cons ?_ (.cons ?_ .nil))))))
          · rw [PvAt]
            exact ⟨q, _, rfl, sqt_kt (KT.of s6B) hv6, PvsAt.kp kpB _ _ pvd6⟩
          · rw [PvAt]
            exact ⟨L, _, rfl, xL, (((s8.trans s9).trans sA).trans sB) _ _ e7, PvsAt.kp kpB _ _ pvd6⟩
          · rw [PvAt]
            exact ⟨c1, _, rfl, sqt_kt (KT.of ((s9.trans sA).trans sB)) hc1, PvsAt.app (PvsAt.kp kpB _ _ pvu6) (PvsAt.kp kpB _ _ pvd6)⟩
          · rw [PvAt]
            exact ⟨c2, _, rfl, sqt_kt (KT.of (sA.trans sB)) hc2, PvsAt.app (PvsAt.kp kpB _ _ pvd6) (PvsAt.kp kpB _ _ pvw6)⟩
          · rw [PvAt]
            exact ⟨c3, _, rfl, sqt_kt (KT.of sB) hc3, PvsAt.app (PvsAt.kp kpB _ _ pvw6) (PvsAt.kp kpB _ _ pvu6)⟩
        have hok : OksP (WfP K mg) [.tup xs, .tup xs2, .tup (rPv r), .lst (rPv r), .tup (xs ++ rPv r), .tup (rPv r ++ rPv r6), .tup (rPv r6 ++ xs)] := oksP_cons (okP_tup okx) (oksP_cons (okP_tup okx2) (oksP_cons (okP_tup (okP_row r)) (oksP_cons okP_lst (oksP_cons (okP_tup (oksP_app okx (okP_row r))) (oksP_cons (okP_tup (oksP_app (okP_row r) (okP_row r6))) (oksP_cons (okP_tup (oksP_app (okP_row r6) okx)) oksP_nil))))))
        have kAll : KB p H1 HB := ((((k2.trans k3).trans k4).trans k46)).trans (KB.of s6B)
        refine ⟨L2, rfl, ⟨_, SqL.of eB⟩, for_list (K := K) (a := L2) (xs := [V.ref a5, .ref a7, .ref q, .ref L, .ref c1, .ref c2, .ref c3]) (fun n σ H' => ∃ y7 : Option V, σ = [some (.ref a), some (.int (0 + ((i : Nat) : Int))), some (.ref p), some (.int (0 + ((m : Nat) : Int))), some (.ref q), some (.ref a5), some (.ref q6), y7, x8, none] ∧ Same HB H') ⟨_, rfl, Same.refl _⟩ (fun n σ H' _ z => by obtain ⟨_, _, z⟩ := z; exact SqL.of (z _ _ eB)) ?_ ?_⟩
        · rintro n v σ HC hv ⟨y7, rfl, sC⟩
          obtain ⟨x, hx, hxv⟩ := hall.getV hv
          dsimp only [gName]
          refine ⟨_, rfl, [p], v, x, rfl, PvAt.kp (Kp.same sC) _ _ hxv, OksP_mem hok (List.mem_of_getElem? hx), fun HD sD => ?_⟩
          exact ⟨_, rfl, iteF ⟨_, rfl, sC.trans sD⟩⟩
        · rintro σ HC ⟨y7, rfl, sC⟩
          exact ⟨_, _, _, _, _, _, rfl, kAll.trans (KB.of sC), (b6.same s6B).same sC⟩
      rintro σ3 H3 ⟨x3, x4, x5, x6, x7, x8, rfl, kb3, bag3⟩
      have hex3 := ex1 bag3
      have kbS := kb3
      refine ⟨Nat.zero_le _, fun To1 nTo1 => ?_⟩
      have so1 := Same.new nTo1 (o := .lst [])
      have eo1 : (upd H3 To1 (.lst [])) To1 = some (.lst []) := upd_same
      have xTo1 : To1 ∉ [p] := Ex.out hex3 nTo1
      revert so1 eo1
      generalize upd H3 To1 (.lst []) = Go1
      intro so1 eo1
      replace kb3 := kb3.trans (KB.of so1)
      replace bag3 := bag3.same so1
      replace hex3 := hex3.same so1
      have fTo1 : PvAt K C CP [p] Go1 (.lst []) (.ref To1) := by
        rw [PvAt]
        exact ⟨To1, _, rfl, xTo1, eo1, .nil⟩
      refine fun To2 Go2 so2 _ hTo2 => ?_
      have fTo2 : PvAt K C CP [p] Go2 (.th .nil) (.ref To2) := by
        rw [PvAt]
        exact ⟨To2, rfl, hTo2, by decide⟩
      replace kb3 := kb3.trans (KB.of so2)
      replace bag3 := bag3.same so2
      replace hex3 := hex3.same so2
      replace fTo1 := PvAt.kp (Kp.same so2) _ _ fTo1
      refine ⟨Nat.zero_le _, fun To3 nTo3 => ?_⟩
      have so3 := Same.new nTo3 (o := .tup [])
      have eo3 : (upd Go2 To3 (.tup [])) To3 = some (.tup []) := upd_same
      revert so3 eo3
      generalize upd Go2 To3 (.tup []) = Go3
      intro so3 eo3
      replace kb3 := kb3.trans (KB.of so3)
      replace bag3 := bag3.same so3
      replace hex3 := hex3.same so3
      replace fTo1 := PvAt.kp (Kp.same so3) _ _ fTo1
      replace fTo2 := PvAt.kp (Kp.same so3) _ _ fTo2
      have fTo3 : PvAt K C CP [p] Go3 (.tup []) (.ref To3) := by
        rw [PvAt]
        exact ⟨To3, _, rfl, SqT.of eo3, .nil⟩
      refine ⟨by show 1 ≤ sizeLine; decide, fun To4 nTo4 => ?_⟩
      have so4 := Same.new nTo4 (o := .lst [V.ref To3])
      have eo4 : (upd Go3 To4 (.lst [V.ref To3])) To4 = some (.lst [V.ref To3]) := upd_same
      have xTo4 : To4 ∉ [p] := Ex.out hex3 nTo4
      revert so4 eo4
      generalize upd Go3 To4 (.lst [V.ref To3]) = Go4
      intro so4 eo4
      replace kb3 := kb3.trans (KB.of so4)
      replace bag3 := bag3.same so4
      replace hex3 := hex3.same so4
      replace fTo1 := PvAt.kp (Kp.same so4) _ _ fTo1
      replace fTo2 := PvAt.kp (Kp.same so4) _ _ fTo2
      replace fTo3 := PvAt.kp (Kp.same so4) _ _ fTo3
      have fTo4 : PvAt K C CP [p] Go4 (.lst [.tup []]) (.ref To4) := by
        rw [PvAt]
        exact ⟨To4, _, rfl, xTo4, eo4, (.cons fTo3 .nil)⟩
      refine ⟨by show 1 ≤ sizeLine; decide, fun To5 nTo5 => ?_⟩
      have so5 := Same.new nTo5 (o := .tup [V.non])
      have eo5 : (upd Go4 To5 (.tup [V.non])) To5 = some (.tup [V.non]) := upd_same
      revert so5 eo5
      generalize upd Go4 To5 (.tup [V.non]) = Go5
      intro so5 eo5
      replace kb3 := kb3.trans (KB.of so5)
      replace bag3 := bag3.same so5
      replace hex3 := hex3.same so5
      replace fTo1 := PvAt.kp (Kp.same so5) _ _ fTo1
      replace fTo2 := PvAt.kp (Kp.same so5) _ _ fTo2
      replace fTo4 := PvAt.kp (Kp.same so5) _ _ fTo4
      have fTo5 : PvAt K C CP [p] Go5 (.tup [.non]) (.ref To5) := by
        rw [PvAt]
        exact ⟨To5, _, rfl, SqT.of eo5, (.cons (by rw [PvAt]) .nil)⟩
      refine ⟨Nat.zero_le _, fun To6 nTo6 => ?_⟩
      have so6 := Same.new nTo6 (o := .tup [])
      have eo6 : (upd Go5 To6 (.tup [])) To6 = some (.tup []) := upd_same
      revert so6 eo6
      generalize upd Go5 To6 (.tup []) = Go6
      intro so6 eo6
      replace kb3 := kb3.trans (KB.of so6)
      replace bag3 := bag3.same so6
      replace hex3 := hex3.same so6
      replace fTo1 := PvAt.kp (Kp.same so6) _ _ fTo1
      replace fTo2 := PvAt.kp (Kp.same so6) _ _ fTo2
      replace fTo4 := PvAt.kp (Kp.same so6) _ _ fTo4
      replace fTo5 := PvAt.kp (Kp.same so6) _ _ fTo5
      have fTo6 : PvAt K C CP [p] Go6 (.tup []) (.ref To6) := by
        rw [PvAt]
        exact ⟨To6, _, rfl, SqT.of eo6, .nil⟩
      refine ⟨by show 1 ≤ sizeLine; decide, fun To7 nTo7 => ?_⟩
      have so7 := Same.new nTo7 (o := .tup [V.ref To6])
      have eo7 : (upd Go6 To7 (.tup [V.ref To6])) To7 = some (.tup [V.ref To6]) := upd_same
      revert so7 eo7
      generalize upd Go6 To7 (.tup [V.ref To6]) = Go7
      intro so7 eo7
      replace kb3 := kb3.trans (KB.of so7)
      replace bag3 := bag3.same so7
      replace hex3 := hex3.same so7
      replace fTo1 := PvAt.kp (Kp.same so7) _ _ fTo1
      replace fTo2 := PvAt.kp (Kp.same so7) _ _ fTo2
      replace fTo4 := PvAt.kp (Kp.same so7) _ _ fTo4
      replace fTo5 := PvAt.kp (Kp.same so7) _ _ fTo5
      replace fTo6 := PvAt.kp (Kp.same so7) _ _ fTo6
      have fTo7 : PvAt K C CP [p] Go7 (.tup [.tup []]) (.ref To7) := by
        rw [PvAt]
        exact ⟨To7, _, rfl, SqT.of eo7, (.cons fTo6 .nil)⟩
      refine ⟨Nat.zero_le _, fun To8 nTo8 => ?_⟩
      have so8 := Same.new nTo8 (o := .tup [])
      have eo8 : (upd Go7 To8 (.tup [])) To8 = some (.tup []) := upd_same
      revert so8 eo8
      generalize upd Go7 To8 (.tup []) = Go8
      intro so8 eo8
      replace kb3 := kb3.trans (KB.of so8)
      replace bag3 := bag3.same so8
      replace hex3 := hex3.same so8
      replace fTo1 := PvAt.kp (Kp.same so8) _ _ fTo1
      replace fTo2 := PvAt.kp (Kp.same so8) _ _ fTo2
      replace fTo4 := PvAt.kp (Kp.same so8) _ _ fTo4
      replace fTo5 := PvAt.kp (Kp.same so8) _ _ fTo5
      replace fTo7 := PvAt.kp (Kp.same so8) _ _ fTo7
      refine ⟨To8, [], rfl, ⟨[], SqT.of eo8, rfl⟩, by decide, by decide, fun To9 Go9 so9 _ hTo9 => ?_⟩
      have fTo9 : PvAt K C CP [p] Go9 (.pg []) (.ref To9) := by
        rw [PvAt]
        exact ⟨To9, rfl, hTo9⟩
      replace kb3 := kb3.trans (KB.of so9)
      replace bag3 := bag3.same so9
      replace hex3 := hex3.same so9
      replace fTo1 := PvAt.kp (Kp.same so9) _ _ fTo1
      replace fTo2 := PvAt.kp (Kp.same so9) _ _ fTo2
      replace fTo4 := PvAt.kp (Kp.same so9) _ _ fTo4
      replace fTo5 := PvAt.kp (Kp.same so9) _ _ fTo5
      replace fTo7 := PvAt.kp (Kp.same so9) _ _ fTo7
      refine ⟨Nat.zero_le _, fun To10 nTo10 => ?_⟩
      have so10 := Same.new nTo10 (o := .tup [])
      have eo10 : (upd Go9 To10 (.tup [])) To10 = some (.tup []) := upd_same
      revert so10 eo10
      generalize upd Go9 To10 (.tup []) = Go10
      intro so10 eo10
      replace kb3 := kb3.trans (KB.of so10)
      replace bag3 := bag3.same so10
      replace hex3 := hex3.same so10
      replace fTo1 := PvAt.kp (Kp.same so10) _ _ fTo1
      replace fTo2 := PvAt.kp (Kp.same so10) _ _ fTo2
      replace fTo4 := PvAt.kp (Kp.same so10) _ _ fTo4
      replace fTo5 := PvAt.kp (Kp.same so10) _ _ fTo5
      replace fTo7 := PvAt.kp (Kp.same so10) _ _ fTo7
      replace fTo9 := PvAt.kp (Kp.same so10) _ _ fTo9
      refine ⟨To10, [], rfl, ⟨[], SqT.of eo10, rfl⟩, by decide, by decide, fun To11 Go11 so11 _ hTo11 => ?_⟩
      have fTo11 : PvAt K C CP [p] Go11 (.pg []) (.ref To11) := by
        rw [PvAt]
        exact ⟨To11, rfl, hTo11⟩
      replace kb3 := kb3.trans (KB.of so11)
      replace bag3 := bag3.same so11
      replace hex3 := hex3.same so11
      replace fTo1 := PvAt.kp (Kp.same so11) _ _ fTo1
      replace fTo2 := PvAt.kp (Kp.same so11) _ _ fTo2
      replace fTo4 := PvAt.kp (Kp.same so11) _ _ fTo4
      replace fTo5 := PvAt.kp (Kp.same so11) _ _ fTo5
      replace fTo7 := PvAt.kp (Kp.same so11) _ _ fTo7
      replace fTo9 := PvAt.kp (Kp.same so11) _ _ fTo9
      refine ⟨by show 1 ≤ sizeLine; decide, fun To12 nTo12 => ?_⟩
      have so12 := Same.new nTo12 (o := .tup [V.ref To11])
      have eo12 : (upd Go11 To12 (.tup [V.ref To11])) To12 = some (.tup [V.ref To11]) := upd_same
      revert so12 eo12
      generalize upd Go11 To12 (.tup [V.ref To11]) = Go12
      intro so12 eo12
      replace kb3 := kb3.trans (KB.of so12)
      replace bag3 := bag3.same so12
      replace hex3 := hex3.same so12
      replace fTo1 := PvAt.kp (Kp.same so12) _ _ fTo1
      replace fTo2 := PvAt.kp (Kp.same so12) _ _ fTo2
      replace fTo4 := PvAt.kp (Kp.same so12) _ _ fTo4
      replace fTo5 := PvAt.kp (Kp.same so12) _ _ fTo5
      replace fTo7 := PvAt.kp (Kp.same so12) _ _ fTo7
      replace fTo9 := PvAt.kp (Kp.same so12) _ _ fTo9
      replace fTo11 := PvAt.kp (Kp.same so12) _ _ fTo11
      have fTo12 : PvAt K C CP [p] Go12 (.tup [.pg []]) (.ref To12) := by
        rw [PvAt]
        exact ⟨To12, _, rfl, SqT.of eo12, (.cons fTo11 .nil)⟩
      have bagP := bag3
      refine ⟨by show 12 ≤ sizeLine; decide, fun To13 nTo13 => ?_⟩
      have so13 := Same.new nTo13 (o := .lst [V.non, V.int (0), V.bl true, V.str "", V.str "a = .", V.ref To1, V.ref To2, V.ref To4, V.ref To5, V.ref To7, V.ref To9, V.ref To12])
      have eo13 : (upd Go12 To13 (.lst [V.non, V.int (0), V.bl true, V.str "", V.str "a = .", V.ref To1, V.ref To2, V.ref To4, V.ref To5, V.ref To7, V.ref To9, V.ref To12])) To13 = some (.lst [V.non, V.int (0), V.bl true, V.str "", V.str "a = .", V.ref To1, V.ref To2, V.ref To4, V.ref To5, V.ref To7, V.ref To9, V.ref To12]) := upd_same
      have xTo13 : To13 ∉ [p] := Ex.out hex3 nTo13
      revert so13 eo13
      generalize upd Go12 To13 (.lst [V.non, V.int (0), V.bl true, V.str "", V.str "a = .", V.ref To1, V.ref To2, V.ref To4, V.ref To5, V.ref To7, V.ref To9, V.ref To12]) = Go13
      intro so13 eo13
      replace kb3 := kb3.trans (KB.of so13)
      replace bag3 := bag3.same so13
      replace hex3 := hex3.same so13
      replace fTo1 := PvAt.kp (Kp.same so13) _ _ fTo1
      replace fTo2 := PvAt.kp (Kp.same so13) _ _ fTo2
      replace fTo4 := PvAt.kp (Kp.same so13) _ _ fTo4
      replace fTo5 := PvAt.kp (Kp.same so13) _ _ fTo5
      replace fTo7 := PvAt.kp (Kp.same so13) _ _ fTo7
      replace fTo9 := PvAt.kp (Kp.same so13) _ _ fTo9
      replace fTo12 := PvAt.kp (Kp.same so13) _ _ fTo12
      have gTo13 : PvsAt K C CP [p] Go13 ([.non, .int (0), .bl true, .str "", .str "a = .", .lst [], .th .nil, .lst [.tup []], .tup [.non], .tup [.tup []], .pg [], .tup [.pg []]]) ([V.non, V.int (0), V.bl true, V.str "", V.str "a = .", V.ref To1, V.ref To2, V.ref To4, V.ref To5, V.ref To7, V.ref To9, V.ref To12]) := (.cons (by rw [PvAt]) (.cons (by rw [PvAt]) (.cons (by rw [PvAt]) (.cons (by rw [PvAt]) (.cons (by rw [PvAt]) (.cons fTo1 (.cons fTo2 (.cons fTo4 (.cons fTo5 (.cons fTo7 (.cons fTo9 (.cons fTo12 .nil))))))))))))
      have neO : To13 ≠ p := bag_neF bagP nTo13
      have oko : OksP (WfP K mg) ([.non, .int (0), .bl true, .str "", .str "a = .", .lst [], .th .nil, .lst [.tup []], .tup [.non], .tup [.tup []], .pg [], .tup [.pg []]] : List Pv) := (oksP_cons okP_non (oksP_cons okP_int (oksP_cons okP_bl (oksP_cons (okW "" (by simp [oddS])) (oksP_cons (okW "a = ." (by simp [oddS])) (oksP_cons okP_lst (oksP_cons okP_th (oksP_cons okP_lst (oksP_cons (okP_tup (oksP_cons okP_non oksP_nil)) (oksP_cons (okP_tup (oksP_cons (okP_tup oksP_nil) oksP_nil)) (oksP_cons okP_pg (oksP_cons (okP_tup (oksP_cons okP_pg oksP_nil)) oksP_nil))))))))))))
      refine ⟨_, rfl, _, rfl, p, 12, rfl, bag3, by decide, by decide, fun d HD kD bD d0 d1 => ?_⟩
      obtain ⟨n, rfl⟩ := Int.eq_ofNat_of_zero_le d0
      have hn : n < ([.non, .int (0), .bl true, .str "", .str "a = .", .lst [], .th .nil, .lst [.tup []], .tup [.non], .tup [.tup []], .pg [], .tup [.pg []]] : List Pv).length := by
        show n < 12
        omega
      obtain ⟨u, hu, hyu⟩ := gTo13.get (List.getElem?_eq_getElem hn)
      refine ⟨To13, _, _, u, rfl, rfl, SqL.of (kD _ _ neO eo13), atI_nat hu, [p], u, _, rfl, PvAt.kp (Kp.kb (List.mem_singleton.mpr rfl) bag3 kD) _ _ hyu, OksP_mem oko (List.getElem_mem hn), fun HE sE => ?_⟩
      exact ⟨_, rfl, iteF ⟨_, _, _, _, _, _, _, _, rfl, same_kb (s0.trans sb) ((kb3.trans kD).trans (KB.of sE)) hp0⟩⟩
    rintro σ1 H1 ⟨x1, x2, x3, x4, x5, x6, x7, x8, rfl, s1⟩
    refine ⟨by show 3 ≤ sizeLine; decide, fun T1 nT1 => ?_⟩
    have s2 := Same.new nT1 (o := .tup [V.str "first", .int 0, .int 0])
    have e2 : (upd H1 T1 (.tup [V.str "first", .int 0, .int 0])) T1 = some (.tup [V.str "first", .int 0, .int 0]) := upd_same
    revert s2 e2
    generalize upd H1 T1 (.tup [V.str "first", .int 0, .int 0]) = H2
    intro s2 e2
    refine ⟨by show 1 ≤ sizeLine; decide, fun T2 nT2 => ?_⟩
    have s3 := Same.new nT2 (o := .tup [V.ref T1])
    have e3 : (upd H2 T2 (.tup [V.ref T1])) T2 = some (.tup [V.ref T1]) := upd_same
    revert s3 e3
    generalize upd H2 T2 (.tup [V.ref T1]) = H3
    intro s3 e3
    have hone : RAt K C H3 T2 [Dd.take false 0 0] := ⟨_, SqT.of e3, _, _, rfl, ⟨T1, rfl, SqT.of (s3 _ _ e2), by decide, by decide⟩, rfl⟩
    have pvR7 : ∀ {G : Hp} {q : Addr} {r : List Dd}, RAt K C G q r → PvAt K C CP [] G (.tup (rPv r)) (.ref q) := fun h => by
      obtain ⟨vs, h1, h2⟩ := h
      rw [PvAt]
      exact ⟨_, vs, rfl, h1, DsAt_pv _ vs h2⟩
    refine ⟨_, rfl, T2, Dd.take false 0 0, 4000, rfl, rfl, hone, by decide, by decide, fun q4 H4 s4 hq4 => ?_⟩
    refine ⟨[], _, _, rfl, pvR7 hq4, okP_tup (okP_row _), fun H5 s5 => ⟨_, rfl, iteT ?_⟩⟩
    have s35 := s4.trans s5
    refine ⟨_, rfl, T2, Dd.take false 0 0, 4001, rfl, rfl, hone.same s35, by decide, by decide, fun q6 H6 s6 hq6 => ?_⟩
    refine ⟨[], _, _, rfl, pvR7 hq6, okP_tup (okP_row _), fun H7 s7 => ⟨_, rfl, iteT ?_⟩⟩
    have s37 := (s35.trans s6).trans s7
    refine ⟨_, rfl, T2, Dd.take false 0 0, 3999, rfl, rfl, hone.same s37, by decide, by decide, fun q8 H8 s8 hq8 => ?_⟩
    refine ⟨by show 3 ≤ sizeLine; decide, fun T3 nT3 => ?_⟩
    have s9 := Same.new nT3 (o := .tup [V.str "while", .int 1, .ref q8])
    have e9 : (upd H8 T3 (.tup [V.str "while", .int 1, .ref q8])) T3 = some (.tup [V.str "while", .int 1, .ref q8]) := upd_same
    revert s9 e9
    generalize upd H8 T3 (.tup [V.str "while", .int 1, .ref q8]) = H9
    intro s9 e9
    refine ⟨by show 1 ≤ sizeLine; decide, fun T4 nT4 => ?_⟩
    have sA := Same.new nT4 (o := .tup [V.ref T3])
    have eA : (upd H9 T4 (.tup [V.ref T3])) T4 = some (.tup [V.ref T3]) := upd_same
    revert sA eA
    generalize upd H9 T4 (.tup [V.ref T3]) = HA
    intro sA eA
    obtain ⟨us, hu1, hu2⟩ := id (hq8.same (s9.trans sA))
    have hwh : RAt K C HA T4 [Dd.wh 1 (List.replicate (3999 : Int).toNat (Dd.take false 0 0))] := ⟨_, SqT.of eA, _, _, rfl, ⟨T3, q8, us, rfl, SqT.of (sA _ _ e9), by decide, hu1, hu2⟩, rfl⟩
    have hone2 := hone.same ((s37.trans s8).trans (s9.trans sA))
    obtain ⟨xa, ha1, ha2⟩ := hwh
    obtain ⟨xb, hb1, hb2⟩ := hone2
    have la := DsAt.length _ xa ha2
    have lb := DsAt.length _ xb hb2
    refine ⟨_, rfl, T4, T2, xa, xb, rfl, rfl, ha1, hb1, by rw [la, lb]; simp only [List.length_cons, List.length_nil]; omega, fun qB HB sB hqB => ?_⟩
    have hrB : RAt K C HB qB ([Dd.wh 1 (List.replicate (3999 : Int).toNat (Dd.take false 0 0))] ++ [Dd.take false 0 0]) := ⟨_, hqB, DsAt_app _ _ _ _ (DsAt_kt (KT.of sB) _ _ ha2) (DsAt_kt (KT.of sB) _ _ hb2)⟩
    exact ⟨[], _, _, rfl, pvR7 hrB, okP_tup (okP_row _), fun HC sC => k HC⟩
end
end Js
set_option Elab.async false
set_option linter.all false
set_option maxRecDepth 100000
set_option maxHeartbeats 4000000
namespace Js
open PySem L2 PyProof.Rows
theorem all_mk {P : Program} {w : World} {K : PySem.W.Frag} {h : Heap} {mg : Str → Option Value} {fa C : Addr} (X : K.In h) (G : h.Ns mainGlobals mg) (hfa : mg "law" = some (.ref fa))
    {tM : Tok}
    {oI : Value} {odI anI odT : Option Addr} {slI slT : Array (Option Value)} {kVI dcI pmI cdI ctI ocT : Value} {fI TI : Addr} {nT : Nat}
    {fEq : Addr} {ocEq kVEq dcEq pmEq cdEq ctEq : Value} {odEq anEq : Option Addr} {slEq : Array (Option Value)}
    {fPa : Addr} {ocPa kVPa dcPa pmPa cdPa ctPa : Value} {odPa anPa : Option Addr} {slPa : Array (Option Value)}
    {fAl : Addr} {ocAl kVAl dcAl pmAl cdAl ctAl : Value} {odAl anAl : Option Addr} {slAl : Array (Option Value)}
    {fIn : Addr} {ocIn kVIn dcIn pmIn cdIn ctIn : Value} {odIn anIn : Option Addr} {slIn : Array (Option Value)}
    {fFt : Addr} {ocFt kVFt dcFt pmFt cdFt ctFt : Value} {odFt anFt : Option Addr} {slFt : Array (Option Value)}
    {fHf : Addr} {ocHf kVHf dcHf pmHf cdHf ctHf : Value} {odHf anHf : Option Addr} {slHf : Array (Option Value)}
    {fRi : Addr} {ocRi kVRi dcRi pmRi cdRi ctRi : Value} {odRi anRi : Option Addr} {slRi : Array (Option Value)}
    {fLk : Addr} {ocLk kVLk dcLk pmLk cdLk ctLk : Value} {odLk anLk : Option Addr} {slLk : Array (Option Value)}
    {fLy : Addr} {ocLy kVLy dcLy pmLy cdLy ctLy : Value} {odLy anLy : Option Addr} {slLy : Array (Option Value)}
    {fBa : Addr} {ocBa kVBa dcBa pmBa cdBa ctBa : Value} {odBa anBa : Option Addr} {slBa : Array (Option Value)}
    {fTa : Addr} {ocTa kVTa dcTa pmTa cdTa ctTa : Value} {odTa anTa : Option Addr} {slTa : Array (Option Value)}
    {fTh : Addr} {ocTh kVTh dcTh pmTh cdTh ctTh : Value} {odTh anTh : Option Addr} {slTh : Array (Option Value)}
    {fNa : Addr} {ocNa kVNa dcNa pmNa cdNa ctNa : Value} {odNa anNa : Option Addr} {slNa : Array (Option Value)}
    {fDe : Addr} {ocDe kVDe dcDe pmDe cdDe ctDe : Value} {odDe anDe : Option Addr} {slDe : Array (Option Value)}
    {fDs : Addr} {ocDs kVDs dcDs pmDs cdDs ctDs : Value} {odDs anDs : Option Addr} {slDs : Array (Option Value)}
    {fTo : Addr} {ocTo kVTo dcTo pmTo cdTo ctTo : Value} {odTo anTo : Option Addr} {slTo : Array (Option Value)}
    {fXro : Addr} {ocXro kVXro dcXro pmXro cdXro ctXro : Value} {odXro anXro : Option Addr} {slXro : Array (Option Value)}
    {fXin : Addr} {ocXin kVXin dcXin pmXin cdXin ctXin : Value} {odXin anXin : Option Addr} {slXin : Array (Option Value)}
    {fXfo : Addr} {ocXfo kVXfo dcXfo pmXfo cdXfo ctXfo : Value} {odXfo anXfo : Option Addr} {slXfo : Array (Option Value)}
    {fXwr : Addr} {ocXwr kVXwr dcXwr pmXwr cdXwr ctXwr : Value} {odXwr anXwr : Option Addr} {slXwr : Array (Option Value)}
    {fXod : Addr} {ocXod kVXod dcXod pmXod cdXod ctXod : Value} {odXod anXod : Option Addr} {slXod : Array (Option Value)}
    {fXbe : Addr} {ocXbe kVXbe dcXbe pmXbe cdXbe ctXbe : Value} {odXbe anXbe : Option Addr} {slXbe : Array (Option Value)}
    {fXne : Addr} {ocXne kVXne dcXne pmXne cdXne ctXne : Value} {odXne anXne : Option Addr} {slXne : Array (Option Value)}
    {fXgd : Addr} {ocXgd kVXgd dcXgd pmXgd cdXgd ctXgd : Value} {odXgd anXgd : Option Addr} {slXgd : Array (Option Value)}
    {fLaw : Addr} {ocLaw kVLaw dcLaw pmLaw cdLaw ctLaw : Value} {odLaw anLaw : Option Addr} {slLaw : Array (Option Value)}
    {CP dF : Addr} {esF : Array DictEntry} {nFm : Nat} {tN1 tN2 tN3 tf0 tf1 tf2 tf3 tf4 tf5 tf6 : Tok}
    {fPI : Addr} {ocPI kVPI dcPI pmPI cdPI ctPI : Value} {odPI anPI : Option Addr} {slPI : Array (Option Value)}
    {fPL : Addr} {ocPL kVPL dcPL pmPL cdPL ctPL : Value} {odPL anPL : Option Addr} {slPL : Array (Option Value)}
    {fPE : Addr} {ocPE kVPE dcPE pmPE cdPE ctPE : Value} {odPE anPE : Option Addr} {slPE : Array (Option Value)}
    {NP fZ : Addr} {nmZ qZ : Str} {NZ : Addr} {bsZ : List Value} {snZ : List Str} {subZ : List Value} {abZ : Bool} {colZ : Option Bool} {ddZ : Option Addr} {m0Z m1Z m2Z m3Z m5Z : Option Value}
    {ocZ kVZ dcZ pmZ cdZ ctZ : Value} {odZ anZ : Option Addr} {slZ : Array (Option Value)}
    {n1 n2 n3 n4 n5 n6 : Addr}
    (aC : PySem.W.nsIn K mainGlobals "Thing" = some (some (.ref C)))
    (pg : PySem.W.plainGet K C Str.empty = true)
    (hd : PySem.W.hasDictIn K C = true)
    (po : PySem.W.plainOver K C = true)
    (sa : PySem.W.findIn K (.ref C) "__setattr__" = some (some (.builtin "object.__setattr__")))
    (mkC : PySem.W.makesIn K C = true)
    (kc : PySem.W.keepIn K (.ref C) = true)
    (nF : PySem.W.findIn K (.ref C) "first" = some none)
    (nS : PySem.W.findIn K (.ref C) "second" = some none)
    (nZ : PySem.W.findIn K (.ref C) "size" = some none)
    (ca : PySem.W.findIn K (.ref C) "__class__" = some (some (.builtin "object.__class__")))
    (cn : PySem.W.specialIn K (.builtin "object.__class__") "__get__" = some (some (.builtin "getset_descriptor.__get__")))
    (ct : PySem.W.takesIn K (.builtin "object.__class__") = some true)
    (cm : PySem.W.mroIn K C (.type "object") = some true)
    (neC : PySem.W.findIn K (.ref C) "__ne__" = some (some (.builtin "object.__ne__")))
    (aM : PySem.W.nsIn K mainGlobals "MOST_PAIRS" = some (some (.int 4000 tM)))
    (aI : PySem.W.findIn K (.ref C) "__init__" = some (some (.ref fI)))
    (iI : PySem.W.isFn K (.ref fI) = true)
    (lI : K.lookup fI = some ⟨oI, odI, .func (PySem.W.fnOf "__init__" "Thing.__init__" (defArgs sInit) (defBody sInit) (defScope sInit) (.ref TI) kVI dcI pmI anI cdI ctI), slI⟩)
    (cI : PySem.W.codeIn K cdI "Thing.__init__" = true)
    (kI : PySem.W.keepIn K (.ref fI) = true)
    (lT : K.lookup TI = some ⟨ocT, odT, .seq #[.none, .none] nT, slT⟩)
    (aEq : PySem.W.findIn K (.ref C) "__eq__" = some (some (.ref fEq)))
    (iEq : PySem.W.isFn K (.ref fEq) = true)
    (lEq : K.lookup fEq = some ⟨ocEq, odEq, .func (PySem.W.fnOf "__eq__" "Thing.__eq__" (defArgs sEq) (defBody sEq) (defScope sEq) .none kVEq dcEq pmEq anEq cdEq ctEq), slEq⟩)
    (cEq : PySem.W.codeIn K cdEq "Thing.__eq__" = true)
    (kEq : PySem.W.keepIn K (.ref fEq) = true)
    (aPa : PySem.W.nsIn K mainGlobals "pairs_in" = some (some (.ref fPa)))
    (lPa : K.lookup fPa = some ⟨ocPa, odPa, .func (PySem.W.fnOf "pairs_in" "pairs_in" (defArgs sPairs) (defBody sPairs) (defScope sPairs) .none kVPa dcPa pmPa anPa cdPa ctPa), slPa⟩)
    (cPa : PySem.W.codeIn K cdPa "pairs_in" = true)
    (kPa : PySem.W.keepIn K (.ref fPa) = true)
    (aAl : PySem.W.nsIn K mainGlobals "alike" = some (some (.ref fAl)))
    (lAl : K.lookup fAl = some ⟨ocAl, odAl, .func (PySem.W.fnOf "alike" "alike" (defArgs sAlike) (defBody sAlike) (defScope sAlike) .none kVAl dcAl pmAl anAl cdAl ctAl), slAl⟩)
    (cAl : PySem.W.codeIn K cdAl "alike" = true)
    (kAl : PySem.W.keepIn K (.ref fAl) = true)
    (aIn : PySem.W.nsIn K mainGlobals "is_name" = some (some (.ref fIn)))
    (lIn : K.lookup fIn = some ⟨ocIn, odIn, .func (PySem.W.fnOf "is_name" "is_name" (defArgs sIsName) (defBody sIsName) (defScope sIsName) .none kVIn dcIn pmIn anIn cdIn ctIn), slIn⟩)
    (cIn : PySem.W.codeIn K cdIn "is_name" = true)
    (kIn : PySem.W.keepIn K (.ref fIn) = true)
    (aFt : PySem.W.nsIn K mainGlobals "fits" = some (some (.ref fFt)))
    (lFt : K.lookup fFt = some ⟨ocFt, odFt, .func (PySem.W.fnOf "fits" "fits" (defArgs sFits) (defBody sFits) (defScope sFits) .none kVFt dcFt pmFt anFt cdFt ctFt), slFt⟩)
    (cFt : PySem.W.codeIn K cdFt "fits" = true)
    (kFt : PySem.W.keepIn K (.ref fFt) = true)
    (aHf : PySem.W.nsIn K mainGlobals "has_form" = some (some (.ref fHf)))
    (lHf : K.lookup fHf = some ⟨ocHf, odHf, .func (PySem.W.fnOf "has_form" "has_form" (defArgs sHasForm) (defBody sHasForm) (defScope sHasForm) .none kVHf dcHf pmHf anHf cdHf ctHf), slHf⟩)
    (cHf : PySem.W.codeIn K cdHf "has_form" = true)
    (kHf : PySem.W.keepIn K (.ref fHf) = true)
    (aRi : PySem.W.nsIn K mainGlobals "rows_in" = some (some (.ref fRi)))
    (lRi : K.lookup fRi = some ⟨ocRi, odRi, .func (PySem.W.fnOf "rows_in" "rows_in" (defArgs sRowsIn) (defBody sRowsIn) (defScope sRowsIn) .none kVRi dcRi pmRi anRi cdRi ctRi), slRi⟩)
    (cRi : PySem.W.codeIn K cdRi "rows_in" = true)
    (kRi : PySem.W.keepIn K (.ref fRi) = true)
    (aLk : PySem.W.nsIn K mainGlobals "look_through" = some (some (.ref fLk)))
    (lLk : K.lookup fLk = some ⟨ocLk, odLk, .func (PySem.W.fnOf "look_through" "look_through" (defArgs sLook) (defBody sLook) (defScope sLook) .none kVLk dcLk pmLk anLk cdLk ctLk), slLk⟩)
    (cLk : PySem.W.codeIn K cdLk "look_through" = true)
    (kLk : PySem.W.keepIn K (.ref fLk) = true)
    (aLy : PySem.W.nsIn K mainGlobals "lay_out" = some (some (.ref fLy)))
    (lLy : K.lookup fLy = some ⟨ocLy, odLy, .func (PySem.W.fnOf "lay_out" "lay_out" (defArgs sLay) (defBody sLay) (defScope sLay) .none kVLy dcLy pmLy anLy cdLy ctLy), slLy⟩)
    (cLy : PySem.W.codeIn K cdLy "lay_out" = true)
    (kLy : PySem.W.keepIn K (.ref fLy) = true)
    (aBa : PySem.W.nsIn K mainGlobals "_law_bag" = some (some (.ref fBa)))
    (lBa : K.lookup fBa = some ⟨ocBa, odBa, .func (PySem.W.fnOf "_law_bag" "_law_bag" (defArgs sBag) (defBody sBag) (defScope sBag) .none kVBa dcBa pmBa anBa cdBa ctBa), slBa⟩)
    (cBa : PySem.W.codeIn K cdBa "_law_bag" = true)
    (kBa : PySem.W.keepIn K (.ref fBa) = true)
    (aTa : PySem.W.nsIn K mainGlobals "_law_take" = some (some (.ref fTa)))
    (lTa : K.lookup fTa = some ⟨ocTa, odTa, .func (PySem.W.fnOf "_law_take" "_law_take" (defArgs sTake) (defBody sTake) (defScope sTake) .none kVTa dcTa pmTa anTa cdTa ctTa), slTa⟩)
    (cTa : PySem.W.codeIn K cdTa "_law_take" = true)
    (kTa : PySem.W.keepIn K (.ref fTa) = true)
    (aTh : PySem.W.nsIn K mainGlobals "_law_thing" = some (some (.ref fTh)))
    (lTh : K.lookup fTh = some ⟨ocTh, odTh, .func (PySem.W.fnOf "_law_thing" "_law_thing" (defArgs sThing) (defBody sThing) (defScope sThing) .none kVTh dcTh pmTh anTh cdTh ctTh), slTh⟩)
    (cTh : PySem.W.codeIn K cdTh "_law_thing" = true)
    (kTh : PySem.W.keepIn K (.ref fTh) = true)
    (aNa : PySem.W.nsIn K mainGlobals "_law_name" = some (some (.ref fNa)))
    (lNa : K.lookup fNa = some ⟨ocNa, odNa, .func (PySem.W.fnOf "_law_name" "_law_name" (defArgs sName) (defBody sName) (defScope sName) .none kVNa dcNa pmNa anNa cdNa ctNa), slNa⟩)
    (cNa : PySem.W.codeIn K cdNa "_law_name" = true)
    (kNa : PySem.W.keepIn K (.ref fNa) = true)
    (aDe : PySem.W.nsIn K mainGlobals "_law_deed" = some (some (.ref fDe)))
    (lDe : K.lookup fDe = some ⟨ocDe, odDe, .func (PySem.W.fnOf "_law_deed" "_law_deed" (defArgs sDeed) (defBody sDeed) (defScope sDeed) .none kVDe dcDe pmDe anDe cdDe ctDe), slDe⟩)
    (cDe : PySem.W.codeIn K cdDe "_law_deed" = true)
    (kDe : PySem.W.keepIn K (.ref fDe) = true)
    (aDs : PySem.W.nsIn K mainGlobals "_law_deeds" = some (some (.ref fDs)))
    (lDs : K.lookup fDs = some ⟨ocDs, odDs, .func (PySem.W.fnOf "_law_deeds" "_law_deeds" (defArgs sDeeds) (defBody sDeeds) (defScope sDeeds) .none kVDs dcDs pmDs anDs cdDs ctDs), slDs⟩)
    (cDs : PySem.W.codeIn K cdDs "_law_deeds" = true)
    (kDs : PySem.W.keepIn K (.ref fDs) = true)
    (aTo : PySem.W.nsIn K mainGlobals "_law_top" = some (some (.ref fTo)))
    (lTo : K.lookup fTo = some ⟨ocTo, odTo, .func (PySem.W.fnOf "_law_top" "_law_top" (defArgs sTop) (defBody sTop) (defScope sTop) .none kVTo dcTo pmTo anTo cdTo ctTo), slTo⟩)
    (cTo : PySem.W.codeIn K cdTo "_law_top" = true)
    (kTo : PySem.W.keepIn K (.ref fTo) = true)
    (aXro : PySem.W.nsIn K mainGlobals "_law_rows" = some (some (.ref fXro)))
    (lXro : K.lookup fXro = some ⟨ocXro, odXro, .func (PySem.W.fnOf "_law_rows" "_law_rows" (defArgs sLR7) (defBody sLR7) (defScope sLR7) .none kVXro dcXro pmXro anXro cdXro ctXro), slXro⟩)
    (cXro : PySem.W.codeIn K cdXro "_law_rows" = true)
    (kXro : PySem.W.keepIn K (.ref fXro) = true)
    (aXin : PySem.W.nsIn K mainGlobals "_law_is_name" = some (some (.ref fXin)))
    (lXin : K.lookup fXin = some ⟨ocXin, odXin, .func (PySem.W.fnOf "_law_is_name" "_law_is_name" (defArgs sLN7) (defBody sLN7) (defScope sLN7) .none kVXin dcXin pmXin anXin cdXin ctXin), slXin⟩)
    (cXin : PySem.W.codeIn K cdXin "_law_is_name" = true)
    (kXin : PySem.W.keepIn K (.ref fXin) = true)
    (aXfo : PySem.W.nsIn K mainGlobals "_law_form" = some (some (.ref fXfo)))
    (lXfo : K.lookup fXfo = some ⟨ocXfo, odXfo, .func (PySem.W.fnOf "_law_form" "_law_form" (defArgs sLF7) (defBody sLF7) (defScope sLF7) .none kVXfo dcXfo pmXfo anXfo cdXfo ctXfo), slXfo⟩)
    (cXfo : PySem.W.codeIn K cdXfo "_law_form" = true)
    (kXfo : PySem.W.keepIn K (.ref fXfo) = true)
    (aXwr : PySem.W.nsIn K mainGlobals "_law_wrong" = some (some (.ref fXwr)))
    (lXwr : K.lookup fXwr = some ⟨ocXwr, odXwr, .func (PySem.W.fnOf "_law_wrong" "_law_wrong" (defArgs sLW7) (defBody sLW7) (defScope sLW7) .none kVXwr dcXwr pmXwr anXwr cdXwr ctXwr), slXwr⟩)
    (cXwr : PySem.W.codeIn K cdXwr "_law_wrong" = true)
    (kXwr : PySem.W.keepIn K (.ref fXwr) = true)
    (aXod : PySem.W.nsIn K mainGlobals "_law_odd" = some (some (.ref fXod)))
    (lXod : K.lookup fXod = some ⟨ocXod, odXod, .func (PySem.W.fnOf "_law_odd" "_law_odd" (defArgs sOd7) (defBody sOd7) (defScope sOd7) .none kVXod dcXod pmXod anXod cdXod ctXod), slXod⟩)
    (cXod : PySem.W.codeIn K cdXod "_law_odd" = true)
    (kXod : PySem.W.keepIn K (.ref fXod) = true)
    (aXbe : PySem.W.nsIn K mainGlobals "_law_bent" = some (some (.ref fXbe)))
    (lXbe : K.lookup fXbe = some ⟨ocXbe, odXbe, .func (PySem.W.fnOf "_law_bent" "_law_bent" (defArgs sBe7) (defBody sBe7) (defScope sBe7) .none kVXbe dcXbe pmXbe anXbe cdXbe ctXbe), slXbe⟩)
    (cXbe : PySem.W.codeIn K cdXbe "_law_bent" = true)
    (kXbe : PySem.W.keepIn K (.ref fXbe) = true)
    (aXne : PySem.W.nsIn K mainGlobals "_law_nested" = some (some (.ref fXne)))
    (lXne : K.lookup fXne = some ⟨ocXne, odXne, .func (PySem.W.fnOf "_law_nested" "_law_nested" (defArgs sNe7) (defBody sNe7) (defScope sNe7) .none kVXne dcXne pmXne anXne cdXne ctXne), slXne⟩)
    (cXne : PySem.W.codeIn K cdXne "_law_nested" = true)
    (kXne : PySem.W.keepIn K (.ref fXne) = true)
    (aXgd : PySem.W.nsIn K mainGlobals "_law_good" = some (some (.ref fXgd)))
    (lXgd : K.lookup fXgd = some ⟨ocXgd, odXgd, .func (PySem.W.fnOf "_law_good" "_law_good" (defArgs sGood7) (defBody sGood7) (defScope sGood7) .none kVXgd dcXgd pmXgd anXgd cdXgd ctXgd), slXgd⟩)
    (cXgd : PySem.W.codeIn K cdXgd "_law_good" = true)
    (kXgd : PySem.W.keepIn K (.ref fXgd) = true)
    (aLaw : PySem.W.nsIn K mainGlobals "law" = some (some (.ref fLaw)))
    (lLaw : K.lookup fLaw = some ⟨ocLaw, odLaw, .func (PySem.W.fnOf "law" "law" (defArgs sLaw) (defBody sLaw) (defScope sLaw) .none kVLaw dcLaw pmLaw anLaw cdLaw ctLaw), slLaw⟩)
    (cLaw : PySem.W.codeIn K cdLaw "law" = true)
    (kLaw : PySem.W.keepIn K (.ref fLaw) = true)
    (aP : PySem.W.nsIn K mainGlobals "Program" = some (some (.ref CP)))
    (pgP : PySem.W.plainGet K CP Str.empty = true)
    (hdP : PySem.W.hasDictIn K CP = true)
    (poP : PySem.W.plainOver K CP = true)
    (saP : PySem.W.findIn K (.ref CP) "__setattr__" = some (some (.builtin "object.__setattr__")))
    (mkCP : PySem.W.makesIn K CP = true)
    (kcP : PySem.W.keepIn K (.ref CP) = true)
    (nDP : PySem.W.findIn K (.ref CP) "deeds" = some none)
    (nPP : PySem.W.findIn K (.ref CP) "plan" = some none)
    (caP : PySem.W.findIn K (.ref CP) "__class__" = some (some (.builtin "object.__class__")))
    (cmP : PySem.W.mroIn K CP (.type "object") = some true)
    (neP : PySem.W.findIn K (.ref CP) "__ne__" = some (some (.builtin "object.__ne__")))
    (aFm : PySem.W.nsIn K mainGlobals "FORMS" = some (some (.ref dF)))
    (lFm : K.lookup dF = some ⟨.type "dict", none, .dict esF nFm, #[]⟩)
    (litF : PySem.W.KeysLit w.params esF.toList)
    (lowF : (dF == sysModules) = false)
    (aN1 : PySem.W.nsIn K mainGlobals "MANY_NAMES" = some (some (.int 10 tN1)))
    (aN2 : PySem.W.nsIn K mainGlobals "MOST_DEEDS" = some (some (.int 4000 tN2)))
    (aN3 : PySem.W.nsIn K mainGlobals "MOST_FLOORS" = some (some (.int 8 tN3)))
    (kii : PySem.W.kitOne K (.type "int") (.type "int") = some true)
    (kib : PySem.W.kitOne K (.type "int") (.type "bool") = some false)
    (ktt : PySem.W.kitOne K (.type "tuple") (.type "tuple") = some true)
    (kss : PySem.W.kitOne K (.type "str") (.type "str") = some true)
    (fm0 : PySem.W.nsIn K dF "told" = some (some (.str "nt" tf0)))
    (fm1 : PySem.W.nsIn K dF "first" = some (some (.str "nn" tf1)))
    (fm2 : PySem.W.nsIn K dF "second" = some (some (.str "nn" tf2)))
    (fm3 : PySem.W.nsIn K dF "pair" = some (some (.str "nnn" tf3)))
    (fm4 : PySem.W.nsIn K dF "same" = some (some (.str "nnn" tf4)))
    (fm5 : PySem.W.nsIn K dF "while" = some (some (.str "nr" tf5)))
    (fm6 : PySem.W.nsIn K dF "if" = some (some (.str "nrr" tf6)))
    (aPI : PySem.W.findIn K (.ref CP) "__init__" = some (some (.ref fPI)))
    (iPI : PySem.W.isFn K (.ref fPI) = true)
    (lPI : K.lookup fPI = some ⟨ocPI, odPI, .func (PySem.W.fnOf "__init__" "Program.__init__" (defArgs sPInit) (defBody sPInit) (defScope sPInit) .none kVPI dcPI pmPI anPI cdPI ctPI), slPI⟩)
    (cPI : PySem.W.codeIn K cdPI "Program.__init__" = true)
    (kPI : PySem.W.keepIn K (.ref fPI) = true)
    (aPL : PySem.W.findIn K (.ref CP) "__len__" = some (some (.ref fPL)))
    (iPL : PySem.W.isFn K (.ref fPL) = true)
    (lPL : K.lookup fPL = some ⟨ocPL, odPL, .func (PySem.W.fnOf "__len__" "Program.__len__" (defArgs sPLen) (defBody sPLen) (defScope sPLen) .none kVPL dcPL pmPL anPL cdPL ctPL), slPL⟩)
    (cPL : PySem.W.codeIn K cdPL "Program.__len__" = true)
    (kPL : PySem.W.keepIn K (.ref fPL) = true)
    (aPE : PySem.W.findIn K (.ref CP) "__eq__" = some (some (.ref fPE)))
    (iPE : PySem.W.isFn K (.ref fPE) = true)
    (lPE : K.lookup fPE = some ⟨ocPE, odPE, .func (PySem.W.fnOf "__eq__" "Program.__eq__" (defArgs sPEq) (defBody sPEq) (defScope sPEq) .none kVPE dcPE pmPE anPE cdPE ctPE), slPE⟩)
    (cPE : PySem.W.codeIn K cdPE "Program.__eq__" = true)
    (kPE : PySem.W.keepIn K (.ref fPE) = true)
    (aZ : PySem.W.nsIn K mainGlobals "NoProgram" = some (some (.ref NP)))
    (xZ : K.lookup NP = some (excClassObj nmZ qZ NP NZ bsZ [.type "ValueError", .type "Exception", .type "BaseException", .type "object"] true snZ subZ abZ colZ ddZ m0Z m1Z m2Z m3Z m5Z "ValueError.__new__"))
    (ovZ : PySem.W.excOver K NP [.type "ValueError", .type "Exception", .type "BaseException", .type "object"] = true)
    (saZ : PySem.W.findIn K (.ref NP) "__setattr__" = some (some (.builtin "object.__setattr__")))
    (exZ : PySem.W.subIn K (.ref NP) (.type "BaseException") = some true)
    (tyZ : PySem.W.typeIn K (.ref NP) = some (.type "type"))
    (kZ : PySem.W.keepIn K (.ref NP) = true)
    (plZ : PySem.W.findIn K (.ref NP) "place" = some none)
    (vVZ : PySem.W.findCls K (.type "ValueError") (.type "type") "__init__" = some (.val (.builtin "ValueError.__init__")))
    (iZ : PySem.W.findIn K (.ref NP) "__init__" = some (some (.ref fZ)))
    (tfZ : PySem.W.typeIn K (.ref fZ) = some (.type "function"))
    (lZ : K.lookup fZ = some ⟨ocZ, odZ, .func (PySem.W.fnOf "__init__" "NoProgram.__init__" (defArgs sNp) (defBody sNp) (defScope sNp) .none kVZ dcZ pmZ anZ cdZ ctZ), slZ⟩)
    (cZ : PySem.W.codeIn K cdZ "NoProgram.__init__" = true)
    (kfZ : PySem.W.keepIn K (.ref fZ) = true)
    (hdZ : PySem.W.hasDictIn K NP = true)
    (scZ : PySem.W.subIn K (.ref NP) (.ref NP) = some true)
    (ktc0 : PySem.W.kitOne K (.type "NoneType") (.ref C) = some false)
    (ktc1 : PySem.W.kitOne K (.type "int") (.ref C) = some false)
    (ktc2 : PySem.W.kitOne K (.type "bool") (.ref C) = some false)
    (ktc3 : PySem.W.kitOne K (.type "str") (.ref C) = some false)
    (ktc4 : PySem.W.kitOne K (.type "tuple") (.ref C) = some false)
    (ktc5 : PySem.W.kitOne K (.type "list") (.ref C) = some false)
    (ktp0 : PySem.W.kitOne K (.type "NoneType") (.ref CP) = some false)
    (ktp1 : PySem.W.kitOne K (.type "int") (.ref CP) = some false)
    (ktp2 : PySem.W.kitOne K (.type "bool") (.ref CP) = some false)
    (ktp3 : PySem.W.kitOne K (.type "str") (.ref CP) = some false)
    (ktp4 : PySem.W.kitOne K (.type "tuple") (.ref CP) = some false)
    (ktp5 : PySem.W.kitOne K (.type "list") (.ref CP) = some false)
    (kct0 : PySem.W.kitOne K (.ref C) (.type "int") = some false)
    (kct1 : PySem.W.kitOne K (.ref C) (.type "bool") = some false)
    (kct2 : PySem.W.kitOne K (.ref C) (.type "str") = some false)
    (kct3 : PySem.W.kitOne K (.ref C) (.type "tuple") = some false)
    (kct4 : PySem.W.kitOne K (.ref C) (.type "list") = some false)
    (kpt0 : PySem.W.kitOne K (.ref CP) (.type "int") = some false)
    (kpt1 : PySem.W.kitOne K (.ref CP) (.type "bool") = some false)
    (kpt2 : PySem.W.kitOne K (.ref CP) (.type "str") = some false)
    (kpt3 : PySem.W.kitOne K (.ref CP) (.type "tuple") = some false)
    (kpt4 : PySem.W.kitOne K (.ref CP) (.type "list") = some false)
    (kcp : PySem.W.kitOne K (.ref C) (.ref CP) = some false)
    (kpc : PySem.W.kitOne K (.ref CP) (.ref C) = some false)
    (nw0 : PySem.W.nsIn K dF "again" = some none)
    (nw1 : PySem.W.nsIn K dF "a" = some none)
    (nw2 : PySem.W.nsIn K dF "TOLD" = some none)
    (nw3 : PySem.W.nsIn K dF "FIRST" = some none)
    (nw4 : PySem.W.nsIn K dF "SECOND" = some none)
    (nw5 : PySem.W.nsIn K dF "PAIR" = some none)
    (nw6 : PySem.W.nsIn K dF "SAME" = some none)
    (nw7 : PySem.W.nsIn K dF "WHILE" = some none)
    (nw8 : PySem.W.nsIn K dF "IF" = some none)
    (nw9 : PySem.W.nsIn K dF "" = some none)
    (nw10 : PySem.W.nsIn K dF "a = ." = some none)
    (gaZ : PySem.W.findIn K (.ref NP) "__getattribute__" = some (some (.builtin "BaseException.__getattribute__")))
    (ggZ : PySem.W.findIn K (.ref NP) "__getattr__" = some none)
    (icZ : PySem.W.isClsIn K NP = true)
    (caZ : PySem.W.findIn K (.ref NP) "__class__" = some (some (.builtin "object.__class__")))
    (cmZ : PySem.W.mroIn K NP (.type "object") = some true)
    (veZ : PySem.W.kitOne K (.ref NP) (.type "ValueError") = some true)
    (oz1 : PySem.W.nsIn K mainGlobals "NoName" = some (some (.ref n1)))
    (oz2 : PySem.W.nsIn K mainGlobals "NoRoom" = some (some (.ref n2)))
    (oz3 : PySem.W.nsIn K mainGlobals "NoSaying" = some (some (.ref n3)))
    (oz4 : PySem.W.nsIn K mainGlobals "NoStep" = some (some (.ref n4)))
    (oz5 : PySem.W.nsIn K mainGlobals "NoText" = some (some (.ref n5)))
    (oz6 : PySem.W.nsIn K mainGlobals "TooGreat" = some (some (.ref n6)))
    (kaZ : PySem.W.kitAny K (.ref NP) [.ref n1, .ref n2, .ref n3, .ref n4, .ref n5, .ref n6] = some false)
    (z_len : PySem.W.nsIn K mainGlobals "len" = some none)
    (z_range : PySem.W.nsIn K mainGlobals "range" = some none)
    (z_isinstance : PySem.W.nsIn K mainGlobals "isinstance" = some none)
    (z_abs : PySem.W.nsIn K mainGlobals "abs" = some none)
    (z_int : PySem.W.nsIn K mainGlobals "int" = some none)
    (z_str : PySem.W.nsIn K mainGlobals "str" = some none)
    (z_max : PySem.W.nsIn K mainGlobals "max" = some none)
    (z_min : PySem.W.nsIn K mainGlobals "min" = some none)
    (z_all : PySem.W.nsIn K mainGlobals "all" = some none)
    (z_bool : PySem.W.nsIn K mainGlobals "bool" = some none)
    (z_tuple : PySem.W.nsIn K mainGlobals "tuple" = some none)
    (z_zip : PySem.W.nsIn K mainGlobals "zip" = some none)
    (z_enumerate : PySem.W.nsIn K mainGlobals "enumerate" = some none)
    (z_list : PySem.W.nsIn K mainGlobals "list" = some none)
    (z_ValueError : PySem.W.nsIn K mainGlobals "ValueError" = some none)
    : ∃ fd : FuncData, (∀ (s : Shared) (v : Value), BindsTo s fd ⟨[v], []⟩ [("_law_script", v)]) ∧ ∀ base : Heap, K.In base → base.Ns mainGlobals mg → FnOk P w K mg base CX0 17 fa fd ["_law_script"] (spLaw K) := by
  have e := hfa.symm.trans (PySem.W.mg_of X G aLaw)
  cases e
  have FEq := fun_mk (st := sEq) lEq cEq kEq
  have bEq := FEq.binds (ps := ["self", "other"]) fun _ _ _ _ _ _ us hl => match us, hl with | [_, _], _ => rfl
  have FPa := fun_mk (st := sPairs) lPa cPa kPa
  have bPa := FPa.binds (ps := ["first", "second"]) fun _ _ _ _ _ _ us hl => match us, hl with | [_, _], _ => rfl
  have FAl := fun_mk (st := sAlike) lAl cAl kAl
  have bAl := FAl.binds (ps := ["one", "other"]) fun _ _ _ _ _ _ us hl => match us, hl with | [_, _], _ => rfl
  have FIn := fun_mk (st := sIsName) lIn cIn kIn
  have bIn := FIn.binds (ps := ["part"]) fun _ _ _ _ _ _ us hl => match us, hl with | [_], _ => rfl
  have FFt := fun_mk (st := sFits) lFt cFt kFt
  have bFt := FFt.binds (ps := ["part", "sign"]) fun _ _ _ _ _ _ us hl => match us, hl with | [_, _], _ => rfl
  have FHf := fun_mk (st := sHasForm) lHf cHf kHf
  have bHf := FHf.binds (ps := ["deed"]) fun _ _ _ _ _ _ us hl => match us, hl with | [_], _ => rfl
  have FRi := fun_mk (st := sRowsIn) lRi cRi kRi
  have bRi := FRi.binds (ps := ["deed"]) fun _ _ _ _ _ _ us hl => match us, hl with | [_], _ => rfl
  have FLk := fun_mk (st := sLook) lLk cLk kLk
  have bLk := FLk.binds (ps := ["row", "floors", "ends"]) fun _ _ _ _ _ _ us hl => match us, hl with | [_, _, _], _ => rfl
  have FLy := fun_mk (st := sLay) lLy cLy kLy
  have bLy := FLy.binds (ps := ["row", "behind", "ends", "plan"]) fun _ _ _ _ _ _ us hl => match us, hl with | [_, _, _, _], _ => rfl
  have FBa := fun_mk (st := sBag) lBa cBa kBa
  have bBa := FBa.binds (ps := ["_law_script", "_law_at"]) fun _ _ _ _ _ _ us hl => match us, hl with | [_, _], _ => rfl
  have FTa := fun_mk (st := sTake) lTa cTa kTa
  have bTa := FTa.binds (ps := ["_law_bag_here", "_law_many_here"]) fun _ _ _ _ _ _ us hl => match us, hl with | [_, _], _ => rfl
  have FTh := fun_mk (st := sThing) lTh cTh kTh
  have bTh := FTh.binds (ps := ["_law_bag_here", "_law_many_here"]) fun _ _ _ _ _ _ us hl => match us, hl with | [_, _], _ => rfl
  have FNa := fun_mk (st := sName) lNa cNa kNa
  have bNa := FNa.binds (ps := ["_law_bag_here"]) fun _ _ _ _ _ _ us hl => match us, hl with | [_], _ => rfl
  have FDe := fun_mk (st := sDeed) lDe cDe kDe
  have bDe := FDe.binds (ps := ["_law_bag_here", "_law_left", "_law_deep"]) fun _ _ _ _ _ _ us hl => match us, hl with | [_, _, _], _ => rfl
  have FDs := fun_mk (st := sDeeds) lDs cDs kDs
  have bDs := FDs.binds (ps := ["_law_bag_here", "_law_left", "_law_deep"]) fun _ _ _ _ _ _ us hl => match us, hl with | [_, _, _], _ => rfl
  have FTo := fun_mk (st := sTop) lTo cTo kTo
  have bTo := FTo.binds (ps := ["_law_bag_here", "_law_many_here"]) fun _ _ _ _ _ _ us hl => match us, hl with | [_, _], _ => rfl
  have FXro := fun_mk (st := sLR7) lXro cXro kXro
  have bXro := FXro.binds (ps := ["_law_deed_here"]) fun _ _ _ _ _ _ us hl => match us, hl with | [_], _ => rfl
  have FXin := fun_mk (st := sLN7) lXin cXin kXin
  have bXin := FXin.binds (ps := ["_law_thing_here"]) fun _ _ _ _ _ _ us hl => match us, hl with | [_], _ => rfl
  have FXfo := fun_mk (st := sLF7) lXfo cXfo kXfo
  have bXfo := FXfo.binds (ps := ["_law_thing_here", "_law_deep"]) fun _ _ _ _ _ _ us hl => match us, hl with | [_, _], _ => rfl
  have FXwr := fun_mk (st := sLW7) lXwr cXwr kXwr
  have bXwr := FXwr.binds (ps := ["_law_deeds_here", "_law_deep", "_law_at"]) fun _ _ _ _ _ _ us hl => match us, hl with | [_, _, _], _ => rfl
  have FXod := fun_mk (st := sOd7) lXod cXod kXod
  have bXod := FXod.binds (ps := ["_law_bag_here", "_law_it"]) fun _ _ _ _ _ _ us hl => match us, hl with | [_, _], _ => rfl
  have FXbe := fun_mk (st := sBe7) lXbe cXbe kXbe
  have bXbe := FXbe.binds (ps := ["_law_bag_here", "_law_deeds_here"]) fun _ _ _ _ _ _ us hl => match us, hl with | [_, _], _ => rfl
  have FXne := fun_mk (st := sNe7) lXne cXne kXne
  have bXne := FXne.binds (ps := ["_law_bag_here", "_law_deeds_here", "_law_floors"]) fun _ _ _ _ _ _ us hl => match us, hl with | [_, _, _], _ => rfl
  have FXgd := fun_mk (st := sGood7) lXgd cXgd kXgd
  have bXgd := FXgd.binds (ps := ["_law_thing_here"]) fun _ _ _ _ _ _ us hl => match us, hl with | [_], _ => rfl
  have FLaw := fun_mk (st := sLaw) lLaw cLaw kLaw
  have bLaw := FLaw.binds (ps := ["_law_script"]) fun _ _ _ _ _ _ us hl => match us, hl with | [_], _ => rfl
  have APa : At K mg "pairs_in" sPairs ["first", "second"] fPa _ := ⟨FPa, PySem.W.mg_of X G aPa, bPa⟩
  have AAl : At K mg "alike" sAlike ["one", "other"] fAl _ := ⟨FAl, PySem.W.mg_of X G aAl, bAl⟩
  have AIn : At K mg "is_name" sIsName ["part"] fIn _ := ⟨FIn, PySem.W.mg_of X G aIn, bIn⟩
  have AFt : At K mg "fits" sFits ["part", "sign"] fFt _ := ⟨FFt, PySem.W.mg_of X G aFt, bFt⟩
  have AHf : At K mg "has_form" sHasForm ["deed"] fHf _ := ⟨FHf, PySem.W.mg_of X G aHf, bHf⟩
  have ARi : At K mg "rows_in" sRowsIn ["deed"] fRi _ := ⟨FRi, PySem.W.mg_of X G aRi, bRi⟩
  have ALk : At K mg "look_through" sLook ["row", "floors", "ends"] fLk _ := ⟨FLk, PySem.W.mg_of X G aLk, bLk⟩
  have ALy : At K mg "lay_out" sLay ["row", "behind", "ends", "plan"] fLy _ := ⟨FLy, PySem.W.mg_of X G aLy, bLy⟩
  have ABa : At K mg "_law_bag" sBag ["_law_script", "_law_at"] fBa _ := ⟨FBa, PySem.W.mg_of X G aBa, bBa⟩
  have ATa : At K mg "_law_take" sTake ["_law_bag_here", "_law_many_here"] fTa _ := ⟨FTa, PySem.W.mg_of X G aTa, bTa⟩
  have ATh : At K mg "_law_thing" sThing ["_law_bag_here", "_law_many_here"] fTh _ := ⟨FTh, PySem.W.mg_of X G aTh, bTh⟩
  have ANa : At K mg "_law_name" sName ["_law_bag_here"] fNa _ := ⟨FNa, PySem.W.mg_of X G aNa, bNa⟩
  have ADe : At K mg "_law_deed" sDeed ["_law_bag_here", "_law_left", "_law_deep"] fDe _ := ⟨FDe, PySem.W.mg_of X G aDe, bDe⟩
  have ADs : At K mg "_law_deeds" sDeeds ["_law_bag_here", "_law_left", "_law_deep"] fDs _ := ⟨FDs, PySem.W.mg_of X G aDs, bDs⟩
  have ATo : At K mg "_law_top" sTop ["_law_bag_here", "_law_many_here"] fTo _ := ⟨FTo, PySem.W.mg_of X G aTo, bTo⟩
  have AXro : At K mg "_law_rows" sLR7 ["_law_deed_here"] fXro _ := ⟨FXro, PySem.W.mg_of X G aXro, bXro⟩
  have AXin : At K mg "_law_is_name" sLN7 ["_law_thing_here"] fXin _ := ⟨FXin, PySem.W.mg_of X G aXin, bXin⟩
  have AXfo : At K mg "_law_form" sLF7 ["_law_thing_here", "_law_deep"] fXfo _ := ⟨FXfo, PySem.W.mg_of X G aXfo, bXfo⟩
  have AXwr : At K mg "_law_wrong" sLW7 ["_law_deeds_here", "_law_deep", "_law_at"] fXwr _ := ⟨FXwr, PySem.W.mg_of X G aXwr, bXwr⟩
  have AXod : At K mg "_law_odd" sOd7 ["_law_bag_here", "_law_it"] fXod _ := ⟨FXod, PySem.W.mg_of X G aXod, bXod⟩
  have AXbe : At K mg "_law_bent" sBe7 ["_law_bag_here", "_law_deeds_here"] fXbe _ := ⟨FXbe, PySem.W.mg_of X G aXbe, bXbe⟩
  have AXne : At K mg "_law_nested" sNe7 ["_law_bag_here", "_law_deeds_here", "_law_floors"] fXne _ := ⟨FXne, PySem.W.mg_of X G aXne, bXne⟩
  have AXgd : At K mg "_law_good" sGood7 ["_law_thing_here"] fXgd _ := ⟨FXgd, PySem.W.mg_of X G aXgd, bXgd⟩
  have DI : FunD K "__init__" "Thing.__init__" (defArgs sInit) (defBody sInit) (defScope sInit) [.non, .non] [] fI _ := ⟨⟨oI, odI, .ref TI, kVI, dcI, pmI, anI, cdI, ctI, slI, rfl, lI, cI, .inr ⟨by simp, TI, _, [.none, .none], nT, rfl, lT, rfl, .cons rfl (.cons rfl .nil)⟩, .inl rfl⟩, kI⟩
  have b0 := DI.binds1 (ps := ["self", "first", "second"]) 1 0 (by simp) rfl fun T kV doc pm an cdv ct us its h1 h2 => by
    match us, its, h1, h2 with
    | [a], [b, c], _, _ => exact ⟨_, rfl, rfl⟩
  have b3 := DI.binds1 (ps := ["self", "first", "second"]) 3 2 (by simp) rfl fun T kV doc pm an cdv ct us its h1 h2 => by
    match us, its, h1, h2 with
    | [a, b, c], [d, e], _, _ => exact ⟨_, rfl, rfl⟩
  obtain ⟨ds3, hv3, hb3⟩ := b3
  cases hv3
  have T : Txt K mg C := ⟨⟨pg, hd, po, sa⟩, nF, nS, nZ, PySem.W.mg_of X G aC, ⟨tM, PySem.W.mg_of X G aM⟩, PySem.W.mg_none_of X G z_len, PySem.W.mg_none_of X G z_range, PySem.W.mg_none_of X G z_isinstance, ca, cn, ct, cm, neC⟩
  have B : Blt mg := ⟨PySem.W.mg_none_of X G z_len, PySem.W.mg_none_of X G z_range, PySem.W.mg_none_of X G z_abs, PySem.W.mg_none_of X G z_int, PySem.W.mg_none_of X G z_str, PySem.W.mg_none_of X G z_max, PySem.W.mg_none_of X G z_min, PySem.W.mg_none_of X G z_all⟩
  have ml := PySem.W.mg_none_of X G z_list
  have frm : FrmC K w mg := ⟨⟨dF, esF, nFm, PySem.W.mg_of X G aFm, ⟨lFm, litF, lowF⟩, fun kf hkf => by
    simp only [forms, List.mem_cons, List.not_mem_nil, or_false] at hkf
    rcases hkf with rfl | rfl | rfl | rfl | rfl | rfl | rfl
    · exact ⟨_, fm0⟩
    · exact ⟨_, fm1⟩
    · exact ⟨_, fm2⟩
    · exact ⟨_, fm3⟩
    · exact ⟨_, fm4⟩
    · exact ⟨_, fm5⟩
    · exact ⟨_, fm6⟩⟩, ⟨tN1, PySem.W.mg_of X G aN1⟩, ⟨tN2, PySem.W.mg_of X G aN2⟩, ⟨tN3, PySem.W.mg_of X G aN3⟩, (PySem.W.mg_none_of X G z_bool), (PySem.W.mg_none_of X G z_tuple), (PySem.W.mg_none_of X G z_zip), (PySem.W.mg_none_of X G z_enumerate), kii, kib, ktt, kss⟩
  have TP : TxtP K mg CP := ⟨⟨pgP, hdP, poP, saP⟩, nDP, nPP, PySem.W.mg_of X G aP, caP, cn, ct, cmP, neP⟩
  have FPI := fun_mk (st := sPInit) lPI cPI kPI
  have FPL := fun_mk (st := sPLen) lPL cPL kPL
  have FPE := fun_mk (st := sPEq) lPE cPE kPE
  have bPI := FPI.binds (ps := ["self", "deeds"]) fun _ _ _ _ _ _ us hl => match us, hl with | [_, _], _ => rfl
  have bPL := FPL.binds (ps := ["self"]) fun _ _ _ _ _ _ us hl => match us, hl with | [_], _ => rfl
  have bPE := FPE.binds (ps := ["self", "other"]) fun _ _ _ _ _ _ us hl => match us, hl with | [_, _], _ => rfl
  refine ⟨PySem.W.fnOf "law" "law" (defArgs sLaw) (defBody sLaw) (defScope sLaw) .none kVLaw dcLaw pmLaw anLaw cdLaw ctLaw, fun s v => .of_eq rfl, fun base _ _ => ?_⟩
  have GI : FnOk P w K mg base CX0 2 fI _ ["self", "first", "second"] (spInit C) := ok_init DI T APa
  have M : Maker P w K mg base C fI _ := ⟨⟨mkC, aI, iI, kc⟩, GI, T.mgC, hb3, b0⟩
  have SE : Spc P w K mg base C "__eq__" 2 ["self", "other"] (spEqT C) := ⟨fEq, _, ⟨aEq, iEq⟩, ok_eq FEq T AAl, bEq⟩
  have dIN : Def P w K mg base "is_name" 1 ["part"] spIsName := ⟨fIn, _, AIn.mgf, kIn, ok_isName FIn B T frm, bIn⟩
  have dFt : Def P w K mg base "fits" 2 ["part", "sign"] (spFits K C) := ⟨fFt, _, PySem.W.mg_of X G aFt, kFt, ok_fits FFt B T frm dIN, bFt⟩
  have dHF : Def P w K mg base "has_form" 3 ["deed"] (spHasForm K C) := ⟨fHf, _, PySem.W.mg_of X G aHf, kHf, ok_hasForm FHf B T frm dFt, bHf⟩
  have dRI : Def P w K mg base "rows_in" 1 ["deed"] (spRowsIn K C) := ⟨fRi, _, ARi.mgf, kRi, ok_rowsIn FRi frm, bRi⟩
  have dLk : Def P w K mg base "look_through" 13 ["row", "floors", "ends"] (spLook K C 9) := ⟨fLk, _, ALk.mgf, kLk, ok_look FLk ALk.mgf bLk B T frm dHF dRI 9, bLk⟩
  have dLy : Def P w K mg base "lay_out" 11 ["row", "behind", "ends", "plan"] (spLay K C 9) := ⟨fLy, _, ALy.mgf, kLy, ok_lay FLy ALy.mgf bLy B frm dRI 9, bLy⟩
  have MP : MakerP P w K mg base C CP fPI _ := ⟨⟨mkCP, aPI, iPI, kcP⟩, ok_pinit FPI B T frm TP dLk dLy, TP.mgP, bPI⟩
  have FZ := fun_mk (st := sNp) lZ cZ kfZ
  have bZ := FZ.binds (ps := ["self", "place"]) fun _ _ _ _ _ _ us hl => match us, hl with | [_, _], _ => rfl
  have gV : GexV K NP := ⟨PySem.F.excBase_ValueError, PySem.F.store_ValueError, ⟨nmZ, qZ, NZ, bsZ, _, snZ, subZ, abZ, colZ, ddZ, m0Z, m1Z, m2Z, m3Z, m5Z, xZ, fun _ => rfl⟩, ovZ, saZ, exZ, tyZ, kZ⟩
  have npC : NpC K mg NP := ⟨PySem.W.mg_of X G aZ, gV, plZ, PySem.W.mg_none_of X G z_ValueError, vVZ⟩
  have ZM : NpM P w K mg base NP fZ _ := ⟨npC, iZ, tfZ, ok_np FZ npC, bZ⟩
  have exZZ : PySem.W.exmOne K (.ref NP) (.ref NP) = some true := PySem.W.exm_ref exZ hdZ tyZ scZ
  have PK : PvK K C CP := ⟨fun n h => by
      simp only [List.mem_cons, List.not_mem_nil, or_false] at h
      rcases h with rfl | rfl | rfl | rfl | rfl | rfl
      · exact ktc0
      · exact ktc1
      · exact ktc2
      · exact ktc3
      · exact ktc4
      · exact ktc5,
    fun n h => by
      simp only [List.mem_cons, List.not_mem_nil, or_false] at h
      rcases h with rfl | rfl | rfl | rfl | rfl | rfl
      · exact ktp0
      · exact ktp1
      · exact ktp2
      · exact ktp3
      · exact ktp4
      · exact ktp5,
    fun n h => by
      simp only [List.mem_cons, List.not_mem_nil, or_false] at h
      rcases h with rfl | rfl | rfl | rfl | rfl
      · exact kct0
      · exact kct1
      · exact kct2
      · exact kct3
      · exact kct4,
    fun n h => by
      simp only [List.mem_cons, List.not_mem_nil, or_false] at h
      rcases h with rfl | rfl | rfl | rfl | rfl
      · exact kpt0
      · exact kpt1
      · exact kpt2
      · exact kpt3
      · exact kpt4,
    kcp, kpc⟩
  have DTk : Def P w K mg base "_law_take" 1 ["_law_bag_here", "_law_many_here"] spTake := ⟨fTa, _, ATa.mgf, kTa, ok_take FTa, bTa⟩
  have DTh : Def P w K mg base "_law_thing" 4 ["_law_bag_here", "_law_many_here"] (spThing C) := ⟨fTh, _, ATh.mgf, kTh, ok_thing FTh B M ATa, bTh⟩
  have DNm : Def P w K mg base "_law_name" 2 ["_law_bag_here"] spName := ⟨fNa, _, ANa.mgf, kNa, ok_name FNa DTk, bNa⟩
  have DDs : Def P w K mg base "_law_deeds" 14 ["_law_bag_here", "_law_left", "_law_deep"] (spDeeds K C 5) := ⟨fDs, _, ADs.mgf, kDs, ok_deeds FDs FDe B frm DTk DNm DTh ADs.mgf bDs ADe.mgf bDe 5, bDs⟩
  have DTo : Def P w K mg base "_law_top" 15 ["_law_bag_here", "_law_many_here"] (spTop K C) := ⟨fTo, _, ATo.mgf, kTo, ok_top FTo DDs, bTo⟩
  have dINV : Def P w K mg base "is_name" 1 ["part"] (spIsNameV K C CP) := ⟨fIn, _, AIn.mgf, kIn, ok_isNameV FIn B T TP frm PK, bIn⟩
  have dFtV : Def P w K mg base "fits" 2 ["part", "sign"] (spFitsV K C CP) := ⟨fFt, _, PySem.W.mg_of X G aFt, kFt, ok_fitsV FFt B T TP frm PK dINV, bFt⟩
  have dHFV : Def P w K mg base "has_form" 3 ["deed"] (spHasFormV K C CP mg) := ⟨fHf, _, PySem.W.mg_of X G aHf, kHf, ok_hasFormV FHf B T TP frm PK dFtV, bHf⟩
  have dRIV : Def P w K mg base "rows_in" 1 ["deed"] (spRowsInV K C CP) := ⟨fRi, _, ARi.mgf, kRi, ok_rowsInV FRi frm, bRi⟩
  have gLkV := ok_lookV (P := P) (w := w) (base := base) FLk ALk.mgf bLk B T TP frm ZM dHFV dRIV 9
  have MPV : MakerPV P w K mg base C CP NP fPI _ := ⟨⟨mkCP, aPI, iPI, kcP⟩, ok_pinitV FPI B T frm TP PK ZM gLkV ALk.mgf kLk bLk dLy, TP.mgP, bPI⟩
  have RV : RfV K mg NP := ⟨npC, ⟨gaZ, ggZ, exZ, hdZ⟩, ⟨icZ, gaZ, ggZ, exZ, caZ, cn, ct, cmZ⟩, exZZ, veZ, ⟨n1, n2, n3, n4, n5, n6, PySem.W.mg_of X G oz1, PySem.W.mg_of X G oz2, PySem.W.mg_of X G oz3, PySem.W.mg_of X G oz4, PySem.W.mg_of X G oz5, PySem.W.mg_of X G oz6, kaZ⟩⟩
  have hW : ∀ s ∈ oddS, WfP K mg s := fun s hs d hd => by
    have hF := PySem.W.mg_of X G aFm
    rw [hF] at hd
    cases hd
    simp only [oddS, List.mem_cons, List.not_mem_nil, or_false] at hs
    rcases hs with rfl | rfl | rfl | rfl | rfl | rfl | rfl | rfl | rfl | rfl | rfl
    · exact nw0
    · exact nw1
    · exact nw2
    · exact nw3
    · exact nw4
    · exact nw5
    · exact nw6
    · exact nw7
    · exact nw8
    · exact nw9
    · exact nw10
  have ml := PySem.W.mg_none_of X G z_list
  have SPL : Spc P w K mg base CP "__len__" 1 ["self"] (spPLen K C CP) := ⟨fPL, _, ⟨aPL, iPL⟩, ok_plen FPL B TP, bPL⟩
  have DIn7 : Def P w K mg base "_law_is_name" 1 ["_law_thing_here"] (spIsNameV K C CP) := ⟨fXin, _, AXin.mgf, kXin, ok_lname7 FXin B T TP frm PK, bXin⟩
  have DRs7 : Def P w K mg base "_law_rows" 1 ["_law_deed_here"] (spLRows7 K C CP) := ⟨fXro, _, AXro.mgf, kXro, ok_lrows7 FXro ml, bXro⟩
  have DFo7 : Def P w K mg base "_law_form" 2 ["_law_thing_here", "_law_deep"] (spLForm7 K C CP) := ⟨fXfo, _, AXfo.mgf, kXfo, ok_lform7 FXfo B T TP frm PK DIn7, bXfo⟩
  have DWr7 : Def P w K mg base "_law_wrong" 12 ["_law_deeds_here", "_law_deep", "_law_at"] (spLW7 K C CP 9) := ⟨fXwr, _, AXwr.mgf, kXwr, ok_lw7 FXwr AXwr.mgf bXwr B DFo7 DRs7 9, bXwr⟩
  have DOd7 : Def P w K mg base "_law_odd" 4 ["_law_bag_here", "_law_it"] (spOdd7 K C CP mg) := ⟨fXod, _, AXod.mgf, kXod, ok_odd7 FXod B ml M hW DTk, bXod⟩
  have DBe7 : Def P w K mg base "_law_bent" 10 ["_law_bag_here", "_law_deeds_here"] (spBe7 K C CP mg 5) := ⟨fXbe, _, AXbe.mgf, kXbe, ok_be7 FXbe AXbe.mgf bXbe B DTk DOd7 5, bXbe⟩
  have DNe7 : Def P w K mg base "_law_nested" 2 ["_law_bag_here", "_law_deeds_here", "_law_floors"] (spNe7 K C) := ⟨fXne, _, AXne.mgf, kXne, ok_ne7 FXne B DTk, bXne⟩
  have DGd7 : Def P w K mg base "_law_good" 16 ["_law_thing_here"] (spGood7 K C CP mg) := ⟨fXgd, _, AXgd.mgf, kXgd, ok_good7 FXgd B kib T TP frm PK RV SPL DWr7 MPV, bXgd⟩
  exact ok_law FLaw B ml M MP hW ⟨fBa, _, ABa.mgf, kBa, ok_bag FBa B, bBa⟩ DTk DTo DBe7 DNe7 DGd7
end Js
set_option Elab.async false
set_option linter.all false
set_option maxRecDepth 100000
set_option maxHeartbeats 0
namespace Js
open PySem PySem.Spec PyProof.Rows L2
theorem hfacts {P : Program} {w : World} {K : PySem.W.Frag} {h : Heap} {mg : Str → Option Value} {fa : Addr} (X : K.In h) (G : h.Ns mainGlobals mg) (hfa : mg "law" = some (.ref fa)) (cT : He.SaysT [] hfn hts w K) (cX : hexs K = true)
    : ∃ fd : FuncData, (∀ (s : Shared) (v : Value), BindsTo s fd ⟨[v], []⟩ [("_law_script", v)]) ∧ ∀ base : Heap, K.In base → base.Ns mainGlobals mg → FnOk P w K mg base CX0 17 fa fd ["_law_script"] (spLaw K) := by
  have cD := cT.d
  have cE : (hex.all fun f => f K) = true := cX
  have aC : PySem.W.nsIn K mainGlobals "Thing" = some (some (.ref (He.ga K "Thing"))) := of_decide_eq_true (ex_at cE 0 rfl)
  have pg : PySem.W.plainGet K (He.ga K "Thing") Str.empty = true := of_decide_eq_true (ex_at cE 1 rfl)
  have hd : PySem.W.hasDictIn K (He.ga K "Thing") = true := of_decide_eq_true (ex_at cE 2 rfl)
  have po : PySem.W.plainOver K (He.ga K "Thing") = true := of_decide_eq_true (ex_at cE 3 rfl)
  have sa : PySem.W.findIn K (.ref (He.ga K "Thing")) "__setattr__" = some (some (.builtin "object.__setattr__")) := of_decide_eq_true (ex_at cE 4 rfl)
  have mkC : PySem.W.makesIn K (He.ga K "Thing") = true := of_decide_eq_true (ex_at cE 5 rfl)
  have kc : PySem.W.keepIn K (.ref (He.ga K "Thing")) = true := of_decide_eq_true (ex_at cE 6 rfl)
  have nF : PySem.W.findIn K (.ref (He.ga K "Thing")) "first" = some none := of_decide_eq_true (ex_at cE 7 rfl)
  have nS : PySem.W.findIn K (.ref (He.ga K "Thing")) "second" = some none := of_decide_eq_true (ex_at cE 8 rfl)
  have nZ : PySem.W.findIn K (.ref (He.ga K "Thing")) "size" = some none := of_decide_eq_true (ex_at cE 9 rfl)
  have ca : PySem.W.findIn K (.ref (He.ga K "Thing")) "__class__" = some (some (.builtin "object.__class__")) := of_decide_eq_true (ex_at cE 10 rfl)
  have cn : PySem.W.specialIn K (.builtin "object.__class__") "__get__" = some (some (.builtin "getset_descriptor.__get__")) := of_decide_eq_true (ex_at cE 11 rfl)
  have ct : PySem.W.takesIn K (.builtin "object.__class__") = some true := of_decide_eq_true (ex_at cE 12 rfl)
  have cm : PySem.W.mroIn K (He.ga K "Thing") (.type "object") = some true := of_decide_eq_true (ex_at cE 13 rfl)
  have neC : PySem.W.findIn K (.ref (He.ga K "Thing")) "__ne__" = some (some (.builtin "object.__ne__")) := of_decide_eq_true (ex_at cE 14 rfl)
  obtain ⟨_, aM⟩ := int_raw (ex_at cE 15 rfl)
  have aI : PySem.W.findIn K (.ref (He.ga K "Thing")) "__init__" = some (some (.ref (He.ma K (He.ga K "Thing") "__init__"))) := of_decide_eq_true (ex_at cE 16 rfl)
  have iI : PySem.W.isFn K (.ref (He.ma K (He.ga K "Thing") "__init__")) = true := of_decide_eq_true (ex_at cE 17 rfl)
  obtain ⟨_, _, _, _, _, _, _, _, _, _, _, _, its_lT, _, _, lI, cI, lT, vv⟩ := fn_rawD cD 0 ("Thing", some "__init__") "__init__" "Thing.__init__" sInit (.non) [.non] rfl
  obtain ⟨l_lT⟩ := its_lT
  change Vals _ l_lT at vv
  obtain _ | ⟨h_lT0, v_lT0⟩ := vv
  obtain rfl := h_lT0
  obtain _ | ⟨h_lT1, v_lT1⟩ := v_lT0
  obtain rfl := h_lT1
  cases v_lT1
  have kI : PySem.W.keepIn K (.ref (He.ma K (He.ga K "Thing") "__init__")) = true := of_decide_eq_true (ex_at cE 18 rfl)
  have aEq : PySem.W.findIn K (.ref (He.ga K "Thing")) "__eq__" = some (some (.ref (He.ma K (He.ga K "Thing") "__eq__"))) := of_decide_eq_true (ex_at cE 19 rfl)
  have iEq : PySem.W.isFn K (.ref (He.ma K (He.ga K "Thing") "__eq__")) = true := of_decide_eq_true (ex_at cE 20 rfl)
  obtain ⟨_, _, _, _, _, _, _, _, _, lEq, cEq⟩ := fn_raw cD 1 ("Thing", some "__eq__") "__eq__" "Thing.__eq__" sEq rfl
  have kEq : PySem.W.keepIn K (.ref (He.ma K (He.ga K "Thing") "__eq__")) = true := of_decide_eq_true (ex_at cE 21 rfl)
  have aPa : PySem.W.nsIn K mainGlobals "pairs_in" = some (some (.ref (He.ga K "pairs_in"))) := of_decide_eq_true (ex_at cE 22 rfl)
  obtain ⟨_, _, _, _, _, _, _, _, _, lPa, cPa⟩ := fn_raw cD 2 ("pairs_in", none) "pairs_in" "pairs_in" sPairs rfl
  have kPa : PySem.W.keepIn K (.ref (He.ga K "pairs_in")) = true := of_decide_eq_true (ex_at cE 23 rfl)
  have aAl : PySem.W.nsIn K mainGlobals "alike" = some (some (.ref (He.ga K "alike"))) := of_decide_eq_true (ex_at cE 24 rfl)
  obtain ⟨_, _, _, _, _, _, _, _, _, lAl, cAl⟩ := fn_raw cD 3 ("alike", none) "alike" "alike" sAlike rfl
  have kAl : PySem.W.keepIn K (.ref (He.ga K "alike")) = true := of_decide_eq_true (ex_at cE 25 rfl)
  have aIn : PySem.W.nsIn K mainGlobals "is_name" = some (some (.ref (He.ga K "is_name"))) := of_decide_eq_true (ex_at cE 26 rfl)
  obtain ⟨_, _, _, _, _, _, _, _, _, lIn, cIn⟩ := fn_raw cD 4 ("is_name", none) "is_name" "is_name" sIsName rfl
  have kIn : PySem.W.keepIn K (.ref (He.ga K "is_name")) = true := of_decide_eq_true (ex_at cE 27 rfl)
  have aFt : PySem.W.nsIn K mainGlobals "fits" = some (some (.ref (He.ga K "fits"))) := of_decide_eq_true (ex_at cE 28 rfl)
  obtain ⟨_, _, _, _, _, _, _, _, _, lFt, cFt⟩ := fn_raw cD 5 ("fits", none) "fits" "fits" sFits rfl
  have kFt : PySem.W.keepIn K (.ref (He.ga K "fits")) = true := of_decide_eq_true (ex_at cE 29 rfl)
  have aHf : PySem.W.nsIn K mainGlobals "has_form" = some (some (.ref (He.ga K "has_form"))) := of_decide_eq_true (ex_at cE 30 rfl)
  obtain ⟨_, _, _, _, _, _, _, _, _, lHf, cHf⟩ := fn_raw cD 6 ("has_form", none) "has_form" "has_form" sHasForm rfl
  have kHf : PySem.W.keepIn K (.ref (He.ga K "has_form")) = true := of_decide_eq_true (ex_at cE 31 rfl)
  have aRi : PySem.W.nsIn K mainGlobals "rows_in" = some (some (.ref (He.ga K "rows_in"))) := of_decide_eq_true (ex_at cE 32 rfl)
  obtain ⟨_, _, _, _, _, _, _, _, _, lRi, cRi⟩ := fn_raw cD 7 ("rows_in", none) "rows_in" "rows_in" sRowsIn rfl
  have kRi : PySem.W.keepIn K (.ref (He.ga K "rows_in")) = true := of_decide_eq_true (ex_at cE 33 rfl)
  have aLk : PySem.W.nsIn K mainGlobals "look_through" = some (some (.ref (He.ga K "look_through"))) := of_decide_eq_true (ex_at cE 34 rfl)
  obtain ⟨_, _, _, _, _, _, _, _, _, lLk, cLk⟩ := fn_raw cD 8 ("look_through", none) "look_through" "look_through" sLook rfl
  have kLk : PySem.W.keepIn K (.ref (He.ga K "look_through")) = true := of_decide_eq_true (ex_at cE 35 rfl)
  have aLy : PySem.W.nsIn K mainGlobals "lay_out" = some (some (.ref (He.ga K "lay_out"))) := of_decide_eq_true (ex_at cE 36 rfl)
  obtain ⟨_, _, _, _, _, _, _, _, _, lLy, cLy⟩ := fn_raw cD 9 ("lay_out", none) "lay_out" "lay_out" sLay rfl
  have kLy : PySem.W.keepIn K (.ref (He.ga K "lay_out")) = true := of_decide_eq_true (ex_at cE 37 rfl)
  have aBa : PySem.W.nsIn K mainGlobals "_law_bag" = some (some (.ref (He.ga K "_law_bag"))) := of_decide_eq_true (ex_at cE 38 rfl)
  obtain ⟨_, _, _, _, _, _, _, _, _, lBa, cBa⟩ := fn_raw cD 10 ("_law_bag", none) "_law_bag" "_law_bag" sBag rfl
  have kBa : PySem.W.keepIn K (.ref (He.ga K "_law_bag")) = true := of_decide_eq_true (ex_at cE 39 rfl)
  have aTa : PySem.W.nsIn K mainGlobals "_law_take" = some (some (.ref (He.ga K "_law_take"))) := of_decide_eq_true (ex_at cE 40 rfl)
  obtain ⟨_, _, _, _, _, _, _, _, _, lTa, cTa⟩ := fn_raw cD 11 ("_law_take", none) "_law_take" "_law_take" sTake rfl
  have kTa : PySem.W.keepIn K (.ref (He.ga K "_law_take")) = true := of_decide_eq_true (ex_at cE 41 rfl)
  have aTh : PySem.W.nsIn K mainGlobals "_law_thing" = some (some (.ref (He.ga K "_law_thing"))) := of_decide_eq_true (ex_at cE 42 rfl)
  obtain ⟨_, _, _, _, _, _, _, _, _, lTh, cTh⟩ := fn_raw cD 12 ("_law_thing", none) "_law_thing" "_law_thing" sThing rfl
  have kTh : PySem.W.keepIn K (.ref (He.ga K "_law_thing")) = true := of_decide_eq_true (ex_at cE 43 rfl)
  have aNa : PySem.W.nsIn K mainGlobals "_law_name" = some (some (.ref (He.ga K "_law_name"))) := of_decide_eq_true (ex_at cE 44 rfl)
  obtain ⟨_, _, _, _, _, _, _, _, _, lNa, cNa⟩ := fn_raw cD 13 ("_law_name", none) "_law_name" "_law_name" sName rfl
  have kNa : PySem.W.keepIn K (.ref (He.ga K "_law_name")) = true := of_decide_eq_true (ex_at cE 45 rfl)
  have aDe : PySem.W.nsIn K mainGlobals "_law_deed" = some (some (.ref (He.ga K "_law_deed"))) := of_decide_eq_true (ex_at cE 46 rfl)
  obtain ⟨_, _, _, _, _, _, _, _, _, lDe, cDe⟩ := fn_raw cD 14 ("_law_deed", none) "_law_deed" "_law_deed" sDeed rfl
  have kDe : PySem.W.keepIn K (.ref (He.ga K "_law_deed")) = true := of_decide_eq_true (ex_at cE 47 rfl)
  have aDs : PySem.W.nsIn K mainGlobals "_law_deeds" = some (some (.ref (He.ga K "_law_deeds"))) := of_decide_eq_true (ex_at cE 48 rfl)
  obtain ⟨_, _, _, _, _, _, _, _, _, lDs, cDs⟩ := fn_raw cD 15 ("_law_deeds", none) "_law_deeds" "_law_deeds" sDeeds rfl
  have kDs : PySem.W.keepIn K (.ref (He.ga K "_law_deeds")) = true := of_decide_eq_true (ex_at cE 49 rfl)
  have aTo : PySem.W.nsIn K mainGlobals "_law_top" = some (some (.ref (He.ga K "_law_top"))) := of_decide_eq_true (ex_at cE 50 rfl)
  obtain ⟨_, _, _, _, _, _, _, _, _, lTo, cTo⟩ := fn_raw cD 16 ("_law_top", none) "_law_top" "_law_top" sTop rfl
  have kTo : PySem.W.keepIn K (.ref (He.ga K "_law_top")) = true := of_decide_eq_true (ex_at cE 51 rfl)
  have aXro : PySem.W.nsIn K mainGlobals "_law_rows" = some (some (.ref (He.ga K "_law_rows"))) := of_decide_eq_true (ex_at cE 52 rfl)
  obtain ⟨_, _, _, _, _, _, _, _, _, lXro, cXro⟩ := fn_raw cD 17 ("_law_rows", none) "_law_rows" "_law_rows" sLR7 rfl
  have kXro : PySem.W.keepIn K (.ref (He.ga K "_law_rows")) = true := of_decide_eq_true (ex_at cE 53 rfl)
  have aXin : PySem.W.nsIn K mainGlobals "_law_is_name" = some (some (.ref (He.ga K "_law_is_name"))) := of_decide_eq_true (ex_at cE 54 rfl)
  obtain ⟨_, _, _, _, _, _, _, _, _, lXin, cXin⟩ := fn_raw cD 18 ("_law_is_name", none) "_law_is_name" "_law_is_name" sLN7 rfl
  have kXin : PySem.W.keepIn K (.ref (He.ga K "_law_is_name")) = true := of_decide_eq_true (ex_at cE 55 rfl)
  have aXfo : PySem.W.nsIn K mainGlobals "_law_form" = some (some (.ref (He.ga K "_law_form"))) := of_decide_eq_true (ex_at cE 56 rfl)
  obtain ⟨_, _, _, _, _, _, _, _, _, lXfo, cXfo⟩ := fn_raw cD 19 ("_law_form", none) "_law_form" "_law_form" sLF7 rfl
  have kXfo : PySem.W.keepIn K (.ref (He.ga K "_law_form")) = true := of_decide_eq_true (ex_at cE 57 rfl)
  have aXwr : PySem.W.nsIn K mainGlobals "_law_wrong" = some (some (.ref (He.ga K "_law_wrong"))) := of_decide_eq_true (ex_at cE 58 rfl)
  obtain ⟨_, _, _, _, _, _, _, _, _, lXwr, cXwr⟩ := fn_raw cD 20 ("_law_wrong", none) "_law_wrong" "_law_wrong" sLW7 rfl
  have kXwr : PySem.W.keepIn K (.ref (He.ga K "_law_wrong")) = true := of_decide_eq_true (ex_at cE 59 rfl)
  have aXod : PySem.W.nsIn K mainGlobals "_law_odd" = some (some (.ref (He.ga K "_law_odd"))) := of_decide_eq_true (ex_at cE 60 rfl)
  obtain ⟨_, _, _, _, _, _, _, _, _, lXod, cXod⟩ := fn_raw cD 21 ("_law_odd", none) "_law_odd" "_law_odd" sOd7 rfl
  have kXod : PySem.W.keepIn K (.ref (He.ga K "_law_odd")) = true := of_decide_eq_true (ex_at cE 61 rfl)
  have aXbe : PySem.W.nsIn K mainGlobals "_law_bent" = some (some (.ref (He.ga K "_law_bent"))) := of_decide_eq_true (ex_at cE 62 rfl)
  obtain ⟨_, _, _, _, _, _, _, _, _, lXbe, cXbe⟩ := fn_raw cD 22 ("_law_bent", none) "_law_bent" "_law_bent" sBe7 rfl
  have kXbe : PySem.W.keepIn K (.ref (He.ga K "_law_bent")) = true := of_decide_eq_true (ex_at cE 63 rfl)
  have aXne : PySem.W.nsIn K mainGlobals "_law_nested" = some (some (.ref (He.ga K "_law_nested"))) := of_decide_eq_true (ex_at cE 64 rfl)
  obtain ⟨_, _, _, _, _, _, _, _, _, lXne, cXne⟩ := fn_raw cD 23 ("_law_nested", none) "_law_nested" "_law_nested" sNe7 rfl
  have kXne : PySem.W.keepIn K (.ref (He.ga K "_law_nested")) = true := of_decide_eq_true (ex_at cE 65 rfl)
  have aXgd : PySem.W.nsIn K mainGlobals "_law_good" = some (some (.ref (He.ga K "_law_good"))) := of_decide_eq_true (ex_at cE 66 rfl)
  obtain ⟨_, _, _, _, _, _, _, _, _, lXgd, cXgd⟩ := fn_raw cD 24 ("_law_good", none) "_law_good" "_law_good" sGood7 rfl
  have kXgd : PySem.W.keepIn K (.ref (He.ga K "_law_good")) = true := of_decide_eq_true (ex_at cE 67 rfl)
  have aLaw : PySem.W.nsIn K mainGlobals "law" = some (some (.ref (He.ga K "law"))) := of_decide_eq_true (ex_at cE 68 rfl)
  obtain ⟨_, _, _, _, _, _, _, _, _, lLaw, cLaw⟩ := fn_raw cD 25 ("law", none) "law" "law" sLaw rfl
  have kLaw : PySem.W.keepIn K (.ref (He.ga K "law")) = true := of_decide_eq_true (ex_at cE 69 rfl)
  have aP : PySem.W.nsIn K mainGlobals "Program" = some (some (.ref (He.ga K "Program"))) := of_decide_eq_true (ex_at cE 70 rfl)
  have pgP : PySem.W.plainGet K (He.ga K "Program") Str.empty = true := of_decide_eq_true (ex_at cE 71 rfl)
  have hdP : PySem.W.hasDictIn K (He.ga K "Program") = true := of_decide_eq_true (ex_at cE 72 rfl)
  have poP : PySem.W.plainOver K (He.ga K "Program") = true := of_decide_eq_true (ex_at cE 73 rfl)
  have saP : PySem.W.findIn K (.ref (He.ga K "Program")) "__setattr__" = some (some (.builtin "object.__setattr__")) := of_decide_eq_true (ex_at cE 74 rfl)
  have mkCP : PySem.W.makesIn K (He.ga K "Program") = true := of_decide_eq_true (ex_at cE 75 rfl)
  have kcP : PySem.W.keepIn K (.ref (He.ga K "Program")) = true := of_decide_eq_true (ex_at cE 76 rfl)
  have nDP : PySem.W.findIn K (.ref (He.ga K "Program")) "deeds" = some none := of_decide_eq_true (ex_at cE 77 rfl)
  have nPP : PySem.W.findIn K (.ref (He.ga K "Program")) "plan" = some none := of_decide_eq_true (ex_at cE 78 rfl)
  have caP : PySem.W.findIn K (.ref (He.ga K "Program")) "__class__" = some (some (.builtin "object.__class__")) := of_decide_eq_true (ex_at cE 79 rfl)
  have cmP : PySem.W.mroIn K (He.ga K "Program") (.type "object") = some true := of_decide_eq_true (ex_at cE 80 rfl)
  have neP : PySem.W.findIn K (.ref (He.ga K "Program")) "__ne__" = some (some (.builtin "object.__ne__")) := of_decide_eq_true (ex_at cE 81 rfl)
  have aFm : PySem.W.nsIn K mainGlobals "FORMS" = some (some (.ref (He.ga K "FORMS"))) := of_decide_eq_true (ex_at cE 82 rfl)
  obtain ⟨_, _, ⟨lFm, litF, lowF⟩, ky_lFm⟩ := tab_keys cT 0 (t := (fun K => He.ga K "FORMS", ["told", "first", "second", "pair", "same", "while", "if"])) rfl
  obtain ⟨_, aN1⟩ := int_raw (ex_at cE 83 rfl)
  obtain ⟨_, aN2⟩ := int_raw (ex_at cE 84 rfl)
  obtain ⟨_, aN3⟩ := int_raw (ex_at cE 85 rfl)
  have kii : PySem.W.kitOne K (.type "int") (.type "int") = some true := of_decide_eq_true (ex_at cE 86 rfl)
  have kib : PySem.W.kitOne K (.type "int") (.type "bool") = some false := of_decide_eq_true (ex_at cE 87 rfl)
  have ktt : PySem.W.kitOne K (.type "tuple") (.type "tuple") = some true := of_decide_eq_true (ex_at cE 88 rfl)
  have kss : PySem.W.kitOne K (.type "str") (.type "str") = some true := of_decide_eq_true (ex_at cE 89 rfl)
  obtain ⟨_, fm0⟩ := str_raw (ex_at cE 90 rfl)
  obtain ⟨_, fm1⟩ := str_raw (ex_at cE 91 rfl)
  obtain ⟨_, fm2⟩ := str_raw (ex_at cE 92 rfl)
  obtain ⟨_, fm3⟩ := str_raw (ex_at cE 93 rfl)
  obtain ⟨_, fm4⟩ := str_raw (ex_at cE 94 rfl)
  obtain ⟨_, fm5⟩ := str_raw (ex_at cE 95 rfl)
  obtain ⟨_, fm6⟩ := str_raw (ex_at cE 96 rfl)
  have aPI : PySem.W.findIn K (.ref (He.ga K "Program")) "__init__" = some (some (.ref (He.ma K (He.ga K "Program") "__init__"))) := of_decide_eq_true (ex_at cE 97 rfl)
  have iPI : PySem.W.isFn K (.ref (He.ma K (He.ga K "Program") "__init__")) = true := of_decide_eq_true (ex_at cE 98 rfl)
  obtain ⟨_, _, _, _, _, _, _, _, _, lPI, cPI⟩ := fn_raw cD 26 ("Program", some "__init__") "__init__" "Program.__init__" sPInit rfl
  have kPI : PySem.W.keepIn K (.ref (He.ma K (He.ga K "Program") "__init__")) = true := of_decide_eq_true (ex_at cE 99 rfl)
  have aPL : PySem.W.findIn K (.ref (He.ga K "Program")) "__len__" = some (some (.ref (He.ma K (He.ga K "Program") "__len__"))) := of_decide_eq_true (ex_at cE 100 rfl)
  have iPL : PySem.W.isFn K (.ref (He.ma K (He.ga K "Program") "__len__")) = true := of_decide_eq_true (ex_at cE 101 rfl)
  obtain ⟨_, _, _, _, _, _, _, _, _, lPL, cPL⟩ := fn_raw cD 27 ("Program", some "__len__") "__len__" "Program.__len__" sPLen rfl
  have kPL : PySem.W.keepIn K (.ref (He.ma K (He.ga K "Program") "__len__")) = true := of_decide_eq_true (ex_at cE 102 rfl)
  have aPE : PySem.W.findIn K (.ref (He.ga K "Program")) "__eq__" = some (some (.ref (He.ma K (He.ga K "Program") "__eq__"))) := of_decide_eq_true (ex_at cE 103 rfl)
  have iPE : PySem.W.isFn K (.ref (He.ma K (He.ga K "Program") "__eq__")) = true := of_decide_eq_true (ex_at cE 104 rfl)
  obtain ⟨_, _, _, _, _, _, _, _, _, lPE, cPE⟩ := fn_raw cD 28 ("Program", some "__eq__") "__eq__" "Program.__eq__" sPEq rfl
  have kPE : PySem.W.keepIn K (.ref (He.ma K (He.ga K "Program") "__eq__")) = true := of_decide_eq_true (ex_at cE 105 rfl)
  have aZ : PySem.W.nsIn K mainGlobals "NoProgram" = some (some (.ref (He.ga K "NoProgram"))) := of_decide_eq_true (ex_at cE 106 rfl)
  obtain ⟨_, _, _, _, _, _, _, _, _, _, _, _, _, _, xZ⟩ := exc_raw (ex_at cE 107 rfl)
  have ovZ : PySem.W.excOver K (He.ga K "NoProgram") [.type "ValueError", .type "Exception", .type "BaseException", .type "object"] = true := of_decide_eq_true (ex_at cE 108 rfl)
  have saZ : PySem.W.findIn K (.ref (He.ga K "NoProgram")) "__setattr__" = some (some (.builtin "object.__setattr__")) := of_decide_eq_true (ex_at cE 109 rfl)
  have exZ : PySem.W.subIn K (.ref (He.ga K "NoProgram")) (.type "BaseException") = some true := of_decide_eq_true (ex_at cE 110 rfl)
  have tyZ : PySem.W.typeIn K (.ref (He.ga K "NoProgram")) = some (.type "type") := of_decide_eq_true (ex_at cE 111 rfl)
  have kZ : PySem.W.keepIn K (.ref (He.ga K "NoProgram")) = true := of_decide_eq_true (ex_at cE 112 rfl)
  have plZ : PySem.W.findIn K (.ref (He.ga K "NoProgram")) "place" = some none := of_decide_eq_true (ex_at cE 113 rfl)
  have vVZ : PySem.W.findCls K (.type "ValueError") (.type "type") "__init__" = some (.val (.builtin "ValueError.__init__")) := by first | rfl | decide +kernel
  have iZ : PySem.W.findIn K (.ref (He.ga K "NoProgram")) "__init__" = some (some (.ref (He.ma K (He.ga K "NoProgram") "__init__"))) := of_decide_eq_true (ex_at cE 114 rfl)
  have tfZ : PySem.W.typeIn K (.ref (He.ma K (He.ga K "NoProgram") "__init__")) = some (.type "function") := of_decide_eq_true (ex_at cE 115 rfl)
  obtain ⟨_, _, _, _, _, _, _, _, _, lZ, cZ⟩ := fn_raw cD 29 ("NoProgram", some "__init__") "__init__" "NoProgram.__init__" sNp rfl
  have kfZ : PySem.W.keepIn K (.ref (He.ma K (He.ga K "NoProgram") "__init__")) = true := of_decide_eq_true (ex_at cE 116 rfl)
  have hdZ : PySem.W.hasDictIn K (He.ga K "NoProgram") = true := of_decide_eq_true (ex_at cE 117 rfl)
  have scZ : PySem.W.subIn K (.ref (He.ga K "NoProgram")) (.ref (He.ga K "NoProgram")) = some true := of_decide_eq_true (ex_at cE 118 rfl)
  have ktc0 : PySem.W.kitOne K (.type "NoneType") (.ref (He.ga K "Thing")) = some false := of_decide_eq_true (ex_at cE 119 rfl)
  have ktc1 : PySem.W.kitOne K (.type "int") (.ref (He.ga K "Thing")) = some false := of_decide_eq_true (ex_at cE 120 rfl)
  have ktc2 : PySem.W.kitOne K (.type "bool") (.ref (He.ga K "Thing")) = some false := of_decide_eq_true (ex_at cE 121 rfl)
  have ktc3 : PySem.W.kitOne K (.type "str") (.ref (He.ga K "Thing")) = some false := of_decide_eq_true (ex_at cE 122 rfl)
  have ktc4 : PySem.W.kitOne K (.type "tuple") (.ref (He.ga K "Thing")) = some false := of_decide_eq_true (ex_at cE 123 rfl)
  have ktc5 : PySem.W.kitOne K (.type "list") (.ref (He.ga K "Thing")) = some false := of_decide_eq_true (ex_at cE 124 rfl)
  have ktp0 : PySem.W.kitOne K (.type "NoneType") (.ref (He.ga K "Program")) = some false := of_decide_eq_true (ex_at cE 125 rfl)
  have ktp1 : PySem.W.kitOne K (.type "int") (.ref (He.ga K "Program")) = some false := of_decide_eq_true (ex_at cE 126 rfl)
  have ktp2 : PySem.W.kitOne K (.type "bool") (.ref (He.ga K "Program")) = some false := of_decide_eq_true (ex_at cE 127 rfl)
  have ktp3 : PySem.W.kitOne K (.type "str") (.ref (He.ga K "Program")) = some false := of_decide_eq_true (ex_at cE 128 rfl)
  have ktp4 : PySem.W.kitOne K (.type "tuple") (.ref (He.ga K "Program")) = some false := of_decide_eq_true (ex_at cE 129 rfl)
  have ktp5 : PySem.W.kitOne K (.type "list") (.ref (He.ga K "Program")) = some false := of_decide_eq_true (ex_at cE 130 rfl)
  have kct0 : PySem.W.kitOne K (.ref (He.ga K "Thing")) (.type "int") = some false := of_decide_eq_true (ex_at cE 131 rfl)
  have kct1 : PySem.W.kitOne K (.ref (He.ga K "Thing")) (.type "bool") = some false := of_decide_eq_true (ex_at cE 132 rfl)
  have kct2 : PySem.W.kitOne K (.ref (He.ga K "Thing")) (.type "str") = some false := of_decide_eq_true (ex_at cE 133 rfl)
  have kct3 : PySem.W.kitOne K (.ref (He.ga K "Thing")) (.type "tuple") = some false := of_decide_eq_true (ex_at cE 134 rfl)
  have kct4 : PySem.W.kitOne K (.ref (He.ga K "Thing")) (.type "list") = some false := of_decide_eq_true (ex_at cE 135 rfl)
  have kpt0 : PySem.W.kitOne K (.ref (He.ga K "Program")) (.type "int") = some false := of_decide_eq_true (ex_at cE 136 rfl)
  have kpt1 : PySem.W.kitOne K (.ref (He.ga K "Program")) (.type "bool") = some false := of_decide_eq_true (ex_at cE 137 rfl)
  have kpt2 : PySem.W.kitOne K (.ref (He.ga K "Program")) (.type "str") = some false := of_decide_eq_true (ex_at cE 138 rfl)
  have kpt3 : PySem.W.kitOne K (.ref (He.ga K "Program")) (.type "tuple") = some false := of_decide_eq_true (ex_at cE 139 rfl)
  have kpt4 : PySem.W.kitOne K (.ref (He.ga K "Program")) (.type "list") = some false := of_decide_eq_true (ex_at cE 140 rfl)
  have kcp : PySem.W.kitOne K (.ref (He.ga K "Thing")) (.ref (He.ga K "Program")) = some false := of_decide_eq_true (ex_at cE 141 rfl)
  have kpc : PySem.W.kitOne K (.ref (He.ga K "Program")) (.ref (He.ga K "Thing")) = some false := of_decide_eq_true (ex_at cE 142 rfl)
  have nw0 : PySem.W.nsIn K (He.ga K "FORMS") "again" = some none := of_decide_eq_true (ex_at cE 143 rfl)
  have nw1 : PySem.W.nsIn K (He.ga K "FORMS") "a" = some none := of_decide_eq_true (ex_at cE 144 rfl)
  have nw2 : PySem.W.nsIn K (He.ga K "FORMS") "TOLD" = some none := of_decide_eq_true (ex_at cE 145 rfl)
  have nw3 : PySem.W.nsIn K (He.ga K "FORMS") "FIRST" = some none := of_decide_eq_true (ex_at cE 146 rfl)
  have nw4 : PySem.W.nsIn K (He.ga K "FORMS") "SECOND" = some none := of_decide_eq_true (ex_at cE 147 rfl)
  have nw5 : PySem.W.nsIn K (He.ga K "FORMS") "PAIR" = some none := of_decide_eq_true (ex_at cE 148 rfl)
  have nw6 : PySem.W.nsIn K (He.ga K "FORMS") "SAME" = some none := of_decide_eq_true (ex_at cE 149 rfl)
  have nw7 : PySem.W.nsIn K (He.ga K "FORMS") "WHILE" = some none := of_decide_eq_true (ex_at cE 150 rfl)
  have nw8 : PySem.W.nsIn K (He.ga K "FORMS") "IF" = some none := of_decide_eq_true (ex_at cE 151 rfl)
  have nw9 : PySem.W.nsIn K (He.ga K "FORMS") "" = some none := of_decide_eq_true (ex_at cE 152 rfl)
  have nw10 : PySem.W.nsIn K (He.ga K "FORMS") "a = ." = some none := of_decide_eq_true (ex_at cE 153 rfl)
  have gaZ : PySem.W.findIn K (.ref (He.ga K "NoProgram")) "__getattribute__" = some (some (.builtin "BaseException.__getattribute__")) := of_decide_eq_true (ex_at cE 154 rfl)
  have ggZ : PySem.W.findIn K (.ref (He.ga K "NoProgram")) "__getattr__" = some none := of_decide_eq_true (ex_at cE 155 rfl)
  have icZ : PySem.W.isClsIn K (He.ga K "NoProgram") = true := of_decide_eq_true (ex_at cE 156 rfl)
  have caZ : PySem.W.findIn K (.ref (He.ga K "NoProgram")) "__class__" = some (some (.builtin "object.__class__")) := of_decide_eq_true (ex_at cE 157 rfl)
  have cmZ : PySem.W.mroIn K (He.ga K "NoProgram") (.type "object") = some true := of_decide_eq_true (ex_at cE 158 rfl)
  have veZ : PySem.W.kitOne K (.ref (He.ga K "NoProgram")) (.type "ValueError") = some true := of_decide_eq_true (ex_at cE 159 rfl)
  have oz1 : PySem.W.nsIn K mainGlobals "NoName" = some (some (.ref (He.ga K "NoName"))) := of_decide_eq_true (ex_at cE 160 rfl)
  have oz2 : PySem.W.nsIn K mainGlobals "NoRoom" = some (some (.ref (He.ga K "NoRoom"))) := of_decide_eq_true (ex_at cE 161 rfl)
  have oz3 : PySem.W.nsIn K mainGlobals "NoSaying" = some (some (.ref (He.ga K "NoSaying"))) := of_decide_eq_true (ex_at cE 162 rfl)
  have oz4 : PySem.W.nsIn K mainGlobals "NoStep" = some (some (.ref (He.ga K "NoStep"))) := of_decide_eq_true (ex_at cE 163 rfl)
  have oz5 : PySem.W.nsIn K mainGlobals "NoText" = some (some (.ref (He.ga K "NoText"))) := of_decide_eq_true (ex_at cE 164 rfl)
  have oz6 : PySem.W.nsIn K mainGlobals "TooGreat" = some (some (.ref (He.ga K "TooGreat"))) := of_decide_eq_true (ex_at cE 165 rfl)
  have kaZ : PySem.W.kitAny K (.ref (He.ga K "NoProgram")) [.ref (He.ga K "NoName"), .ref (He.ga K "NoRoom"), .ref (He.ga K "NoSaying"), .ref (He.ga K "NoStep"), .ref (He.ga K "NoText"), .ref (He.ga K "TooGreat")] = some false := of_decide_eq_true (ex_at cE 166 rfl)
  have z_len : PySem.W.nsIn K mainGlobals "len" = some none := of_decide_eq_true (ex_at cE 167 rfl)
  have z_range : PySem.W.nsIn K mainGlobals "range" = some none := of_decide_eq_true (ex_at cE 168 rfl)
  have z_isinstance : PySem.W.nsIn K mainGlobals "isinstance" = some none := of_decide_eq_true (ex_at cE 169 rfl)
  have z_abs : PySem.W.nsIn K mainGlobals "abs" = some none := of_decide_eq_true (ex_at cE 170 rfl)
  have z_int : PySem.W.nsIn K mainGlobals "int" = some none := of_decide_eq_true (ex_at cE 171 rfl)
  have z_str : PySem.W.nsIn K mainGlobals "str" = some none := of_decide_eq_true (ex_at cE 172 rfl)
  have z_max : PySem.W.nsIn K mainGlobals "max" = some none := of_decide_eq_true (ex_at cE 173 rfl)
  have z_min : PySem.W.nsIn K mainGlobals "min" = some none := of_decide_eq_true (ex_at cE 174 rfl)
  have z_all : PySem.W.nsIn K mainGlobals "all" = some none := of_decide_eq_true (ex_at cE 175 rfl)
  have z_bool : PySem.W.nsIn K mainGlobals "bool" = some none := of_decide_eq_true (ex_at cE 176 rfl)
  have z_tuple : PySem.W.nsIn K mainGlobals "tuple" = some none := of_decide_eq_true (ex_at cE 177 rfl)
  have z_zip : PySem.W.nsIn K mainGlobals "zip" = some none := of_decide_eq_true (ex_at cE 178 rfl)
  have z_enumerate : PySem.W.nsIn K mainGlobals "enumerate" = some none := of_decide_eq_true (ex_at cE 179 rfl)
  have z_list : PySem.W.nsIn K mainGlobals "list" = some none := of_decide_eq_true (ex_at cE 180 rfl)
  have z_ValueError : PySem.W.nsIn K mainGlobals "ValueError" = some none := of_decide_eq_true (ex_at cE 181 rfl)
  exact all_mk X G hfa aC pg hd po sa mkC kc nF nS nZ ca cn ct cm neC aM aI iI lI cI kI lT aEq iEq lEq cEq kEq aPa lPa cPa kPa aAl lAl cAl kAl aIn lIn cIn kIn aFt lFt cFt kFt aHf lHf cHf kHf aRi lRi cRi kRi aLk lLk cLk kLk aLy lLy cLy kLy aBa lBa cBa kBa aTa lTa cTa kTa aTh lTh cTh kTh aNa lNa cNa kNa aDe lDe cDe kDe aDs lDs cDs kDs aTo lTo cTo kTo aXro lXro cXro kXro aXin lXin cXin kXin aXfo lXfo cXfo kXfo aXwr lXwr cXwr kXwr aXod lXod cXod kXod aXbe lXbe cXbe kXbe aXne lXne cXne kXne aXgd lXgd cXgd kXgd aLaw lLaw cLaw kLaw aP pgP hdP poP saP mkCP kcP nDP nPP caP cmP neP aFm lFm litF lowF aN1 aN2 aN3 kii kib ktt kss fm0 fm1 fm2 fm3 fm4 fm5 fm6 aPI iPI lPI cPI kPI aPL iPL lPL cPL kPL aPE iPE lPE cPE kPE aZ xZ ovZ saZ exZ tyZ kZ plZ vVZ iZ tfZ lZ cZ kfZ hdZ scZ ktc0 ktc1 ktc2 ktc3 ktc4 ktc5 ktp0 ktp1 ktp2 ktp3 ktp4 ktp5 kct0 kct1 kct2 kct3 kct4 kpt0 kpt1 kpt2 kpt3 kpt4 kcp kpc nw0 nw1 nw2 nw3 nw4 nw5 nw6 nw7 nw8 nw9 nw10 gaZ ggZ icZ caZ cmZ veZ oz1 oz2 oz3 oz4 oz5 oz6 kaZ z_len z_range z_isinstance z_abs z_int z_str z_max z_min z_all z_bool z_tuple z_zip z_enumerate z_list z_ValueError
end Js
open PySem PySem.W PySem.Calls PyProof.Rows in
set_option maxRecDepth 100000 in
set_option maxHeartbeats 0 in
theorem PySem.Challenge.cw_judgeslip_k07_no_programs_holds : PySem.Challenge.rw_judgeslip_k07_no_programs.Holds := by
  w_on; o_law
  refine HandSHeadRun.head_any (r := OpenLaw.row PySem.Challenge.rw_judgeslip_k07_no_programs) (q := view (OpenLaw.row PySem.Challenge.rw_judgeslip_k07_no_programs).prog [48]) (H := Js.hkX) (ob := Js.hob) (M := 20000) (loose := Js.hnames) (d := HandSHeadRun.topDef (OpenLaw.row PySem.Challenge.rw_judgeslip_k07_no_programs).prog 48) (kwd := []) Js.hob_eq
    Js.hfe Js.hff Js.hrun Js.hfd Js.hfp (by kernel_rfl) (by rfl) (by first | assumption | decide +kernel) Js.hfo Js.hfb ?hw ?hc
  case hw => w_witness2
  case hc =>
    refine L2.walk_ofE (l := PySem.Challenge.rw_judgeslip_k07_no_programs) (n := 63) (k := 17) (x := "_law_script") (CX := L2.CX0) rfl (by decide) (by kernel_rfl) ⟨rfl, by decide, by decide⟩ ?F (fun _ _ _ _ z => z)
    intro w mg fa h Y G hmg0
    obtain ⟨K, KX, cT, cX⟩ := Y
    have hmg : mg ("law" : PySem.Str) = some (.ref fa) := by
      have e : (HandSHeadRun.topDef (OpenLaw.row PySem.Challenge.rw_judgeslip_k07_no_programs).prog 48).name = ("law" : PySem.Str) := by kernel_rfl
      rw [← e]
      exact hmg0
    obtain ⟨fd, hb, hF⟩ := Js.hfacts (P := (PySem.Challenge.rw_judgeslip_k07_no_programs).prog) (w := w) KX G hmg cT cX
    exact ⟨K, fd, Js.spLaw K, KX, hb, fun H a ns hl _ hS => ⟨a, ns, rfl, hS, hl, fun _ => rfl⟩, hF⟩
