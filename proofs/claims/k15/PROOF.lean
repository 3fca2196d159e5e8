import PyProof.Rows.All
import Wide.All
import OpenK.AllK
import Wide.FinOn
import HandS.Iter
import HandS.Walk
import KE.GoesEnum
import HandS.List
import HandS.NoneIn
import KE.KUnpackStar
import HandS.ExcIs
import HandS.ExcField
import HandS.Words
import HandS.WordsExc
import HandS.Base
import HandS.Call
import HandS.Comp
import HandS.Dict
import HandS.Text
import HandS.More
import HandS.Ends
import HandS.Defaults
import HandS.Gcd
import KE.KMathG
import HandS.Deep
import HandS.SortRule
import HandS.IsInst
import HandS.ExcInit
import HandS.Star
import HandS.FStr
import HandS.Property
import HandS.ClsMeth
import HandS.Lambda
import HandS.SetFor
import PyProof.StrBlock2
import HandS.TupAny
import HandS.TupMul
import HandS.Conv
import PyProof.StrLawsChain
import HandS.Style
import HandS.EndOwn
import KE.KNestM
import PySem.Challenge.RW_doorkeys_k15_invalid_texts
set_option Elab.async false
set_option linter.all false
set_option maxRecDepth 100000
set_option maxHeartbeats 4000000
/-! enumerate(tuple) -/
namespace Dk
open PySem PySem.Spec PyProof.Rows L2
theorem meets_enumB {v : Value} {o : Obj} {H : Heap → Prop} (B : Begins v o H) :
    Meets (Builtin.«enumerate.__new__» ⟨[.type "enumerate", v], []⟩) (fun _ R s => H s.heap ∧
      R (.ok (.ret (.ref (s.heap.push o).objs.size))) { s with heap := (s.heap.push o).push { cls := .type "enumerate", data := .fields #[.none, .bool false, .ref s.heap.objs.size, rawInt 0, .none, .none] } }) :=
  .of_wp fun prog w A R s h => by
    obtain ⟨hh, hR⟩ := h
    cases s with
    | mk h0 g0 d0 t0 o0 =>
      have _ := sub_enumerate
      have begin_ {A1 : Around} {E1 Q1 : Value → Shared → Prop} (q : Q1 (.ref h0.objs.size) ⟨h0.push o, g0, d0, t0, o0⟩) : wpAny (model prog w) A1 (pyIter v) Q1 E1 ⟨h0, g0, d0, t0, o0⟩ := B.iter prog w _ _ _ _ hh q
      (wp_walk using begin_); refine wpAny_stack_any fun _ => ?_
      refine wpAny_pure ?_
      split
      next c _ _ _ _ _ => cases (c == Value.type "enumerate") <;> (wp_walk using begin_) <;> exact ⟨_, rfl, hR⟩
      next => (wp_walk using begin_); exact ⟨_, rfl, hR⟩
section
variable {prog : Program} {w : World} {A : Around} {E : Value → Shared → Prop} {s : Shared}
theorem enum_beginsB {v : Value} {o : Obj} {H : Heap → Prop} {Q : Value → Shared → Prop} (B : Begins v o H) (h1 : H s.heap)
    (h : ∀ h', IsEnum h' (s.heap.objs.size + 1) s.heap.objs.size 0 .none → h'.get? s.heap.objs.size = some o → h'.objs.size = s.heap.objs.size + 2 →
      (∀ b o, s.heap.get? b = some o → h'.get? b = some o) → Q (.ref (s.heap.objs.size + 1)) { s with heap := h' }) :
    wpAny (model prog w) A (call (.type "enumerate") [v]) Q E s := by
  refine callType_new F.called_enumerate (by decide) (F.typeCall_enumerate_1 _) (F.newCall_enumerate_1 _) (fun obj => F.args_object_init_2 obj _) F.entry_enumerate_new
    (meets_enumB B) ⟨h1, ?_⟩
  have hzz : (s.heap.push o).objs.size = s.heap.objs.size + 1 := Heap.size_push ..
  show _ ∧ _
  rw [hzz]
  have he : IsEnum ((s.heap.push o).push { cls := .type "enumerate", data := .fields #[.none, .bool false, .ref s.heap.objs.size, rawInt 0, .none, .none] }) (s.heap.objs.size + 1) s.heap.objs.size 0 .none := by
    have := Heap.get?_push_size (s.heap.push o) (o := { cls := .type "enumerate", data := .fields #[.none, .bool false, .ref s.heap.objs.size, rawInt 0, .none, .none] }) rfl
    rw [hzz] at this; exact this
  refine ⟨⟨_, he, rfl⟩, h _ he (Heap.get?_push_of_some _ (Heap.get?_push_size _ B.free)) (by rw [Heap.size_push, hzz]) fun b o x => Heap.get?_push_of_some _ (Heap.get?_push_of_some _ x)⟩
end
/-- the tuple at a, each item in a nw pair -/
def IteT (K : PySem.W.Frag) (a : Addr) : It :=
  ⟨fun i H => ∃ (xs : List V) (x : V), SqT K H a xs ∧ xs[i]? = some x, fun i H v H' => ∃ T x, v = .ref T ∧ H T = none ∧ H' = upd H T (.tup [.int (i : Nat), x]) ∧ ∀ xs, SqT K H a xs → xs[i]? = some x, fun i H => ∃ xs : List V, SqT K H a xs ∧ xs.length = i⟩
theorem turn_enumT {P : Program} {w : World} {K : PySem.W.Frag} {elts : List Expr} {kk : Nat} {tpos : Pos} (a e it : Addr) :
    Turn P w K (.Tuple elts kk tpos) (IteT K a) [e, it] e (fun i h => (∃ was, IsEnum h e it ((i : Nat) : Int) was) ∧ h.IsTupleIter it a i ∧ e ≠ it ∧ a ≠ it ∧ a ≠ e) where
  mem := by simp
  obj := fun i h stt b hb => by
    obtain ⟨⟨was, he⟩, ⟨o, hob, hcl, hd⟩, _⟩ := stt
    have ee : b = e ∨ b = it := by simpa using hb
    rcases ee with z | z
    · rw [z]; exact ⟨_, he, fun v q => nomatch q⟩
    · rw [z]; exact ⟨o, hob, fun v q => by rw [hd] at q; cases q⟩
  keep := fun i h h' stt k => let ⟨⟨was, he⟩, hi, neq⟩ := stt; ⟨⟨was, k e (by simp) _ he⟩, hi.at fun o q => k it (by simp) o q, neq⟩
  item := by
    intro X hP hw hK hcl i pins s σ H E I hf stt hg
    subst hP hw hK
    obtain ⟨⟨was, he⟩, hit, neq, hai, hae⟩ := stt
    obtain ⟨xs, x, hq, hx⟩ := hg
    obtain ⟨its, rv, p, hzz⟩ := I.tuple hq
    obtain ⟨u, hu, ru⟩ := rv.get hx
    have elt : e < s.heap.objs.size := Heap.lt_size he
    have ilt : it < s.heap.objs.size := by obtain ⟨_, q, _⟩ := hit; exact Heap.lt_size q
    have hlen : i < its.toArray.size := by
      have h1 := (List.getElem?_eq_some_iff.mp hu).1
      simpa using h1
    refine wpAny_pyNext_enum_itemC (n := its.toArray.size) (i := i) (Draws.tuple (A := X.A.in1) (show X.A.in1.handled = none from I.ok.hd hcl) it a hai its.toArray) he ⟨hit, p⟩ hlen neq (by simp; exact ⟨neq, fun z => hae z.symm⟩) fun y h' tk hP hob hst hT hsize hkeep => ?_
    have ey : y = u := by
      have h1 : its.toArray[i]? = some u := by simpa using hu
      rw [h1] at hP
      exact (Option.some.inj hP).symm
    subst ey
    refine ⟨_, rfl, wpAny_letOwnedTupleGo_enum (s := { s with heap := h', toks := tk + 1 }) hob fun h'' he' same2 => ?_⟩
    have hT2 : h''.get? s.heap.objs.size = some { cls := .type "tuple", data := .seq #[.int i tk, y] } := (same2.2 _ (Nat.ne_of_gt elt)).trans hT
    have nw : ObjOk X.prog X.w (upd H s.heap.objs.size (.tup [.int (i : Nat), x])) h'' s.heap.objs.size (.tup [.int (i : Nat), x]) :=
      ⟨by show 2 ≤ sizeLine; decide, [.int i tk, y], .cons ⟨_, rfl⟩ (.cons ru .nil), ⟨_, hT2, rfl, _, rfl⟩⟩
    have J1 : Inv X pins σ (upd H s.heap.objs.size (.tup [.int (i : Nat), x])) { s with heap := h'', toks := tk + 1 } :=
      I.turnedNew (ch := [e, it]) (fun b ob hb q => (same2.2 b (fun z => hb (by simp [z]))).trans (hkeep b ob (fun z => hb (by simp [z])) (fun z => hb (by simp [z])) q)) hf (Nat.le_refl _) nw
    refine ⟨.ref s.heap.objs.size, _, J1, rfl, ⟨_, x, rfl, I.hok.fresh (Nat.le_refl _), rfl, fun ys hy => by rw [I.tuple_inj hy hq]; exact hx⟩, ⟨⟨y, ?_⟩, hst.1.at fun o q => (same2.2 it (Ne.symm neq)).trans q, neq, hai, hae⟩, fun b hb => ?_⟩
    · have esum : ((i + 1 : Nat) : Int) = (i : Int) + 1 := by omega
      rw [esum]; exact he'
    · have hlow : b < s.heap.objs.size := by
        have ee : b = e ∨ b = it := by simpa using hb
        rcases ee with z | z
        · rw [z]; exact elt
        · rw [z]; exact ilt
      rw [upd_ne (Nat.ne_of_lt hlow)]
      exact (hf b hb).1
  done := by
    intro X hP hw hK hcl i pins s σ H E I hf stt hg
    subst hP hw hK
    obtain ⟨⟨was, he⟩, hit, neq, hai, hae⟩ := stt
    obtain ⟨xs, hq, hx⟩ := hg
    obtain ⟨its, rv, p, hzz⟩ := I.tuple hq
    obtain ⟨k0, k1, k2, k3, k4, k5⟩ := hf it (by simp)
    have hl : its.toArray.size = i := by have := rv.length; simp; omega
    have D := Draws.tuple (prog := X.prog) (w := X.w) (A := X.A.in1) (I.ok.hd hcl) it a hai its.toArray
    exact wpAny_pyNext_enum_endD D he (hl ▸ ⟨hit, p⟩) fun h' eb => ⟨rfl, I.turned (t' := s.toks) (fun b o hb q => eb b o hb q) k0 k1 k3 k4 k5⟩
  self := fun A i s Q E stt h => let ⟨⟨_, he⟩, _⟩ := stt; wpAny_pyIter_enum he h
def iEnumT (K : PySem.W.Frag) (ta : TA) : TI := fun σ H R => ta σ H fun vs H1 => ∃ a xs, vs = [.ref a] ∧ SqT K H1 a xs ∧ R (IteT K a) H1
theorem pi_enumT {X : Cx} {e : Expr} {ta : TA} {p pos tpos : Pos} {elts : List Expr} {kk : Nat} (hg : Gl X "enumerate") (hm : X.mg "enumerate" = none) (ha : PA X [e] ta) (hs : starEach [e] X.env = [(false, eval e X.env)] := by rfl) :
    PI X (.Tuple elts kk tpos) (.Call (.Name "enumerate" p) [e] [] pos) (iEnumT X.K ta) := by
  refine ⟨fun pins s σ H R I h => ?_⟩
  refine Call_ (ld_blt I hg hm boot_enumerate (PyProof.Rows.callWith_type1 (thn (ha.run pos pins s σ H _ I h) fun us s1 ⟨vs, H1, J1, r1, q1⟩ => ?_) hs rfl))
  obtain ⟨a, xs, ex, hq, q⟩ := q1
  subst ex
  cases r1 with
  | cons r rr =>
    cases rr
    cases r
    obtain ⟨its, rv, p', hzz⟩ := J1.tuple hq
    have hal : a < s1.heap.objs.size := p'.lt
    refine enum_beginsB (begins_tuple a its.toArray) p' fun h' he hit hsize hkeep => wpAny_pyIter_enum he ?_
    have J2 : Inv X pins σ H1 { s1 with heap := h' } := J1.kept (t' := s1.toks) hkeep
    refine ⟨s1.heap.objs.size + 1, [s1.heap.objs.size + 1, s1.heap.objs.size], _, _, H1, rfl, J2, turn_enumT a (s1.heap.objs.size + 1) s1.heap.objs.size, ⟨⟨.none, he⟩, ⟨_, hit, rfl, rfl⟩, Nat.succ_ne_self _, Nat.ne_of_lt hal, Nat.ne_of_lt (Nat.lt_succ_of_lt hal)⟩, fun b hb => ?_, q⟩
    have ee : b = s1.heap.objs.size + 1 ∨ b = s1.heap.objs.size := by simpa using hb
    have hle : s1.heap.objs.size ≤ b := by
      rcases ee with z | z
      · rw [z]; exact Nat.le_add_right _ _
      · rw [z]; exact Nat.le_refl _
    exact J1.fpOk hle (J1.hok.fresh hle)
theorem walk_enumT {K : PySem.W.Frag} {a : Addr} {xs : List V} : Walk (IteT K a) xs.length (fun H => SqT K H a xs) (YPair (fun i => some (.int (i : Nat))) (fun i => xs[i]?)) := by
  refine ⟨fun i _ hi q => ⟨xs, xs[i], q, by simp [hi]⟩, fun _ q => ⟨xs, q, rfl⟩, fun i H v H' hi q y => ?_⟩
  obtain ⟨T, x, esum, e2, e3, e4⟩ := y
  exact ⟨T, _, x, esum, e2, e3, rfl, e4 xs q⟩
end Dk

set_option Elab.async false
set_option linter.all false
set_option maxRecDepth 100000
set_option maxHeartbeats 1000000
/-! a, *b = a list -/
namespace Dk
open PySem PySem.Spec PyProof.Rows L2
theorem star_items {prog : Program} {w : World} {A : Around} {E : Value → Shared → Prop} {s : Shared} {l : Addr} {u : Value} {us : List Value} {Q : List Value → Shared → Prop} (hl : s.heap.IsList l (u :: us).toArray) (hh : A.handled = none) (hz : us.length ≤ 16000)
    (h : ∀ (h2 : Heap) (tk : Tok), (∀ b o, s.heap.get? b = some o → h2.get? b = some o) → Q [u, .ref h2.objs.size] { s with heap := h2.push { cls := .type "list", data := .seq us.toArray }, toks := tk }) : wpAny (model prog w) A (unpackItems (.ref l) 2 (some 1)) Q E s := by
  have hlt : l ≠ s.heap.objs.size := by obtain ⟨o, ho, _⟩ := hl; exact Nat.ne_of_lt (Heap.lt_size ho)
  have hs : (u :: us).toArray.size = us.length + 1 := by simp
  unfold unpackItems
  refine wpAny_bind ?_
  unfold notIterableAtAll
  refine wpAny_bind (wpAny_specialOf hl.typeIs F.slot_list_iter.lookup ?_)
  refine wpAny_pure ?_
  simp only [Bool.false_eq_true, if_false]
  refine wpAny_bind (wpAny_holding (wpAny_pyIter_list hl ?_))
  refine wpAny_bind (wpAny_holding (PySem.W.kun_draw hlt 1 0 _ _ ⟨_, Heap.get?_push_size _ rfl, rfl, rfl⟩ (hl.push _) (by omega) fun h₁ hit₁ hs₁ => ?_))
  have hl₁ : h₁.IsList l (u :: us).toArray := (hl.push _).extBut hs₁.extBut hlt
  rw [Nat.zero_add] at hit₁
  have hit₁' := hit₁
  obtain ⟨oi, hoi, _⟩ := hit₁'
  have hl₁' := hl₁
  obtain ⟨ol, hol, _⟩ := hl₁'
  rw [List.drop_zero]
  have e1 : (u :: us).toArray.toList.take 1 = [u] := by simp
  rw [e1]
  rw [if_neg (show ¬ (([u] : List Value).length < 1) by simp)]
  refine wpAny_bind (wpAny_holding (PySem.W.kun_collect (s := { s with heap := h₁ }) (T := "list_iterator") (.inr (.inr (.inl rfl))) (Walks.list (A := A.in1) hh s.heap.objs.size l hlt (u :: us).toArray) (fun j u st => st.1.typeIs) (k := 1) (by omega) ⟨hit₁, hl₁⟩ (Heap.lt_size hoi) (Heap.lt_size hol) (fun h₂ tk hk => ?_) (by rw [hs]; exact Nat.le_trans (by omega : us.length + 1 ≤ 16001) (by decide))))
  have e2 : (u :: us).toArray.toList.drop 1 = us := by simp
  rw [e2]
  show wpAny _ _ (if us.length < 0 then _ else _) _ _ _
  rw [if_neg (by omega)]
  show wpAny _ _ (newList (us.take (us.length - 0)) >>= fun d => pure ([u] ++ [d] ++ us.drop (us.length - 0))) _ _ _
  rw [Nat.sub_zero, List.take_length, List.drop_length]
  refine wpAny_bind (wpAny_newObj_type ?_ (by show us.toArray.size ≤ sizeLine; rw [List.size_toArray]; exact Nat.le_trans hz (by decide)))
  exact wpAny_pure (h h₂ tk fun b o e => hk b o (Nat.ne_of_lt (Heap.lt_size e)) (hs₁.extBut b o (Nat.ne_of_lt (Heap.lt_size e)) (Heap.get?_push_of_some _ e)))
section
variable {X : Cx} {pos : Pos}
def gStar (K : PySem.W.Frag) (t : TGs) : TG := fun v σ H Q => ∃ a x xs, v = .ref a ∧ SqL K H a (x :: xs) ∧ xs.length ≤ 16000 ∧ ∀ D, H D = none → t [x, .ref D] σ (upd H D (.lst xs)) Q
theorem pg_star {e1 e2 : Expr} {p : Pos} {k : Nat} {t : TGs} (hc : X.calm = true) (h : PGs X [e1, e2] t)
    (he : (assignEach [e1, .Starred e2 p] X.env).map (·.2) = (assignEach [e1, e2] X.env).map (·.2) := by rfl)
    (hn : (assignEach [e1, .Starred e2 p] X.env).length = 2 := by rfl) (hst : (assignEach [e1, .Starred e2 p] X.env).findIdx? (·.1) = some 1 := by rfl) : PG X (.Tuple [e1, .Starred e2 p] k pos) (gStar X.K t) := by
  refine ⟨fun pins s σ H v u Q I r hw => ?_⟩
  obtain ⟨a, x, xs, e1, hq, hl, hw⟩ := hw
  subst e1
  cases r
  obtain ⟨its, rv, pl, hz⟩ := I.list hq
  cases rv with
  | @cons _ u0 _ us r0 rs =>
    have hl' : s.heap.IsList a (u0 :: us).toArray := by
      obtain ⟨o, m, e, c, d, q⟩ := pl
      exact ⟨o, e, c, m, q⟩
    rw [PyProof.Rows.assign_Tuple]
    refine wpAny_bind (wpAny_standAt ?_)
    unfold unpack
    rw [hn, hst, he]
    refine wpAny_bind (wpAny_holding (star_items hl' (I.ok.hd hc) (by rw [← Paired.length rs]; exact hl) fun h2 tk hx => ?_))
    have I1 : Inv X pins σ H { s with heap := h2, toks := tk } := I.kept (t' := tk) hx
    have hnew : H h2.objs.size = none := I1.hok.fresh (Nat.le_refl _)
    have I2 : Inv X pins σ (upd H h2.objs.size (.lst xs)) { s with heap := h2.push { cls := .type "list", data := .seq us.toArray }, toks := tk } :=
      I1.laid (t' := tk) (fun b o q => Heap.get?_push_of_some _ q) (Nat.le_refl _) ⟨Nat.le_trans hl (by decide), us, 0, rs, Heap.get?_push_size _ rfl⟩
    exact h.run pins _ σ _ [x, .ref h2.objs.size] _ Q I2 (.cons r0 (.cons rfl .nil)) (hw _ hnew)
end
end Dk

set_option Elab.async false
set_option linter.all false
set_option maxRecDepth 100000
set_option maxHeartbeats 2000000
/-! isinstance(e, c), e an exception with fields of its own -/
namespace DkI
open PySem PySem.Spec PySem.Calls PyProof.Rows PySem.W
section
variable {prog : Program} {w : World} {A : Around} {E : Value → Shared → Prop} {s : Shared} {K : Frag} {x D : Addr} {ox ob : Obj}
theorem class_of_err {Q : Option Value → Shared → Prop} (C : L2.ExcC K D) (X : K.In s.heap) (I : InstAt s.heap x ox D (some ob)) (h : Q (some (.ref D)) { s with toks := s.toks + 1 }) : wpAny (model prog w) A (getAttr? (.ref x) "__class__") Q E s := by
  have cD : (clsIn K D).isSome = true := by obtain ⟨_, e, _⟩ := any_some C.hd; rw [e]; rfl
  cases s with
  | mk h0 g0 d0 t0 o0 =>
    have T0 := I.type (M := model prog w)
    have T1 : Looks (model prog w) h0 (isInstance (.ref x) (.type "BaseException")) true := T0.andThen (looks_subIn X C.hs)
    have n1 : (Value.builtin "BaseException.__getattribute__" == Value.builtin "object.__getattribute__") = false := by decide +kernel
    have n2 : (onTheHeap (Value.ref D) && Value.builtin "BaseException.__getattribute__" == Value.builtin "object.__getattribute__") = false := by rw [n1]; rfl
    unfold getAttr? getAttrBy? getAttrBy
    refine wpAny_bind (wpAny_mkText ?_)
    refine wpAny_bind (wpAny_attempt (wpAny_holding ?_))
    refine wpAny_bind (T0.at ?_)
    refine wpAny_bind ((looks_findIn (M := model prog w) X C.hg).at ?_)
    show wpAny _ _ (if (onTheHeap (Value.ref D) && Value.builtin "BaseException.__getattribute__" == Value.builtin "object.__getattribute__") = true then _ else _) _ _ _
    rw [n2, if_neg Bool.false_ne_true]
    unfold getAttrByItsOwn hookBefore
    refine wpAny_bind ?_
    rw [if_pos (show onTheHeap (Value.ref D) = true from rfl)]
    refine (looks_findIn (M := model prog w) X C.hk).at (wpAny_bind (wpAny_attempt (wpAny_holding ?_)))
    unfold callGetattribute
    rw [show (false && onTheHeap (Value.builtin "BaseException.__getattribute__")) = false from rfl, if_neg Bool.false_ne_true]
    unfold boundAndCalled
    rw [PySem.F.excAttr_ValueError.ga.bind (.ref x)]
    refine wpAny_bind (wpAny_pure ?_)
    show wpAny _ _ (call (.builtin "BaseException.__getattribute__") [.ref x, .str "__class__" t0]) _ _ _
    refine wpAny_call (codeAny_call_builtin PySem.F.excAttr_ValueError.ga.plain PySem.F.entry_bexc_ga ?_)
    refine @check_slot (model prog w) _ _ ⟨h0, g0, d0, t0 + 1, o0⟩ "BaseException.__getattribute__" "BaseException" "__getattribute__" (.ref x) [.str "__class__" t0] [] _ (by decide +kernel) (by decide +kernel) T1 (PySem.F.args_bexc_ga (.ref x) (.str "__class__" t0)) ?_
    unfold Builtin.«object.__getattribute__»
    refine wpAny_bind (wpAny_of_eq (a := ((Value.ref x : Value), [Value.str "__class__" t0])) (by first | rfl | (simp only [slotArgs]; rfl)) ?_)
    refine wpAny_bind (wpAny_pure (wpAny_bind (T0.at ?_)))
    refine wpAny_bind ((looks_find (M := model prog w) X I (findObj_data cD C.ha C.hn C.ht)).at ?_)
    show wpAny _ _ (holding [Value.builtin "object.__class__"] (call (.builtin "getset_descriptor.__get__") [.builtin "object.__class__", .ref x, .ref D]) >>= ret) _ _ _
    refine wpAny_bind (wpAny_holding (wpAny_call (class_get (s := ⟨h0, g0, d0, t0 + 1, o0⟩) (ox := ox) (od := some ob) (tp := .ref D) X I C.hm ?_)))
    refine wpAny_pure ?_
    show wpAny _ _ (handedOut (.ref D)) _ _ _
    rw [handedOut_of (v := .ref D) rfl]
    first
      | exact wpAny_pure (wpAny_pure h)
      | exact wpAny_pure h
      | exact wpAny_pure (wpAny_bind (wpAny_pure (wpAny_pure h)))
theorem kit_err (C : L2.ExcC K D) : KitX K (.ref x) (.ref D) (fun h => InstAt h x ox D (some ob)) where
  ty := fun _ _ _ I => I.type
  it := fun M h X _ => by
    obtain ⟨cd, e, _⟩ := any_some C.hd
    unfold clsIn at e
    split at e
    · rename_i a b c d ho
      intro A' Q' E' s' k q
      unfold isType loadHead
      exact wpAny_bind (wpAny_loadPart (k _ _ (X _ _ ho)) (wpAny_pure q))
    · cases e
  ne := fun h tp dd its n sl X htp => by
    obtain ⟨cd, e, _⟩ := any_some C.hd
    refine Bool.eq_false_iff.mpr fun q => ?_
    have e0 : D = tp := Value.ref.inj (beq_iff_eq.mp q)
    subst e0
    unfold clsIn at e
    split at e
    · rename_i a b c d ho
      cases (X _ _ ho).symm.trans htp
    · cases e
  ca := fun X I k => class_of_err C X I k
end
end DkI
namespace Dk
open PySem PySem.Spec PyProof.Rows L2
/-- isinstance(e, c), e the exception that the suite holds, dd its dict -/
def rIsD (K : PySem.W.Frag) (D a : Addr) (cls : Value) (d : Option Addr) : List V → Hp → VK → Prop := fun xs H Q => ∃ (c : V) (cv : Value) (b : Bool) (dd : Addr) (fs : List (Str × V)), cls = .ref D ∧ d = some dd ∧ H dd = some (.xd fs) ∧ xs = [.ref a, c] ∧ (∀ u, RelV c u → u = cv) ∧ PySem.W.kitOne K (.ref D) cv = some b ∧ Q (.bl b) H
theorem call_isD {X : Cx} {a D : Addr} {oe : Obj} {cls : Value} {d : Option Addr} {pn : List (Addr × Obj)} (C : ExcC X.K D) (hz : Zc cls d oe) (hf : ∃ vs, oe.data = .fields vs) : CallR (X.suite a ((a, oe) :: pn)) (.builtin "isinstance") (rIsD X.K D a cls d) := by
  intro pins s σ H xs us Q I r h
  obtain ⟨c, cv, b, dd, fs, rfl, rfl, ea, rfl, hcv, e, q⟩ := h
  cases r with
  | cons rx rr =>
    cases rr with
    | cons rt rr =>
      cases rr
      cases rx
      have ec := hcv _ rt
      subst ec
      obtain ⟨hget, _⟩ := I.pin (a, oe) (List.mem_append.mpr (.inl List.mem_cons_self))
      obtain ⟨vs, hv⟩ := hf
      have hx : ObjOk X.prog X.w H s.heap dd (.xd fs) := I.hok dd _ ea
      obtain ⟨mA, hns, _⟩ := hx
      obtain ⟨ob, ho, _⟩ := lookIn_ns hns
      have J : PySem.W.InstAt s.heap a oe D (some ob) := ⟨hget, hz.1, by unfold PySem.W.notCls; rw [hv] <;> rfl, by rw [hz.2]; exact ho⟩
      exact PySem.W.kia_one (DkI.kit_err C) I.kIn J e (fun z => nomatch z) fun tk => ⟨.bl b, H, I.kept (t' := tk) fun _ _ z => z, rfl, q⟩
end Dk

set_option Elab.async false
set_option linter.all false
set_option maxRecDepth 100000
set_option maxHeartbeats 4000000
namespace Dk
open PySem PySem.Spec PyProof.Rows L2
/-! ### the text by places -/
def top (i : Nat) : Stmt := PySem.Challenge.pw_doorkeys_k15_invalid_texts.main.body.getD i (.Pass ⟨0, 0, 0, 0⟩)
abbrev sIsInt : Stmt := top 17
abbrev sIsBelow : Stmt := top 18
abbrev sPeriod : Stmt := top 28
abbrev sChkTables : Stmt := top 29
abbrev sChkKeys : Stmt := top 30
abbrev sChkCareful : Stmt := top 31
abbrev sChkRem : Stmt := top 32
abbrev sIsTable : Stmt := top 33
abbrev sIsRem : Stmt := top 34
abbrev sAsc : Stmt := top 35
abbrev sHasOnly : Stmt := top 36
abbrev sSplit : Stmt := top 37
abbrev sAreArgs : Stmt := top 38
abbrev sIsTW : Stmt := top 39
abbrev sIsNW : Stmt := top 40
abbrev sIsRW : Stmt := top 41
abbrev sReadNs : Stmt := top 42
abbrev sReadRs : Stmt := top 43
abbrev sKeysL : Stmt := top 44
abbrev sCarL : Stmt := top 45
abbrev sRemL : Stmt := top 46
abbrev sRandom : Stmt := top 48
abbrev sBelow : Stmt := top 49
abbrev sLawTab : Stmt := top 50
abbrev sLawNum : Stmt := top 51
abbrev sLawRem : Stmt := top 52
abbrev sFault : Stmt := top 53
abbrev sErr : Stmt := top 54
abbrev sRead : Stmt := top 55
abbrev sHouseF : Stmt := top 56
abbrev sLaw : Stmt := top 57
abbrev sInit : Stmt := inClass (top 27) 0
abbrev sText : Stmt := inClass (top 27) 3
abbrev sParse : Stmt := inClass (top 27) 4

/-! ### heaps -/
theorem sSqT {K : PySem.W.Frag} {H H' : Hp} {a : Addr} {xs : List V} (e : Same H H') (h : SqT K H a xs) : SqT K H' a xs := by
  rcases h with (h | ⟨o, h⟩) | h
  · exact .inl (.inl (e _ _ h))
  · exact .inl (.inr ⟨o, e _ _ h⟩)
  · exact .inr h
theorem same_upd {H : Hp} {p : Addr} {o : HO} (h : H p = none) : Same H (upd H p o) := fun b u e => by
  rw [upd_ne (ne_of_none e h)]; exact e
/-- all that was tracked is as it was, but at l -/
def Kp (l : Addr) (H H' : Hp) : Prop := ∀ b o, b ≠ l → H b = some o → H' b = some o
theorem sKp {l : Addr} {H H' : Hp} (s : Same H H') : Kp l H H' := fun b o _ e => s b o e
theorem Kp.refl {l : Addr} {H : Hp} : Kp l H H := fun _ _ _ e => e
theorem Kp.trans {l : Addr} {H H1 H2 : Hp} (a : Kp l H H1) (b : Kp l H1 H2) : Kp l H H2 := fun c o n e => b c o n (a c o n e)
theorem kp_upd {l : Addr} {H : Hp} {o : HO} : Kp l H (upd H l o) := fun b u n e => by rw [upd_ne n]; exact e
theorem Kp.same {l : Addr} {H H' : Hp} (k : Kp l H H') (h : ∀ o, H l = some o → H' l = some o) : Same H H' := fun b o e => by
  by_cases n : b = l
  · subst n; exact h o e
  · exact k b o n e
theorem Kp.sqT {K : PySem.W.Frag} {l : Addr} {xs : List V} {ys : List V} {H H' : Hp} {a : Addr} (k : Kp l H H') (hl : H l = some (.lst ys)) (h : SqT K H a xs) : SqT K H' a xs := by
  rcases h with (h | ⟨o, h⟩) | h
  · exact .inl (.inl (k _ _ (fun e => by rw [e, hl] at h; cases h) h))
  · exact .inl (.inr ⟨o, k _ _ (fun e => by rw [e, hl] at h; cases h) h⟩)
  · exact .inr h
/-- a list other than l stays -/
theorem Kp.lst {l : Addr} {xs : List V} {H H' : Hp} {a : Addr} (k : Kp l H H') (n : a ≠ l) (h : H a = some (.lst xs)) : H' a = some (.lst xs) := k _ _ n h

theorem take_more {α : Type} {l : List α} {i : Nat} {x : α} (h : l[i]? = some x) : l.take (i + 1) = l.take i ++ [x] := by
  rw [List.take_add_one, h]
  rfl
theorem map_at {α : Type} {f : α → V} {l : List α} {i : Nat} {y : V} (h : (l.map f)[i]? = some y) : ∃ z, l[i]? = some z ∧ y = f z := by
  rw [List.getElem?_map] at h
  cases e : l[i]? with
  | none => rw [e] at h; cases h
  | some z => rw [e] at h; exact ⟨z, rfl, (Option.some.inj h).symm⟩

/-! ### the law's source of numbers -/
/-- what is always true of the source's list -/
structure Good (st : List Int) : Prop where
  ex : ∃ s0 s1 r, st = s0 :: s1 :: r ∧ 0 ≤ s0 ∧ s0 < 2147483647 ∧ 0 ≤ s1 ∧ (∀ z ∈ r, (0 : Int) ≤ z) ∧ r.length ≤ 63

def spRandom (K : PySem.W.Frag) : Sp := fun vs H Q _ => ∃ (a : Addr) (ns : List Int) (salt : Int), vs = [.ref a, .int salt] ∧ SqL K H a (ns.map V.int) ∧ ns.length ≤ 63 ∧ 0 ≤ salt ∧ salt < 2147483647 ∧
  ∀ (H' : Hp) (p : Addr) (st : List Int), Same H H' → H p = none → H' p = some (.lst (st.map V.int)) → Good st → Q (.ref p) H'
structure TxtA (mg : Str → Option Value) : Prop where
  abs : mg "abs" = none
  len : mg "len" = none
  range : mg "range" = none

section
variable {P : Program} {w : World} {K : PySem.W.Frag} {mg : Str → Option Value} {base : Heap}
theorem scRandom : FnScope ["_law_script", "_law_salt", "_law_seed", "_law_cell"] ["_law_script", "_law_salt"] (defScope sRandom) := ⟨rfl, rfl, rfl, by decide +kernel, rfl, by decide +kernel, by decide +kernel⟩
theorem ok_random {f : Addr} {fd : FuncData} (F : Fun K "_law_random" "_law_random" sRandom f fd) (T : TxtA mg) : FnOk P w K mg base CX0 1 f fd ["_law_script", "_law_salt"] (spRandom K) := by
  refine F.ok scRandom (fun vs H Q E h => ?_) (fun cdv A outer s H vs Q E hr h => ?_)
  · obtain ⟨a, ns, salt, rfl, _⟩ := h
    rfl
  · obtain ⟨a, ns, salt, rfl, hS, hlen, hs0, hs1, k⟩ := h
    refine ⟨_, pss_cons (ps_set (i := 2) scRandom.nd rfl (.inl rfl) (pv 1))
      (pss_cons (ps_for PassesOwn.never rfl (pi_list (pv 0)) (pg_name (i := 3) scRandom.nd rfl (.inl rfl))
        (pss_one (ps_set (i := 2) scRandom.nd rfl (.inl rfl) (pe_op op_mod (pe_op op_add (pe_op op_mul (pv 2) pe_int) (pe_callB call_abs (by rfl) T.abs (by decide +kernel) (pa_cons (pv 3) pa_nil))) pe_int))))
      (pss_one (ps_ret (pe_op op_cat (pe_lst (pa_cons (pv 2) (pa_cons pe_int pa_nil)))
        (pe_lc (own := [("_law_cell", 3)]) (g := gName 3) (by rfl) scRandom.nd (pi_list (pv 0)) (blkOk_by (N := ["_law_script", "_law_salt", "_law_seed", "_law_cell"]) (sc := defScope sRandom) (by decide +kernel))
          (fun _ _ _ _ _ => pg_name (i := 3) scRandom.nd rfl (Or.inl rfl)) (fun _ _ _ _ _ => pts_one (pt_cmpR op_ge (pv 3) (pe_op op_pow pe_int pe_int) (nomark _))) (fun _ _ _ _ _ => pv 3)))))), ?_⟩
    refine ⟨_, rfl, ?_⟩
    refine ⟨_, rfl, a, rfl, ⟨_, hS⟩, for_list (K := K) (a := a) (xs := ns.map V.int) (fun i σ H' => ∃ (z : Int) (v : Option V), σ = [some (.ref a), some (.int salt), some (.int z), v] ∧ H' = H ∧ 0 ≤ z ∧ z < 2147483647)
      ⟨salt, none, rfl, rfl, hs0, hs1⟩ (fun i σ H' _ ⟨_, _, _, e, _⟩ => by rw [e]; exact hS) ?_ ?_⟩
    · rintro i y σ H' hi ⟨z, v, rfl, rfl, h0, h1⟩
      obtain ⟨u, hu, rfl⟩ := map_at hi
      refine ⟨_, rfl, _, _, rfl, rfl, .inl ⟨by omega, by omega⟩, _, rfl, _, rfl, _, _, rfl, rfl, _, _, rfl, rfl, (by show (0 : Int) < 2147483647; decide), ?_⟩
      exact ⟨_, _, rfl, rfl, Int.emod_nonneg _ (by decide), Int.emod_lt_of_pos _ (by decide)⟩
    · rintro σ H' ⟨z, v, rfl, rfl, h0, h1⟩
      refine ⟨_, rfl, (by show 2 ≤ sizeLine; decide), fun l hl => ?_⟩
      have s1 : Same H' (upd H' l (.lst [.int z, .int 0])) := same_upd hl
      refine ⟨_, rfl, a, rfl, ⟨_, s1.seq hS⟩, fun D hD => lc_list (K := K) (a := a) (xs := ns.map V.int)
        (fun i H2 => ∃ r : List Int, Same (upd H' l (.lst [.int z, .int 0])) H2 ∧ H2 D = some (.lst (r.map V.int)) ∧ r.length ≤ i ∧ ∀ x : Int, x ∈ r → 0 ≤ x)
        ⟨[], same_upd hD, upd_same, Nat.le_refl _, fun x hx => by cases hx⟩ (fun i H2 _ ⟨_, e, _⟩ => e.seq (s1.seq hS)) ?_ ?_⟩
      · rintro i y H2 hi ⟨r, e2, eD, hr1, hr2⟩
        obtain ⟨u, hu, rfl⟩ := map_at hi
        have hil : i < ns.length := (List.getElem?_eq_some_iff.mp hu).1
        refine ⟨rfl, _, rfl, _, _, rfl, rfl, ?_, _, _, rfl, rfl, _, rfl, ite2 (fun c => ?_) (fun c => ?_)⟩
        · exact ⟨by decide, by decide, by decide⟩
        · refine ⟨_, rfl, _, eD, ?_, r ++ [u], fun b o eb => ?_, ?_, ?_, fun x hx => ?_⟩
          · rw [List.length_map]; exact Nat.lt_of_le_of_lt (by omega : r.length ≤ 1000) (by decide)
          · have nb : b ≠ D := ne_of_none eb hD
            rw [upd_ne nb]; exact e2 _ _ eb
          · rw [upd_same]; simp
          · rw [List.length_append, List.length_singleton]; omega
          · rcases List.mem_append.mp hx with hx | hx
            · exact hr2 x hx
            · rw [List.mem_singleton] at hx
              subst hx
              have c' : (10 : Int) ^ (18 : Int).toNat ≤ x := of_decide_eq_true c
              exact Int.le_trans (by decide) c'
        · exact ⟨r, e2, eD, by omega, hr2⟩
      · rintro H2 ⟨r, e2, eD, hr1, hr2⟩
        rw [List.length_map] at hr1
        have el : H2 l = some (.lst [.int z, .int 0]) := e2 _ _ upd_same
        refine ⟨_, _, _, _, rfl, rfl, el, eD, ?_, fun p hp => ?_⟩
        · simp only [List.length_cons, List.length_nil, List.length_map]
          exact Nat.le_trans (by omega : _ ≤ 1000) (by decide)
        · have s2 : Same H' H2 := s1.trans e2
          refine k _ p (z :: 0 :: r) (s2.trans (same_upd hp)) (s2.free hp) (by rw [upd_same]; rfl) ⟨⟨z, 0, r, rfl, h0, h1, Int.le_refl _, hr2, by omega⟩⟩
end
end Dk

set_option Elab.async false
set_option linter.all false
set_option maxRecDepth 100000
set_option maxHeartbeats 4000000
namespace Dk
open PySem PySem.Spec PyProof.Rows L2
theorem at0 {a : V} {l : List V} : atI (a :: l) 0 = some a := atI_nat (j := 0) rfl
theorem at1 {a b : V} {l : List V} : atI (a :: b :: l) 1 = some b := atI_nat (j := 1) rfl
theorem at2 {a b c : V} {l : List V} : atI (a :: b :: c :: l) 2 = some c := atI_nat (j := 2) rfl
theorem at3 {a b c e : V} {l : List V} : atI (a :: b :: c :: e :: l) 3 = some e := atI_nat (j := 3) rfl
theorem ix0 {a : V} {l : List V} : ixN (a :: l).length 0 = some 0 := by
  unfold ixN; rw [if_pos (by decide), if_pos (by rw [List.length_cons]; omega)]; rfl
theorem ix1 {a b : V} {l : List V} : ixN (a :: b :: l).length 1 = some 1 := by
  unfold ixN; rw [if_pos (by decide), if_pos (by rw [List.length_cons, List.length_cons]; omega)]; rfl
theorem sq2 {a b c : V} {l : List V} : seqIndex? 2 (a :: b :: c :: l).length = some 2 := (ixN_seq (by
  unfold ixN; rw [if_pos (by decide), if_pos (by rw [List.length_cons, List.length_cons, List.length_cons]; omega)]; rfl)).1
def spBelow : Sp := fun vs H Q _ => ∃ (d : Addr) (lim : Int) (st : List Int), vs = [.ref d, .int lim] ∧ H d = some (.lst (st.map V.int)) ∧ Good st ∧ 1 ≤ lim ∧ lim < 1073741824 ∧
  ∀ (H' : Hp) (st' : List Int) (r : Int), Kp d H H' → H' d = some (.lst (st'.map V.int)) → Good st' → 0 ≤ r → r < lim → Q (.int r) H'
section
variable {P : Program} {w : World} {K : PySem.W.Frag} {mg : Str → Option Value} {base : Heap}
theorem scBelow : FnScope ["_law_d", "_law_limit", "_law_result"] ["_law_d", "_law_limit"] (defScope sBelow) := ⟨rfl, rfl, rfl, by decide +kernel, rfl, by decide +kernel, by decide +kernel⟩
theorem ok_below {f : Addr} {fd : FuncData} (F : Fun K "_law_below" "_law_below" sBelow f fd) (T : TxtA mg) : FnOk P w K mg base CX0 1 f fd ["_law_d", "_law_limit"] spBelow := by
  refine F.ok scBelow (fun vs H Q E h => ?_) (fun cdv A outer s H vs Q E hr h => ?_)
  · obtain ⟨d, lim, st, rfl, _⟩ := h
    rfl
  · obtain ⟨d, lim, st, rfl, hd, ⟨s0, s1, r, rfl, h0, h1, h2, h3, h4⟩, hl1, hl2, k⟩ := h
    refine ⟨_, pss_cons (ps_if (PW.pt (pw_and (pt_cmpR op_eq (pe_ix ix_list (pv 0) pe_int (fun _ _ => rfl)) pe_int (nomark _)) (pw_and1 (pt_cmpR op_gt (pe_callB call_len_seq (by rfl) T.len PySem.boot_len (pa_cons (pv 0) pa_nil)) pe_int (nomark _)))))
        (pss_one (ps_asg (pe_bm PySem.F.plainAttrs_list PySem.F.slot_list_pop PySem.F.type_list_pop mt_popAt (pv 0) (pa_cons pe_int pa_nil)) (pg_sub (pv 0) pe_int set_list))) pss_nil)
      (pss_cons (ps_if (pt_cmpR op_gt (pe_ix ix_list (pv 0) pe_int (fun _ _ => rfl)) pe_int (nomark _))
        (pss_cons (ps_set (i := 2) scBelow.nd rfl (.inl rfl) (pe_op op_modN (pe_ix ix_list (pv 0) pe_int (fun _ _ => rfl)) (pv 1)))
        (pss_cons (ps_asg (pe_op op_fdivN (pe_ix ix_list (pv 0) pe_int (fun _ _ => rfl)) (pv 1)) (pg_sub (pv 0) pe_int set_list))
        (pss_one (ps_ret (pv 2))))) pss_nil)
      (pss_cons (ps_asg (pe_op op_mod (pe_op op_add (pe_op op_mul (pe_ix ix_list (pv 0) pe_int (fun _ _ => rfl)) pe_int) pe_int) pe_int) (pg_sub (pv 0) pe_int set_list))
      (pss_one (ps_ret (pe_op op_modN (pe_op op_fdiv (pe_ix ix_list (pv 0) pe_int (fun _ _ => rfl)) pe_int) (pv 1)))))), ?_⟩
    have hd' : H d = some (.lst (V.int s0 :: V.int s1 :: r.map V.int)) := hd
    refine ⟨_, rfl, d, _, 1, V.int s1, rfl, rfl, SqL.of hd', at1, rfl, _, rfl, ite2 (fun c => ?_) (fun c => ?_)⟩
    · refine ⟨_, rfl, d, _, rfl, .inl (SqL.of hd'), _, _, rfl, rfl, _, rfl, ite2 (fun c2 => ?_) (fun c2 => ?_)⟩
      · cases r with
        | nil => exact absurd (of_decide_eq_true c2) (by simp)
        | cons r0 r =>
          refine ⟨_, rfl, .inl ⟨rfl, _, SqL.of hd'⟩, d, _, 2, 2, V.int r0, rfl, rfl, hd', (by decide), (by decide), sq2, rfl, ?_⟩
          refine ⟨_, rfl, d, _, _, 1, rfl, rfl, upd_same, ix1, ?_⟩
          generalize e : (upd (upd H d (HO.lst ((V.int s0 :: V.int s1 :: List.map V.int (r0 :: r)).eraseIdx 2))) d (HO.lst (((V.int s0 :: V.int s1 :: List.map V.int (r0 :: r)).eraseIdx 2).set 1 (V.int r0)))) = H1
          have kp1 : Kp d H H1 := by rw [← e]; exact kp_upd.trans kp_upd
          obtain ⟨t0, t1, r', hd1, g0, g1, g2, g3, g4⟩ : ∃ t0 t1 r', H1 d = some (.lst (V.int t0 :: V.int t1 :: r'.map V.int)) ∧ 0 ≤ t0 ∧ t0 < 2147483647 ∧ 0 ≤ t1 ∧ (∀ z ∈ r', (0 : Int) ≤ z) ∧ r'.length ≤ 63 :=
            ⟨s0, r0, r, by rw [← e, upd_same]; rfl, h0, h1, h3 _ (List.mem_cons_self ..), fun z hz => h3 z (List.mem_cons_of_mem _ hz), by rw [List.length_cons] at h4; omega⟩
          refine ⟨_, rfl, d, _, 1, V.int t1, rfl, rfl, SqL.of hd1, at1, _, _, rfl, rfl, _, rfl, ite2 (fun c3 => ?_) (fun c3 => ?_)⟩
          · have c3' : 0 < t1 := of_decide_eq_true c3
            refine ⟨_, rfl, d, _, 1, V.int t1, rfl, rfl, SqL.of hd1, at1, _, rfl, _, _, rfl, rfl, (by omega), ?_⟩
            refine ⟨_, rfl, d, _, 1, V.int t1, rfl, rfl, SqL.of hd1, at1, _, rfl, _, _, rfl, rfl, ⟨by omega, by omega⟩, _, rfl, d, _, _, 1, rfl, rfl, hd1, ix1, ?_⟩
            exact ⟨_, rfl, k _ (t0 :: t1.fdiv lim :: r') _ (kp1.trans kp_upd) upd_same ⟨⟨t0, _, r', rfl, g0, g1, Int.fdiv_nonneg g2 (by omega), g3, g4⟩⟩ (Int.fmod_nonneg_of_pos _ (by omega)) (Int.fmod_lt_of_pos _ (by omega))⟩
          · refine ⟨_, rfl, d, _, 0, V.int t0, rfl, rfl, SqL.of hd1, at0, _, _, rfl, rfl, .inl ⟨by omega, by omega⟩, _, _, rfl, rfl, _, _, rfl, rfl, (by show (0 : Int) < 2147483647; decide), _, rfl, d, _, _, 0, rfl, rfl, hd1, ix0, ?_⟩
            refine ⟨_, rfl, d, _, 0, V.int ((t0 * 48271 + 11) % 2147483647), rfl, rfl, SqL.of upd_same, at0, _, _, rfl, rfl, ⟨by decide, by decide⟩, _, rfl, _, _, rfl, rfl, (by omega), ?_⟩
            exact k _ ((t0 * 48271 + 11) % 2147483647 :: t1 :: r') _ (kp1.trans kp_upd) upd_same ⟨⟨_, _, r', rfl, Int.emod_nonneg _ (by decide), Int.emod_lt_of_pos _ (by decide), g2, g3, g4⟩⟩ (Int.fmod_nonneg_of_pos _ (by omega)) (Int.fmod_lt_of_pos _ (by omega))
      · have kp1 : Kp d H H := Kp.refl
        obtain ⟨t0, t1, r', hd1, g0, g1, g2, g3, g4⟩ : ∃ t0 t1 r', H d = some (.lst (V.int t0 :: V.int t1 :: r'.map V.int)) ∧ 0 ≤ t0 ∧ t0 < 2147483647 ∧ 0 ≤ t1 ∧ (∀ z ∈ r', (0 : Int) ≤ z) ∧ r'.length ≤ 63 :=
          ⟨s0, s1, r, hd', h0, h1, h2, h3, h4⟩
        refine ⟨_, rfl, d, _, 1, V.int t1, rfl, rfl, SqL.of hd1, at1, _, _, rfl, rfl, _, rfl, ite2 (fun c3 => ?_) (fun c3 => ?_)⟩
        · have c3' : 0 < t1 := of_decide_eq_true c3
          refine ⟨_, rfl, d, _, 1, V.int t1, rfl, rfl, SqL.of hd1, at1, _, rfl, _, _, rfl, rfl, (by omega), ?_⟩
          refine ⟨_, rfl, d, _, 1, V.int t1, rfl, rfl, SqL.of hd1, at1, _, rfl, _, _, rfl, rfl, ⟨by omega, by omega⟩, _, rfl, d, _, _, 1, rfl, rfl, hd1, ix1, ?_⟩
          exact ⟨_, rfl, k _ (t0 :: t1.fdiv lim :: r') _ (kp1.trans kp_upd) upd_same ⟨⟨t0, _, r', rfl, g0, g1, Int.fdiv_nonneg g2 (by omega), g3, g4⟩⟩ (Int.fmod_nonneg_of_pos _ (by omega)) (Int.fmod_lt_of_pos _ (by omega))⟩
        · refine ⟨_, rfl, d, _, 0, V.int t0, rfl, rfl, SqL.of hd1, at0, _, _, rfl, rfl, .inl ⟨by omega, by omega⟩, _, _, rfl, rfl, _, _, rfl, rfl, (by show (0 : Int) < 2147483647; decide), _, rfl, d, _, _, 0, rfl, rfl, hd1, ix0, ?_⟩
          refine ⟨_, rfl, d, _, 0, V.int ((t0 * 48271 + 11) % 2147483647), rfl, rfl, SqL.of upd_same, at0, _, _, rfl, rfl, ⟨by decide, by decide⟩, _, rfl, _, _, rfl, rfl, (by omega), ?_⟩
          exact k _ ((t0 * 48271 + 11) % 2147483647 :: t1 :: r') _ (kp1.trans kp_upd) upd_same ⟨⟨_, _, r', rfl, Int.emod_nonneg _ (by decide), Int.emod_lt_of_pos _ (by decide), g2, g3, g4⟩⟩ (Int.fmod_nonneg_of_pos _ (by omega)) (Int.fmod_lt_of_pos _ (by omega))
    · have kp1 : Kp d H H := Kp.refl
      obtain ⟨t0, t1, r', hd1, g0, g1, g2, g3, g4⟩ : ∃ t0 t1 r', H d = some (.lst (V.int t0 :: V.int t1 :: r'.map V.int)) ∧ 0 ≤ t0 ∧ t0 < 2147483647 ∧ 0 ≤ t1 ∧ (∀ z ∈ r', (0 : Int) ≤ z) ∧ r'.length ≤ 63 :=
        ⟨s0, s1, r, hd', h0, h1, h2, h3, h4⟩
      refine ⟨_, rfl, d, _, 1, V.int t1, rfl, rfl, SqL.of hd1, at1, _, _, rfl, rfl, _, rfl, ite2 (fun c3 => ?_) (fun c3 => ?_)⟩
      · have c3' : 0 < t1 := of_decide_eq_true c3
        refine ⟨_, rfl, d, _, 1, V.int t1, rfl, rfl, SqL.of hd1, at1, _, rfl, _, _, rfl, rfl, (by omega), ?_⟩
        refine ⟨_, rfl, d, _, 1, V.int t1, rfl, rfl, SqL.of hd1, at1, _, rfl, _, _, rfl, rfl, ⟨by omega, by omega⟩, _, rfl, d, _, _, 1, rfl, rfl, hd1, ix1, ?_⟩
        exact ⟨_, rfl, k _ (t0 :: t1.fdiv lim :: r') _ (kp1.trans kp_upd) upd_same ⟨⟨t0, _, r', rfl, g0, g1, Int.fdiv_nonneg g2 (by omega), g3, g4⟩⟩ (Int.fmod_nonneg_of_pos _ (by omega)) (Int.fmod_lt_of_pos _ (by omega))⟩
      · refine ⟨_, rfl, d, _, 0, V.int t0, rfl, rfl, SqL.of hd1, at0, _, _, rfl, rfl, .inl ⟨by omega, by omega⟩, _, _, rfl, rfl, _, _, rfl, rfl, (by show (0 : Int) < 2147483647; decide), _, rfl, d, _, _, 0, rfl, rfl, hd1, ix0, ?_⟩
        refine ⟨_, rfl, d, _, 0, V.int ((t0 * 48271 + 11) % 2147483647), rfl, rfl, SqL.of upd_same, at0, _, _, rfl, rfl, ⟨by decide, by decide⟩, _, rfl, _, _, rfl, rfl, (by omega), ?_⟩
        exact k _ ((t0 * 48271 + 11) % 2147483647 :: t1 :: r') _ (kp1.trans kp_upd) upd_same ⟨⟨_, _, r', rfl, Int.emod_nonneg _ (by decide), Int.emod_lt_of_pos _ (by decide), g2, g3, g4⟩⟩ (Int.fmod_nonneg_of_pos _ (by omega)) (Int.fmod_lt_of_pos _ (by omega))
end
end Dk

set_option Elab.async false
set_option linter.all false
set_option maxRecDepth 100000
set_option maxHeartbeats 4000000
namespace Dk
open PySem PySem.Spec PyProof.Rows L2 TL
theorem at_mem {L : List Int} {r : Int} (h0 : 0 ≤ r) (h1 : r < L.length) : ∃ z, z ∈ L ∧ atI (L.map V.int) r = some (.int z) := by
  obtain ⟨n, rfl⟩ := Int.eq_ofNat_of_zero_le h0
  have hn : n < L.length := by omega
  exact ⟨L[n], List.getElem_mem hn, atI_nat (by rw [List.getElem?_map, List.getElem?_eq_getElem hn]; rfl)⟩
theorem joinL_nil : ∀ ls : List (List Nat), joinL [] ls = ls.flatten
  | [] => rfl
  | [p] => by simp [joinL]
  | p :: q :: r => by
    show p ++ ([] ++ joinL [] (q :: r)) = _
    rw [List.nil_append, joinL_nil (q :: r)]
    rfl
def one (c : Nat) : Str := ⟨#[c]⟩
theorem tl_one (c : Nat) : tl (one c) = [c] := rfl
theorem tl_joined (cs : List Nat) : tl (Txt.join Str.empty (cs.map one)) = cs := by
  rw [join_eq, tl_join, show tl Str.empty = [] from rfl, joinL_nil, List.map_map]
  induction cs with
  | nil => rfl
  | cons c cs ih => show [c] ++ (List.map (tl ∘ one) cs).flatten = _; rw [ih]; rfl
theorem ones_sum (cs : List Nat) : ((cs.map one).map (·.length)).sum = cs.length := by
  induction cs with
  | nil => rfl
  | cons c cs ih => rw [List.map_cons, List.map_cons, List.sum_cons, ih, List.length_cons]; show 1 + _ = _; omega
/-- a timetable -/
structure IsTab (t : Str) : Prop where
  len : (tl t).length ∈ [1, 2, 3, 4, 6, 8, 12, 24]
  ho : ∀ c ∈ tl t, c = 104 ∨ c = 111
theorem IsTab.pos {t : Str} (h : IsTab t) : 1 ≤ (tl t).length ∧ (tl t).length ≤ 24 := by
  have := h.len
  simp only [List.mem_cons, List.not_mem_nil, or_false] at this
  omega
def spTable : Sp := fun vs H Q _ => ∃ (d : Addr) (st : List Int), vs = [.ref d] ∧ H d = some (.lst (st.map V.int)) ∧ Good st ∧
  ∀ (H' : Hp) (st' : List Int) (t : Str), Kp d H H' → H' d = some (.lst (st'.map V.int)) → Good st' → IsTab t → Q (.str t) H'
structure TxtB (K : PySem.W.Frag) (mg : Str → Option Value) (fB : Addr) (fdB : FuncData) : Prop where
  g : mg "_law_below" = some (.ref fB)
  F : Fun K "_law_below" "_law_below" sBelow fB fdB
  b : Binds K fdB ["_law_d", "_law_limit"] []
section
variable {P : Program} {w : World} {K : PySem.W.Frag} {mg : Str → Option Value} {base : Heap}
end
end Dk

set_option Elab.async false
set_option linter.all false
set_option maxRecDepth 100000
set_option maxHeartbeats 4000000
namespace Dk
open PySem PySem.Spec PyProof.Rows L2 TL
/-! ### the period -/
def lens (ts : List Str) : List Nat := ts.map fun t => (tl t).length
def lcmL : List Nat → Nat → Nat
  | [], a => a
  | n :: r, a => lcmL r (a.lcm n)
def per (ts : List Str) : Nat := lcmL (lens ts) 1
theorem lcmL_dvd : ∀ (l : List Nat) (a m : Nat), a ∣ m → (∀ n ∈ l, n ∣ m) → lcmL l a ∣ m
  | [], a, m, h, _ => h
  | n :: r, a, m, h, k => lcmL_dvd r _ m (Nat.lcm_dvd h (k n (List.mem_cons_self ..))) fun x hx => k x (List.mem_cons_of_mem _ hx)
theorem dvd_lcmL : ∀ (l : List Nat) (a : Nat), a ∣ lcmL l a ∧ ∀ n ∈ l, n ∣ lcmL l a
  | [], a => ⟨Nat.dvd_refl _, fun n h => by cases h⟩
  | n :: r, a => by
    have ih := dvd_lcmL r (a.lcm n)
    refine ⟨Nat.dvd_trans (Nat.dvd_lcm_left a n) ih.1, fun x hx => ?_⟩
    rcases List.mem_cons.mp hx with e | hx
    · rw [e]; exact Nat.dvd_trans (Nat.dvd_lcm_right a n) ih.1
    · exact ih.2 x hx
def Tabs (ts : List Str) : Prop := ∀ t ∈ ts, IsTab t
theorem IsTab.dvd {t : Str} (h : IsTab t) : (tl t).length ∣ 24 := by
  have := h.len
  simp only [List.mem_cons, List.not_mem_nil, or_false] at this
  rcases this with e | e | e | e | e | e | e | e <;> rw [e] <;> decide
theorem per_24 {ts : List Str} (h : Tabs ts) : per ts ∣ 24 := lcmL_dvd _ _ _ (Nat.one_dvd _) fun n hn => by
  obtain ⟨t, ht, rfl⟩ := List.mem_map.mp hn
  exact (h t ht).dvd
theorem per_le {ts : List Str} (h : Tabs ts) : per ts ≤ 24 := Nat.le_of_dvd (by decide) (per_24 h)
theorem per_pos {ts : List Str} (h : Tabs ts) : 1 ≤ per ts := Nat.pos_of_ne_zero fun e => by
  have := per_24 h
  rw [e] at this
  exact absurd (Nat.eq_zero_of_zero_dvd this) (by decide)
theorem dvd_per {ts : List Str} {t : Str} (h : t ∈ ts) : (tl t).length ∣ per ts := (dvd_lcmL _ _).2 _ (List.mem_map.mpr ⟨t, h, rfl⟩)
theorem per_min {ts : List Str} {m : Nat} (h : ∀ t ∈ ts, (tl t).length ∣ m) : per ts ∣ m := lcmL_dvd _ _ _ (Nat.one_dvd _) fun n hn => by
  obtain ⟨t, ht, rfl⟩ := List.mem_map.mp hn
  exact h t ht
theorem IsTab.strOk {t : Str} (h : IsTab t) : PyData.strOk t = true := by
  unfold PyData.strOk
  rw [← Array.all_toList, List.all_eq_true]
  intro c hc
  have := h.ho c hc
  simp only [decide_eq_true_eq]
  omega
theorem dpAll_strs {K : PySem.W.Frag} {H : Hp} : ∀ ys : List Str, DpAll K H (ys.map V.str) (ys.map PyData.str)
  | [] => .nil
  | y :: ys => .cons (.str y) (dpAll_strs ys)
theorem shaped_strs : ∀ {ys : List Str}, Tabs ys → SeqAt.shaped (.list (ys.map PyData.str)) = true := by
  intro ys h
  have h1 : PyData.canLayAll0 (ys.map PyData.str) = true := by
    induction ys with
    | nil => rfl
    | cons y ys ih =>
      show (PyData.canLay0 (.str y) && PyData.canLayAll0 (ys.map PyData.str)) = true
      rw [ih fun t ht => h t (List.mem_cons_of_mem _ ht)]
      have := (h y (List.mem_cons_self ..)).strOk
      simp [PyData.canLay0, this]
  have h2 : PyData.depthAll (ys.map PyData.str) = 0 := by
    clear h h1
    induction ys with
    | nil => rfl
    | cons y ys ih => show max (PyData.depth (.str y)) (PyData.depthAll _) = 0; rw [ih]; rfl
  unfold SeqAt.shaped
  simp only [PyData.canLay0, PyData.depth, h1, h2]
  decide
theorem eqv_strs (ys : List Str) : PyData.eqv (.list (ys.map PyData.str)) (.list []) = ys.isEmpty := by
  cases ys <;> rfl
theorem fmod_pos {n m : Nat} (hm : 1 ≤ m) : (0 < (n : Int).fmod (m : Int)) ↔ ¬ m ∣ n := by
  have e : (n : Int).fmod (m : Int) = ((n % m : Nat) : Int) := by
    rw [Int.fmod_eq_emod_of_nonneg _ (by omega)]; rfl
  rw [e]
  constructor
  · intro h d
    rw [Nat.mod_eq_zero_of_dvd d] at h
    exact absurd h (by decide)
  · intro h
    have : n % m ≠ 0 := fun q => h (Nat.dvd_of_mod_eq_zero q)
    omega
/-! ### lcm -/
def rLcm : List V → Hp → VK → Prop := fun vs H Q => ∃ a b : Nat, vs = [.int (a : Int), .int (b : Int)] ∧ a ≤ 1000 ∧ b ≤ 1000 ∧ Q (.int ((Nat.lcm a b : Nat) : Int)) H
theorem cr_lcm {X : Cx} : CallR X (.builtin "math.lcm") rLcm := by
  intro pins s σ H vs us Q I r h
  obtain ⟨a, b, rfl, ha, hb, q⟩ := h
  obtain ⟨t, u, rfl⟩ := Vals.int2 r
  have e : (Nat.lcm 1 (a : Int).natAbs).lcm (b : Int).natAbs = Nat.lcm a b := by
    rw [Nat.lcm_one_left]; rfl
  have hle : Nat.lcm a b ≤ 1000000 := by
    have h1 : Nat.lcm a b ≤ a * b := Nat.div_le_self _ _
    have h2 : a * b ≤ 1000 * 1000 := Nat.mul_le_mul ha hb
    omega
  refine PySem.W.mg_lcm_v (c := ((Nat.lcm a b : Nat) : Int)) (by simp; omega) (by simp; omega) (by rw [e]) ?_ ⟨.int _, H, I.tok _, ⟨_, rfl⟩, q⟩
  rw [bitsLine_eq]
  have h3 : ((Nat.lcm a b : Nat) : Int).natAbs.log2 ≤ ((Nat.lcm a b : Nat) : Int).natAbs := Nat.log2_le_self _
  have h4 : ((Nat.lcm a b : Nat) : Int).natAbs = Nat.lcm a b := rfl
  omega
theorem lcmL_take {l : List Nat} {i x a : Nat} (h : l[i]? = some x) : lcmL (l.take (i + 1)) a = (lcmL (l.take i) a).lcm x := by
  rw [take_more h]
  generalize l.take i = p
  induction p generalizing a with
  | nil => rfl
  | cons y p ih => exact ih (a := a.lcm y)
theorem Tabs.take {ts : List Str} (h : Tabs ts) (n : Nat) : Tabs (ts.take n) := fun t ht => h t (List.mem_of_mem_take ht)
theorem lens_take (ts : List Str) (n : Nat) : lens (ts.take n) = (lens ts).take n := by unfold lens; rw [List.map_take]
theorem small_str {t : Str} (h : t.length ≤ 1000) : t.length ≤ sizeLine := Nat.le_trans h (by decide)
theorem IsTab.size {t : Str} (h : IsTab t) : t.length ≤ sizeLine := small_str (by rw [len_tl t]; have := h.pos.2; omega)
theorem filt1 {α : Type} {p : α → Bool} {x : α} (h : p x = true) : [x].filter p = [x] := by simp [h]
theorem filt0 {α : Type} {p : α → Bool} {x : α} (h : p x = false) : [x].filter p = [] := by simp [h]
def spPeriod (K : PySem.W.Frag) : Sp := fun vs H Q _ => ∃ (a : Addr) (ts : List Str), vs = [.ref a] ∧ SqT K H a (ts.map V.str) ∧ Tabs ts ∧ Q (.int ((per ts : Nat) : Int)) H
def spLength (K : PySem.W.Frag) : Sp := fun vs H Q _ => ∃ (a : Addr) (ts : List Str), vs = [.ref a] ∧ SqT K H a (ts.map V.str) ∧ Tabs ts ∧ ts.length ≤ 6 ∧ ∀ H', Same H H' → Q (.int ((per ts : Nat) : Int)) H'
structure TxtC (mg : Str → Option Value) : Prop where
  lcm : mg "lcm" = some (.builtin "math.lcm")
section
variable {P : Program} {w : World} {K : PySem.W.Frag} {mg : Str → Option Value} {base : Heap}
theorem scPeriod : FnScope ["tables", "ticks", "table"] ["tables"] (defScope sPeriod) := ⟨rfl, rfl, rfl, by decide +kernel, rfl, by decide +kernel, by decide +kernel⟩
theorem ok_period {f : Addr} {fd : FuncData} (F : Fun K "common_period" "common_period" sPeriod f fd) (T : TxtA mg) (TC : TxtC mg) : FnOk P w K mg base CX0 1 f fd ["tables"] (spPeriod K) := by
  refine F.ok scPeriod (fun vs H Q E h => ?_) (fun cdv A outer s H vs Q E hr h => ?_)
  · obtain ⟨a, ts, rfl, _⟩ := h
    rfl
  · obtain ⟨a, ts, rfl, hS, hT, k⟩ := h
    refine ⟨_, pss_cons (ps_set (i := 1) scPeriod.nd rfl (.inl rfl) pe_int)
      (pss_cons (ps_for PassesOwn.never rfl (pi_tup (pv 0)) (pg_name (i := 2) scPeriod.nd rfl (.inl rfl))
        (pss_one (ps_set (i := 1) scPeriod.nd rfl (.inl rfl) (pe_callBfun cr_lcm (by rfl) TC.lcm (pa_cons (pv 1) (pa_cons (pe_callB call_len_str (by rfl) T.len PySem.boot_len (pa_cons (pv 2) pa_nil)) pa_nil))))))
      (pss_one (ps_ret (pv 1)))), ?_⟩
    refine ⟨_, rfl, a, rfl, ⟨_, hS⟩, for_tup (K := K) (a := a) (xs := ts.map V.str) (fun i σ H' => ∃ v : Option V, σ = [some (.ref a), some (.int ((per (ts.take i) : Nat) : Int)), v] ∧ H' = H)
      ⟨none, rfl, rfl⟩ (fun i σ H' _ ⟨_, _, e⟩ => by rw [e]; exact hS) ?_ ?_⟩
    · rintro i y σ H' hi ⟨v, rfl, rfl⟩
      obtain ⟨t, ht, rfl⟩ := map_at hi
      have hm : t ∈ ts := List.mem_of_getElem? ht
      have hit := hT t hm
      have ex : (lens ts)[i]? = some (tl t).length := by unfold lens; rw [List.getElem?_map, ht]; rfl
      refine ⟨_, rfl, _, rfl, _, rfl, hit.size, per (ts.take i), (tl t).length, ?_, ?_, ?_, ?_⟩
      · rw [len_tl t]
      · have := per_le (hT.take i); omega
      · have := hit.pos.2; omega
      · refine ⟨some (.str t), ?_, rfl⟩
        show _ = [some (V.ref a), some (V.int ((per (ts.take (i + 1)) : Nat) : Int)), some (V.str t)]
        unfold per
        rw [lens_take, lens_take, lcmL_take ex]
        rfl
    · rintro σ H' ⟨v, rfl, rfl⟩
      rw [List.length_map, List.take_length]
      exact ⟨_, rfl, k⟩
end
end Dk

set_option Elab.async false
set_option linter.all false
set_option maxRecDepth 100000
set_option maxHeartbeats 4000000
namespace Dk
open PySem PySem.Spec PyProof.Rows L2 TL
/-! ### pairs -/
abbrev Pr := Int × Int
def PrAt (H : Hp) (x : V) (r : Pr) : Prop := ∃ t, x = .ref t ∧ H t = some (.tup [.int r.1, .int r.2])
def Prs (H : Hp) (xs : List V) (rs : List Pr) : Prop := Paired (PrAt H) xs rs
theorem Prs.app {H : Hp} : ∀ {xs : List V} {rs : List Pr} {x : V} {r : Pr}, Prs H xs rs → PrAt H x r → Prs H (xs ++ [x]) (rs ++ [r])
  | [], [], _, _, .nil, h => .cons h .nil
  | _ :: _, _ :: _, _, _, .cons a b, h => .cons a (Prs.app b h)
theorem Prs.mono {H H' : Hp} : ∀ {xs : List V} {rs : List Pr}, (∀ t ys, H t = some (.tup ys) → H' t = some (.tup ys)) → Prs H xs rs → Prs H' xs rs
  | [], [], _, .nil => .nil
  | _ :: _, _ :: _, k, .cons ⟨t, e, h⟩ b => .cons ⟨t, e, k _ _ h⟩ (Prs.mono k b)
theorem kp_tup {d : Addr} {H H' : Hp} {xs : List V} (k : Kp d H H') (hd : H d = some (.lst xs)) : ∀ t ys, H t = some (.tup ys) → H' t = some (.tup ys) := fun t ys h => k t _ (fun e => by rw [e, hd] at h; cases h) h
theorem Prs.len {H : Hp} {xs : List V} {rs : List Pr} (h : Prs H xs rs) : xs.length = rs.length := Paired.length h
def kf (H : Hp) : V → Pr
  | .ref t => match H t with
    | some (.tup [.int i, .int j]) => (i, j)
    | _ => (0, 0)
  | _ => (0, 0)
theorem kf_at {H : Hp} {x : V} {r : Pr} (h : PrAt H x r) : kf H x = r := by
  obtain ⟨t, rfl, e⟩ := h
  show (match H t with | some (.tup [.int i, .int j]) => (i, j) | _ => (0, 0)) = r
  rw [e]
theorem Prs.kf {H : Hp} : ∀ {xs : List V} {rs : List Pr}, Prs H xs rs → xs.map (kf H) = rs
  | [], [], .nil => rfl
  | _ :: _, _ :: _, .cons a b => by rw [List.map_cons, kf_at a, Prs.kf b]
theorem Prs.mem {H : Hp} : ∀ {xs : List V} {rs : List Pr}, Prs H xs rs → ∀ x ∈ xs, PrAt H x (Dk.kf H x)
  | [], [], .nil, _, h => by cases h
  | _ :: _, _ :: _, .cons a b, x, h => by
    rcases List.mem_cons.mp h with rfl | h
    · rw [kf_at a]; exact a
    · exact Prs.mem b x h
theorem Prs.of_mem {H : Hp} : ∀ {xs : List V}, (∀ x ∈ xs, PrAt H x (Dk.kf H x)) → Prs H xs (xs.map (Dk.kf H))
  | [], _ => .nil
  | x :: xs, h => .cons (h x (List.mem_cons_self ..)) (Prs.of_mem fun y hy => h y (List.mem_cons_of_mem _ hy))
/-- r before s -/
def plt (r s : Pr) : Prop := r.1 < s.1 ∨ (r.1 = s.1 ∧ r.2 < s.2)
def prR (r : Pr) : PyData := .tuple [.int r.1, .int r.2]
theorem prR_eqv (r s : Pr) : PyData.eqv (prR r) (prR s) = decide (r = s) := by
  obtain ⟨a, b⟩ := r
  obtain ⟨c, d⟩ := s
  show (a == c && (b == d && true)) = decide ((a, b) = (c, d))
  by_cases h1 : a = c
  · by_cases h2 : b = d
    · subst h1 h2; simp
    · simp [h2]
  · simp [h1]
theorem any_eqv (rs : List Pr) (r : Pr) : ((rs.map prR).any fun z => PyData.eqv z (prR r)) = decide (r ∈ rs) := by
  induction rs with
  | nil => rfl
  | cons s rs ih =>
    rw [List.map_cons, List.any_cons, ih, prR_eqv]
    by_cases h : s = r
    · subst h; simp
    · have h' : r ≠ s := fun e => h e.symm
      simp [h, h']
theorem prR_shaped (r : Pr) : SeqAt.shaped (prR r) = true := by
  unfold SeqAt.shaped prR
  simp [PyData.canLay0, PyData.canLayAll0, PyData.depth, PyData.depthAll]
theorem prRs_shaped (rs : List Pr) : SeqAt.shaped (.list (rs.map prR)) = true := by
  have h1 : PyData.canLayAll0 (rs.map prR) = true := by
    induction rs with
    | nil => rfl
    | cons r rs ih => show (PyData.canLay0 (prR r) && PyData.canLayAll0 (rs.map prR)) = true; rw [ih]; rfl
  have h2 : PyData.depthAll (rs.map prR) ≤ 1 := by
    clear h1
    induction rs with
    | nil => exact Nat.zero_le _
    | cons r rs ih => show max (PyData.depth (prR r)) (PyData.depthAll (rs.map prR)) ≤ 1; exact Nat.max_le.mpr ⟨by show max 0 (max 0 0) + 1 ≤ 1; decide, ih⟩
  have h3 : PyData.depth (.list (rs.map prR)) ≤ 64 := by
    show PyData.depthAll (rs.map prR) + 1 ≤ 64
    omega
  unfold SeqAt.shaped
  rw [show PyData.canLay0 (.list (rs.map prR)) = true from h1, decide_eq_true h3]
  rfl
theorem dp_pr {K : PySem.W.Frag} {H : Hp} {x : V} {r : Pr} (h : PrAt H x r) : Dp K H x (prR r) := by
  obtain ⟨t, rfl, e⟩ := h
  exact .tup (SqT.of e) (.cons (.int _) (.cons (.int _) .nil))
theorem dpAll_prs {K : PySem.W.Frag} {H : Hp} : ∀ {xs : List V} {rs : List Pr}, Prs H xs rs → DpAll K H xs (rs.map prR)
  | [], [], .nil => .nil
  | _ :: _, _ :: _, .cons a b => .cons (dp_pr a) (dpAll_prs b)
theorem lex_plt {r s : Pr} (h : SrtO.lexB s r = false) (n : r ≠ s) : plt r s := by
  have a := SrtO.lexB_no.mp h
  obtain ⟨r1, r2⟩ := r
  obtain ⟨s1, s2⟩ := s
  simp only [plt] at *
  by_cases h1 : r1 = s1
  · subst h1
    by_cases h2 : r2 = s2
    · subst h2; exact absurd rfl n
    · right; omega
  · left; omega
theorem sorted_plt : ∀ {l : List Pr}, l.Pairwise (fun x y => SrtO.lexB y x = false) → l.Nodup → l.Pairwise plt
  | [], _, _ => .nil
  | x :: l, h, n => by
    have h' := List.pairwise_cons.mp h
    have n' := List.nodup_cons.mp n
    exact .cons (fun y hy => lex_plt (h'.1 y hy) fun e => n'.1 (e ▸ hy)) (sorted_plt h'.2 n'.2)
/-- the parts of a house -/
structure Parts (ts : List Str) (keys : Int) (cs : List Int) (rs : List Pr) : Prop where
  tabs : Tabs ts
  n1 : 1 ≤ ts.length
  n6 : ts.length ≤ 6
  k0 : 0 ≤ keys
  k9 : keys ≤ 9
  cp : cs.Pairwise (· < ·)
  cm : ∀ c ∈ cs, (0 : Int) ≤ c ∧ c < (ts.length : Int)
  rp : rs.Pairwise plt
  rm : ∀ r ∈ rs, (0 : Int) ≤ r.1 ∧ r.1 < ((per ts : Nat) : Int) ∧ (0 : Int) ≤ r.2 ∧ r.2 < (ts.length : Int)
  r10 : rs.length ≤ 10
structure PartsAt (H : Hp) (a : Addr) (ts : List Str) (keys : Int) (cs : List Int) (rs : List Pr) : Prop where
  ex : ∃ aT aC aR xs, H a = some (.tup [.ref aT, .int keys, .ref aC, .ref aR]) ∧ H aT = some (.tup (ts.map V.str)) ∧ H aC = some (.tup (cs.map V.int)) ∧ H aR = some (.tup xs) ∧ Prs H xs rs
theorem PartsAt.mono {H H' : Hp} {a : Addr} {ts : List Str} {keys : Int} {cs : List Int} {rs : List Pr} (h : PartsAt H a ts keys cs rs) (k : ∀ t ys, H t = some (.tup ys) → H' t = some (.tup ys)) : PartsAt H' a ts keys cs rs := by
  obtain ⟨aT, aC, aR, xs, e1, e2, e3, e4, e5⟩ := h
  exact ⟨aT, aC, aR, xs, k _ _ e1, k _ _ e2, k _ _ e3, k _ _ e4, e5.mono k⟩
end Dk

set_option Elab.async false
set_option linter.all false
set_option maxRecDepth 100000
set_option maxHeartbeats 4000000
namespace Dk
open PySem PySem.Spec PyProof.Rows L2 TL
/-! ### what the checks say of any data -/
def tyN : PyData → String
  | .none => "NoneType"
  | .bool _ => "bool"
  | .int _ => "int"
  | .str _ => "str"
  | .list _ => "list"
  | .tuple _ => "tuple"
  | .dict _ => "dict"
theorem tyx {K : PySem.W.Frag} {H : Hp} {v : V} {d : PyData} (h : Dp K H v d) : TyX K H v (.type (tyN d)) := by
  cases h with
  | non => exact .base .non
  | bl b => exact .base (.bl b)
  | int i => exact .base (.int i)
  | str x => exact .base (.str x)
  | lst hs ha =>
    rcases hs with (e | ⟨o, e⟩) | ⟨o, its, n, hk, hc, _⟩
    · exact .base (.lst e)
    · exact .base (.frz e)
    · exact .kList hk hc
  | tup hs ha =>
    rcases hs with (e | ⟨o, e⟩) | ⟨o, its, n, hk, hc, _⟩
    · exact .base (.tup e)
    · exact .fTuple e
    · exact .kTuple hk hc
def isIntD : PyData → Bool
  | .int _ => true
  | _ => false
def isIntB : PyData → Bool
  | .int _ => true
  | .bool _ => true
  | _ => false
def isBoolD : PyData → Bool
  | .bool _ => true
  | _ => false
def isStrD : PyData → Bool
  | .str _ => true
  | _ => false
def isTupD : PyData → Bool
  | .tuple _ => true
  | _ => false
def isLstD : PyData → Bool
  | .list _ => true
  | _ => false
theorem kit_int : ∀ d : PyData, kitB (tyN d) "int" = some (isIntB d)
  | .none => (by decide +kernel : kitB "NoneType" "int" = some false)
  | .bool _ => (by decide +kernel : kitB "bool" "int" = some true)
  | .int _ => (by decide +kernel : kitB "int" "int" = some true)
  | .str _ => (by decide +kernel : kitB "str" "int" = some false)
  | .list _ => (by decide +kernel : kitB "list" "int" = some false)
  | .tuple _ => (by decide +kernel : kitB "tuple" "int" = some false)
  | .dict _ => (by decide +kernel : kitB "dict" "int" = some false)
theorem kit_bool : ∀ d : PyData, kitB (tyN d) "bool" = some (isBoolD d)
  | .none => (by decide +kernel : kitB "NoneType" "bool" = some false)
  | .bool _ => (by decide +kernel : kitB "bool" "bool" = some true)
  | .int _ => (by decide +kernel : kitB "int" "bool" = some false)
  | .str _ => (by decide +kernel : kitB "str" "bool" = some false)
  | .list _ => (by decide +kernel : kitB "list" "bool" = some false)
  | .tuple _ => (by decide +kernel : kitB "tuple" "bool" = some false)
  | .dict _ => (by decide +kernel : kitB "dict" "bool" = some false)
theorem kit_str : ∀ d : PyData, kitB (tyN d) "str" = some (isStrD d)
  | .none => (by decide +kernel : kitB "NoneType" "str" = some false)
  | .bool _ => (by decide +kernel : kitB "bool" "str" = some false)
  | .int _ => (by decide +kernel : kitB "int" "str" = some false)
  | .str _ => (by decide +kernel : kitB "str" "str" = some true)
  | .list _ => (by decide +kernel : kitB "list" "str" = some false)
  | .tuple _ => (by decide +kernel : kitB "tuple" "str" = some false)
  | .dict _ => (by decide +kernel : kitB "dict" "str" = some false)
theorem kit_tup : ∀ d : PyData, kitB (tyN d) "tuple" = some (isTupD d)
  | .none => (by decide +kernel : kitB "NoneType" "tuple" = some false)
  | .bool _ => (by decide +kernel : kitB "bool" "tuple" = some false)
  | .int _ => (by decide +kernel : kitB "int" "tuple" = some false)
  | .str _ => (by decide +kernel : kitB "str" "tuple" = some false)
  | .list _ => (by decide +kernel : kitB "list" "tuple" = some false)
  | .tuple _ => (by decide +kernel : kitB "tuple" "tuple" = some true)
  | .dict _ => (by decide +kernel : kitB "dict" "tuple" = some false)
theorem kit_lst : ∀ d : PyData, kitB (tyN d) "list" = some (isLstD d)
  | .none => (by decide +kernel : kitB "NoneType" "list" = some false)
  | .bool _ => (by decide +kernel : kitB "bool" "list" = some false)
  | .int _ => (by decide +kernel : kitB "int" "list" = some false)
  | .str _ => (by decide +kernel : kitB "str" "list" = some false)
  | .list _ => (by decide +kernel : kitB "list" "list" = some true)
  | .tuple _ => (by decide +kernel : kitB "tuple" "list" = some false)
  | .dict _ => (by decide +kernel : kitB "dict" "list" = some false)
def below (d : PyData) (lim : Int) : Bool := match d with
  | .int i => decide (0 ≤ i) && decide (i < lim)
  | _ => false
def only (w cs : Str) : Bool := (tl w).all fun c => decide (c ∈ tl cs)
def tabLens : List Int := [1, 2, 3, 4, 6, 8, 12, 24]
def hoS : Str := Str.ofString "ho"
def isTabD : PyData → Bool
  | .str t => decide ((t.length : Int) ∈ tabLens) && only t hoS
  | _ => false
def isRemD (d : PyData) (per n : Int) : Bool := match d with
  | .tuple [a, b] => below a per && below b n
  | _ => false
structure TxtF (K : PySem.W.Frag) (mg : Str → Option Value) (fII fIB fHO : Addr) (fdII fdIB fdHO : FuncData) : Prop where
  isinstance : mg "isinstance" = none
  int : mg "int" = none
  bool : mg "bool" = none
  str : mg "str" = none
  tuple : mg "tuple" = none
  all : mg "all" = none
  gII : mg "is_integer" = some (.ref fII)
  FII : Fun K "is_integer" "is_integer" sIsInt fII fdII
  bII : Binds K fdII ["value"] []
  gIB : mg "is_below" = some (.ref fIB)
  FIB : Fun K "is_below" "is_below" sIsBelow fIB fdIB
  bIB : Binds K fdIB ["value", "limit"] []
  gHO : mg "has_only" = some (.ref fHO)
  FHO : Fun K "has_only" "has_only" sHasOnly fHO fdHO
  bHO : Binds K fdHO ["word", "characters"] []
  letters : ∃ t, mg "LETTERS" = some (.str hoS t)
  lengths : ∃ a, mg "TABLE_LENGTHS" = some (.ref a) ∧ SqT K (fun _ => none) a (tabLens.map V.int)
def spIsInt (K : PySem.W.Frag) : Sp := fun vs H Q _ => ∃ (v : V) (d : PyData), vs = [v] ∧ Dp K H v d ∧ Q (.bl (isIntD d)) H
def spIsBelow (K : PySem.W.Frag) : Sp := fun vs H Q _ => ∃ (v : V) (d : PyData) (lim : Int), vs = [v, .int lim] ∧ Dp K H v d ∧ Q (.bl (below d lim)) H
def spHasOnly : Sp := fun vs H Q _ => ∃ (x cs : Str), vs = [.str x, .str cs] ∧ x.length ≤ 100000 ∧ ∀ H', Same H H' → Q (.bl (only x cs)) H'
def spIsTable (K : PySem.W.Frag) : Sp := fun vs H Q _ => ∃ (v : V) (d : PyData), vs = [v] ∧ Dp K H v d ∧ (∀ t, d = .str t → t.length ≤ 100000) ∧ ∀ H', Same H H' → Q (.bl (isTabD d)) H'
def spIsRem (K : PySem.W.Frag) : Sp := fun vs H Q _ => ∃ (v : V) (d : PyData) (per n : Int), vs = [v, .int per, .int n] ∧ Dp K H v d ∧ Q (.bl (isRemD d per n)) H
section
variable {P : Program} {w : World} {K : PySem.W.Frag} {mg : Str → Option Value} {base : Heap} {fII fIB fHO : Addr} {fdII fdIB fdHO : FuncData}
theorem scIsInt : FnScope ["value"] ["value"] (defScope sIsInt) := ⟨rfl, rfl, rfl, by decide +kernel, rfl, by decide +kernel, by decide +kernel⟩
theorem ok_isint (TF : TxtF K mg fII fIB fHO fdII fdIB fdHO) : FnOk P w K mg base CX0 1 fII fdII ["value"] (spIsInt K) := by
  refine TF.FII.ok scIsInt (fun vs H Q E h => ?_) (fun cdv A outer s H vs Q E hr h => ?_)
  · obtain ⟨v, d, rfl, _⟩ := h
    rfl
  · obtain ⟨v, d, rfl, hd, k⟩ := h
    refine ⟨_, pss_one (ps_ret (pe_and (pe_callB call_isi (by rfl) TF.isinstance (by decide +kernel) (pa_cons (pv 0) (pa_cons (pe_bltn (v := .ty "int") (by rfl) TF.int (by decide +kernel) rfl) pa_nil)))
      (pe_one (pe_not (pe_callB call_isi (by rfl) TF.isinstance (by decide +kernel) (pa_cons (pv 0) (pa_cons (pe_bltn (v := .ty "bool") (by rfl) TF.bool (by decide +kernel) rfl) pa_nil))))))), ?_⟩
    refine ⟨_, rfl, _, _, _, _, _, rfl, .ty "int", tyx hd, kit_ty (kit_int d), _, rfl, ?_⟩
    cases e : isIntB d with
    | false =>
      refine iteF ?_
      have : isIntD d = false := by cases d <;> first | rfl | cases e
      rw [← this]; exact k
    | true =>
      refine iteT ⟨_, rfl, _, _, _, _, _, rfl, .ty "bool", tyx hd, kit_ty (kit_bool d), _, rfl, ?_⟩
      have : (!isBoolD d) = isIntD d := by cases d <;> first | rfl | cases e
      rw [this]; exact k
theorem scIsBelow : FnScope ["value", "limit"] ["value", "limit"] (defScope sIsBelow) := ⟨rfl, rfl, rfl, by decide +kernel, rfl, by decide +kernel, by decide +kernel⟩
theorem ok_isbelow (TF : TxtF K mg fII fIB fHO fdII fdIB fdHO) : FnOk P w K mg base CX0 2 fIB fdIB ["value", "limit"] (spIsBelow K) := by
  have GI : FnOk P w K mg base CX0 1 fII fdII ["value"] (spIsInt K) := ok_isint TF
  refine TF.FIB.ok scIsBelow (fun vs H Q E h => ?_) (fun cdv A outer s H vs Q E hr h => ?_)
  · obtain ⟨v, d, lim, rfl, _⟩ := h
    rfl
  · obtain ⟨v, d, lim, rfl, hd, k⟩ := h
    refine ⟨_, pss_one (ps_ret (pe_and (pe_call GI hr rfl TF.gII TF.FII.kp TF.bII .nil pass0 (pa_cons (pv 0) pa_nil)) (pe_one (pe_chain op_le op_lt pe_int (pv 0) (pv 1))))), ?_⟩
    refine ⟨_, rfl, v, d, rfl, hd, _, rfl, ?_⟩
    cases hd with
    | int i =>
      refine iteT ⟨_, rfl, _, _, rfl, rfl, _, rfl, ?_⟩
      by_cases c : (0 : Int) ≤ i
      · rw [decide_eq_true c]
        refine iteT ⟨_, rfl, _, _, rfl, rfl, ?_⟩
        have e : below (.int i) lim = decide (i < lim) := by show (decide ((0 : Int) ≤ i) && decide (i < lim)) = _; rw [decide_eq_true c]; rfl
        rw [e] at k; exact k
      · rw [decide_eq_false c]
        refine iteF ?_
        have e : below (.int i) lim = false := by show (decide ((0 : Int) ≤ i) && decide (i < lim)) = _; rw [decide_eq_false c]; rfl
        rw [e] at k; exact k
    | non => exact iteF k
    | bl b => exact iteF k
    | str x => exact iteF k
    | lst hs ha => exact iteF k
    | tup hs ha => exact iteF k
theorem scHasOnly : FnScope ["word", "characters", "character"] ["word", "characters"] (defScope sHasOnly) := ⟨rfl, rfl, rfl, by decide +kernel, rfl, by decide +kernel, by decide +kernel⟩
theorem ok_hasonly (TF : TxtF K mg fII fIB fHO fdII fdIB fdHO) : FnOk P w K mg base CX0 1 fHO fdHO ["word", "characters"] spHasOnly := by
  refine TF.FHO.ok scHasOnly (fun vs H Q E h => ?_) (fun cdv A outer s H vs Q E hr h => ?_)
  · obtain ⟨x, cs, rfl, _⟩ := h
    rfl
  · obtain ⟨x, cs, rfl, hlen, k⟩ := h
    refine ⟨_, pss_one (ps_ret (pe_callB (cr_all rfl) (by rfl) TF.all (by decide +kernel) (pa_cons
        (pe_lc (own := [("character", 2)]) (g := gName 2) (by rfl) scHasOnly.nd (pi_str (pv 0)) (blkOk_by (N := ["word", "characters", "character"]) (sc := defScope sHasOnly) (by decide +kernel))
          (fun _ _ _ _ _ => pg_name (i := 2) scHasOnly.nd rfl (Or.inl rfl)) (fun _ _ _ _ _ => pts_nil)
          (fun _ _ _ _ _ => pe_cmpR op_in_sign (pv 2) (pv 1) (by rfl))) pa_nil))), ?_⟩
    refine ⟨_, rfl, x, rfl, fun D hD => lc_it walk_str
      (fun i H3 => Same H H3 ∧ H3 D = some (.lst ((((tl x).take i).map fun c => decide (c ∈ tl cs)).map V.bl)))
      ⟨same_upd hD, upd_same⟩ (fun _ _ _ _ => True.intro) ?_ ?_⟩
    · rintro i y H3 H4 hi ⟨s3, eD⟩ ⟨rfl, c, hc, rfl⟩
      have hc' : (tl x)[i]? = some c := by rw [← hc]; exact Array.getElem?_toList
      refine ⟨rfl, _, rfl, _, rfl, c, cs, rfl, rfl, _, eD, ?_, fun b o eb => ?_, ?_⟩
      · have hx : i < x.length := hi
        rw [List.length_map, List.length_map, List.length_take]
        exact Nat.lt_of_le_of_lt (Nat.le_trans (Nat.min_le_left _ _) (by omega : i ≤ 100000)) (by decide)
      · rw [upd_ne (ne_of_none eb hD)]; exact s3 _ _ eb
      · rw [upd_same, take_more hc', List.map_append, List.map_append]; rfl
    · rintro H3 ⟨s3, eD⟩
      have e : (tl x).take x.cps.size = tl x := List.take_of_length_le (by simp)
      rw [e] at eD
      refine ⟨D, _, rfl, SqL.of eD, ?_⟩
      have e2 : List.all ((tl x).map fun c => decide (c ∈ tl cs)) id = only x cs := by
        unfold only
        rw [List.all_map]; rfl
      rw [e2]
      exact k _ s3
end
end Dk

set_option Elab.async false
set_option linter.all false
set_option maxRecDepth 100000
set_option maxHeartbeats 1000000
namespace Dk
open PySem PySem.Spec PyProof.Rows L2 TL
theorem sqtK {K : PySem.W.Frag} {H : Hp} {a : Addr} {xs : List V} (h : SqT K (fun _ => none) a xs) : SqT K H a xs := by
  rcases h with (h | ⟨o, h⟩) | h
  · cases h
  · cases h
  · exact .inr h
theorem any_eqI (l : List Int) (n : Int) : inV (.int n) (l.map V.int) = decide (n ∈ l) := by
  unfold inV
  induction l with
  | nil => rfl
  | cons m l ih =>
    rw [List.map_cons, List.any_cons, ih]
    show (m == n || decide (n ∈ l)) = decide (n ∈ m :: l)
    by_cases e : m = n
    · subst e; simp
    · have e' : n ≠ m := fun q => e q.symm
      simp [e, e']
theorem flat_ints (l : List Int) : (l.map V.int).all flatV = true := by
  induction l with
  | nil => rfl
  | cons m l ih => rw [List.map_cons, List.all_cons, ih]; rfl
/-- x < y, two ints or two tuples of ints -/
def Lt2 (K : PySem.W.Frag) (H : Hp) (x y : V) (b : Bool) : Prop :=
  (∃ m n : Int, x = .int m ∧ y = .int n ∧ b = decide (m < n)) ∨ (∃ (a c : Addr) (ns ms : List Int), x = .ref a ∧ y = .ref c ∧ SqT K H a (ns.map V.int) ∧ SqT K H c (ms.map V.int) ∧ b = HT.lexLt ns ms)
def rLt2 (K : PySem.W.Frag) : R2 := fun x y H Q => ∃ b, Lt2 K H x y b ∧ Q (.bl b) H
theorem op_lt2 {X : Cx} (hu : X.A.units < cLine) : OpR X (compareOp .Lt) (rLt2 X.K) := by
  intro pins s σ H x y v u Q I rx ry h
  obtain ⟨b, h | h, q⟩ := h
  · obtain ⟨m, n, rfl, rfl, rfl⟩ := h
    exact op_lt pins s σ H _ _ v u Q I rx ry ⟨m, n, rfl, rfl, q⟩
  · obtain ⟨a, c, ns, ms, rfl, rfl, h1, h2, rfl⟩ := h
    exact op_ltT hu pins s σ H _ _ v u Q I rx ry ⟨a, c, ns, ms, rfl, rfl, h1, h2, q⟩
def spAsc (K : PySem.W.Frag) : Sp := fun vs H Q _ => ∃ (a : Addr) (xs : List V) (i : Nat) (b : Bool), vs = [.ref a, .int (i : Int)] ∧ SqT K H a xs ∧ i < xs.length ∧ (i = 0 → b = true) ∧
  (∀ j, i = j + 1 → ∃ x y, xs[j]? = some x ∧ xs[j + 1]? = some y ∧ Lt2 K H x y b) ∧ Q (.bl b) H
section
variable {P : Program} {w : World} {K : PySem.W.Frag} {mg : Str → Option Value} {base : Heap} {fII fIB fHO : Addr} {fdII fdIB fdHO : FuncData}
theorem scIsTable : FnScope ["table"] ["table"] (defScope sIsTable) := ⟨rfl, rfl, rfl, by decide +kernel, rfl, by decide +kernel, by decide +kernel⟩
theorem ok_istable {f : Addr} {fd : FuncData} (F : Fun K "is_table" "is_table" sIsTable f fd) (T : TxtA mg) (TF : TxtF K mg fII fIB fHO fdII fdIB fdHO) : FnOk P w K mg base CX0 2 f fd ["table"] (spIsTable K) := by
  have GH : FnOk P w K mg base CX0 1 fHO fdHO ["word", "characters"] spHasOnly := ok_hasonly TF
  obtain ⟨tL, eL⟩ := TF.letters
  obtain ⟨aT, eT, hT⟩ := TF.lengths
  refine F.ok scIsTable (fun vs H Q E h => ?_) (fun cdv A outer s H vs Q E hr h => ?_)
  · obtain ⟨v, d, rfl, _⟩ := h
    rfl
  · obtain ⟨v, d, rfl, hd, hz, k⟩ := h
    refine ⟨_, pss_one (ps_ret (pe_and (pe_callB call_isi (by rfl) TF.isinstance (by decide +kernel) (pa_cons (pv 0) (pa_cons (pe_bltn (v := .ty "str") (by rfl) TF.str (by decide +kernel) rfl) pa_nil)))
      (pe_and (pe_cmpR op_in_seq (pe_callB call_len_str (by rfl) T.len PySem.boot_len (pa_cons (pv 0) pa_nil)) (pe_glob (v := .ref aT) rfl eT rfl) (by rfl))
      (pe_one (pe_call GH hr rfl TF.gHO TF.FHO.kp TF.bHO .nil pass0 (pa_cons (pv 0) (pa_cons (pe_glob (v := .str hoS) rfl eL ⟨_, rfl⟩) pa_nil))))))), ?_⟩
    refine ⟨_, rfl, _, _, _, _, _, rfl, .ty "str", tyx hd, kit_ty (kit_str d), _, rfl, ?_⟩
    cases hd with
    | str x =>
      have hx := hz x rfl
      refine iteT ⟨_, rfl, _, rfl, Nat.le_trans hx (by decide), aT, _, rfl, .inr (sqtK hT), rfl, flat_ints _, _, rfl, ?_⟩
      show (if inV (.int (x.length : Int)) (tabLens.map V.int) = true then _ else _)
      rw [any_eqI]
      by_cases c : (x.length : Int) ∈ tabLens
      · rw [decide_eq_true c]
        refine iteT ⟨_, rfl, x, hoS, rfl, hx, fun H' s' => ?_⟩
        have e : isTabD (.str x) = only x hoS := by show (decide _ && _) = _; rw [decide_eq_true c]; rfl
        rw [← e]; exact k _ s'
      · rw [decide_eq_false c]
        refine iteF ?_
        have e : isTabD (.str x) = false := by show (decide _ && _) = _; rw [decide_eq_false c]; rfl
        have := k H (Same.refl H)
        rw [e] at this; exact this
    | non => exact iteF (k H (Same.refl H))
    | bl b => exact iteF (k H (Same.refl H))
    | int i => exact iteF (k H (Same.refl H))
    | lst hs ha => exact iteF (k H (Same.refl H))
    | tup hs ha => exact iteF (k H (Same.refl H))
theorem scIsRem : FnScope ["reminder", "period", "persons"] ["reminder", "period", "persons"] (defScope sIsRem) := ⟨rfl, rfl, rfl, by decide +kernel, rfl, by decide +kernel, by decide +kernel⟩
theorem ok_isrem {f : Addr} {fd : FuncData} (F : Fun K "is_reminder" "is_reminder" sIsRem f fd) (T : TxtA mg) (TF : TxtF K mg fII fIB fHO fdII fdIB fdHO) : FnOk P w K mg base CX0 3 f fd ["reminder", "period", "persons"] (spIsRem K) := by
  have GB : FnOk P w K mg base CX0 2 fIB fdIB ["value", "limit"] (spIsBelow K) := ok_isbelow TF
  refine F.ok scIsRem (fun vs H Q E h => ?_) (fun cdv A outer s H vs Q E hr h => ?_)
  · obtain ⟨v, d, per, n, rfl, _⟩ := h
    rfl
  · obtain ⟨v, d, per, n, rfl, hd, k⟩ := h
    refine ⟨_, pss_cons (ps_if (PW.pt (pw_or (pt_not (pt_val (pe_callB call_isi (by rfl) TF.isinstance (by decide +kernel) (pa_cons (pv 0) (pa_cons (pe_bltn (v := .ty "tuple") (by rfl) TF.tuple (by decide +kernel) rfl) pa_nil)))))
        (pw_or1 (pt_cmpR op_ne (pe_callB call_len_seq (by rfl) T.len PySem.boot_len (pa_cons (pv 0) pa_nil)) pe_int (nomark _))))) (pss_one (ps_ret pe_bl)) pss_nil)
      (pss_one (ps_ret (pe_and (pe_call GB hr rfl TF.gIB TF.FIB.kp TF.bIB .nil pass0 (pa_cons (pe_ix ix_tup (pv 0) pe_int (fun _ _ => rfl)) (pa_cons (pv 1) pa_nil)))
        (pe_one (pe_call GB hr rfl TF.gIB TF.FIB.kp TF.bIB .nil pass0 (pa_cons (pe_ix ix_tup (pv 0) pe_int (fun _ _ => rfl)) (pa_cons (pv 2) pa_nil))))))), ?_⟩
    refine ⟨_, rfl, _, _, _, _, _, rfl, .ty "tuple", tyx hd, kit_ty (kit_tup d), _, rfl, ?_⟩
    cases hd with
    | str x => exact iteT (iteT k)
    | non => exact iteT (iteT k)
    | bl b => exact iteT (iteT k)
    | int i => exact iteT (iteT k)
    | lst hs ha => exact iteT (iteT k)
    | @tup a xs ds hs ha =>
      refine iteF ⟨_, rfl, a, xs, rfl, .inr hs, rfl, _, rfl, ?_⟩
      cases ha with
      | nil => exact iteT k
      | cons h1 ha =>
        rename_i v1 vs1 d1 ds1
        cases ha with
        | nil => exact iteT k
        | cons h2 ha =>
          rename_i v2 vs2 d2 ds2
          cases ha with
          | nil =>
            refine iteF ?_
            refine ⟨_, rfl, a, _, 0, v1, rfl, rfl, hs, at0, _, rfl, v1, d1, per, rfl, h1, _, rfl, ?_⟩
            have e : isRemD (.tuple [d1, d2]) per n = (Dk.below d1 per && Dk.below d2 n) := rfl
            rw [e] at k
            cases c : Dk.below d1 per with
            | false => rw [c] at k; exact iteF k
            | true =>
              rw [c] at k
              exact iteT ⟨_, rfl, a, _, 1, v2, rfl, rfl, hs, at1, _, rfl, v2, d2, n, rfl, h2, k⟩
          | cons h3 ha =>
            rename_i v3 vs3 d3 ds3
            have e : (!decide (V.int (((v1 :: v2 :: v3 :: vs3).length : Nat) : Int) = V.int 2)) = true := by
              have : ¬ V.int (((v1 :: v2 :: v3 :: vs3).length : Nat) : Int) = V.int 2 := fun q => by
                have := V.int.inj q
                simp only [List.length_cons] at this
                omega
              rw [decide_eq_false this]; rfl
            show (if (!decide (V.int (((v1 :: v2 :: v3 :: vs3).length : Nat) : Int) = V.int 2)) = true then _ else _)
            rw [e]
            exact iteT k
theorem scAsc : FnScope ["items", "index"] ["items", "index"] (defScope sAsc) := ⟨rfl, rfl, rfl, by decide +kernel, rfl, by decide +kernel, by decide +kernel⟩
theorem ok_asc {f : Addr} {fd : FuncData} (F : Fun K "is_ascending_at" "is_ascending_at" sAsc f fd) : FnOk P w K mg base CX0 1 f fd ["items", "index"] (spAsc K) := by
  refine F.ok scAsc (fun vs H Q E h => ?_) (fun cdv A outer s H vs Q E hr h => ?_)
  · obtain ⟨a, xs, i, b, rfl, _⟩ := h
    rfl
  · obtain ⟨a, xs, i, b, rfl, hs, hi, h0, hj, k⟩ := h
    refine ⟨_, pss_one (ps_ret (pe_or (pe_cmpR op_eq (pv 1) pe_int (nomark _)) (pe_one (pe_cmpR (op_lt2 hr.units0) (pe_ix ix_tup (pv 0) (pe_op op_sub (pv 1) pe_int) (fun _ _ => rfl)) (pe_ix ix_tup (pv 0) (pv 1) (fun _ _ => rfl)) (nomark _))))), ?_⟩
    refine ⟨_, rfl, rfl, _, rfl, ?_⟩
    cases i with
    | zero =>
      refine ite2 (fun _ => ?_) (fun c => absurd (decide_eq_true rfl) c)
      rw [← h0 rfl]; exact k
    | succ j =>
      obtain ⟨x, y, ex, ey, hl⟩ := hj j rfl
      refine ite2 (fun c => ?_) (fun _ => ?_)
      · have := of_decide_eq_true c
        cases this
      · refine ⟨_, rfl, _, rfl, _, _, rfl, rfl, a, xs, _, x, rfl, rfl, hs, ?_, _, rfl, _, rfl, a, xs, _, y, rfl, rfl, hs, atI_nat ey, b, hl, k⟩
        have e : ((j + 1 : Nat) : Int) - 1 = (j : Int) := by omega
        rw [e]; exact atI_nat ex
end
end Dk

set_option Elab.async false
set_option linter.all false
set_option maxRecDepth 100000
set_option maxHeartbeats 1000000
namespace Dk
open PySem PySem.Spec PyProof.Rows L2 TL
mutual
theorem dpSame {K : PySem.W.Frag} {H H' : Hp} (k : Same H H') : ∀ (d : PyData) (v : V), Dp K H v d → Dp K H' v d
  | .none, _, h => by cases h; exact .non
  | .bool b, _, h => by cases h; exact .bl b
  | .int i, _, h => by cases h; exact .int i
  | .str x, _, h => by cases h; exact .str x
  | .list ds, _, h => by
    cases h with
    | lst hs ha => exact .lst (k.seq hs) (dpAllSame k ds _ ha)
  | .tuple ds, _, h => by
    cases h with
    | tup hs ha => exact .tup (sSqT k hs) (dpAllSame k ds _ ha)
  | .dict _, _, h => by cases h
theorem dpAllSame {K : PySem.W.Frag} {H H' : Hp} (k : Same H H') : ∀ (ds : List PyData) (vs : List V), DpAll K H vs ds → DpAll K H' vs ds
  | [], _, h => by cases h; exact .nil
  | d :: ds, _, h => by
    cases h with
    | cons h1 h2 => exact .cons (dpSame k d _ h1) (dpAllSame k ds _ h2)
end
theorem dpAll_len {K : PySem.W.Frag} {H : Hp} : ∀ {vs : List V} {ds : List PyData}, DpAll K H vs ds → vs.length = ds.length
  | [], [], .nil => rfl
  | _ :: _, _ :: _, .cons _ h => congrArg Nat.succ (dpAll_len h)
theorem dpAll_get {K : PySem.W.Frag} {H : Hp} : ∀ {vs : List V} {ds : List PyData} {i : Nat} {x : V}, DpAll K H vs ds → vs[i]? = some x → ∃ d, ds[i]? = some d ∧ Dp K H x d
  | [], [], _, _, .nil, e => by simp at e
  | _ :: _, _ :: _, 0, _, .cons h _, e => by
    simp at e; subst e; exact ⟨_, rfl, h⟩
  | _ :: _, _ :: _, i + 1, _, .cons _ h, e => by
    obtain ⟨d, e1, e2⟩ := dpAll_get (i := i) h (by simpa using e)
    exact ⟨d, by simpa using e1, e2⟩
/-! ### errors of one's own -/
abbrev ihFields (part : Str) (i : Int) : List (Str × V) := [("index", .int i), ("part", .str part)]
def Raised (C : Addr) (E : XK) (H : Hp) (part : Str) (i : Int) : Prop := ∀ (H' : Hp) (d : Addr), Same H H' → H d = none → H' d = some (.xd (ihFields part i)) → E (.ref C) (some d) H'
theorem Raised.mono {C : Addr} {E : XK} {H H1 : Hp} {part : Str} {i : Int} (h : Raised C E H part i) (s : Same H H1) : Raised C E H1 part i := fun H' d s2 n e => h H' d (s.trans s2) (s.free n) e
abbrev sIHInit : Stmt := inClass (top 4) 0
abbrev sTFInit : Stmt := inClass (top 11) 0
structure TxtIH (K : PySem.W.Frag) (mg : Str → Option Value) (C fI : Addr) (fdI : FuncData) : Prop where
  gC : mg "InvalidHouse" = some (.ref C)
  O : OexC K C
  iC : PySem.W.findIn K (.ref C) "__init__" = some (some (.ref fI))
  tI : PySem.W.typeIn K (.ref fI) = some (.type "function")
  F : Fun K "__init__" "InvalidHouse.__init__" sIHInit fI fdI
  b : Binds K fdI ["self", "part", "index"] []
  nP : PySem.W.findIn K (.ref C) "part" = some none
  nI : PySem.W.findIn K (.ref C) "index" = some none
def spIHInit (C : Addr) : Sp := fun vs H Q _ => ∃ (a : Addr) (p i : V), vs = [.ref a, p, i] ∧ H a = some (exo a C none) ∧
  ∀ d, H d = none → d ≠ a → Q .non (upd (upd (upd H d (exd d [("part", p)])) a (exo a C (some d))) d (exd d [("index", i), ("part", p)]))
section
variable {P : Program} {w : World} {K : PySem.W.Frag} {mg : Str → Option Value} {base : Heap} {C fI : Addr} {fdI : FuncData}
theorem scIHInit : FnScope ["self", "part", "index"] ["self", "part", "index"] (defScope sIHInit) := ⟨rfl, rfl, rfl, by decide +kernel, rfl, by decide +kernel, by decide +kernel⟩
theorem ok_ihinit (TI : TxtIH K mg C fI fdI) : FnOk P w K mg base CX0 1 fI fdI ["self", "part", "index"] (spIHInit C) := by
  refine TI.F.ok scIHInit (fun vs H Q E h => ?_) (fun cdv A outer s H vs Q E hr h => ?_)
  · obtain ⟨a, p, i, rfl, _⟩ := h
    rfl
  · obtain ⟨a, p, i, rfl, ha, k⟩ := h
    refine ⟨_, pss_cons (ps_ost (pv 0) (pv 1)) (pss_one (ps_ost (pv 0) (pv 2))), ?_⟩
    refine ⟨_, rfl, _, rfl, a, C, rfl, TI.O, TI.nP, .inl ⟨ha, fun d hd nd => ?_⟩⟩
    refine ⟨_, rfl, _, rfl, a, C, rfl, TI.O, TI.nI, .inr ⟨d, [("part", p)], upd_same, ?_, by simp, ?_⟩⟩
    · rw [upd_ne nd]; exact upd_same
    · exact k d hd nd
/-- the reading of raise InvalidHouse(part, i), from what is wanted of it -/
theorem raise_ih {H : Hp} {E : XK} {part : Str} {i : Int} (k : Raised C E H part i) :
    ([V.str part, V.int i] : List V).length ≤ 1000 ∧ ∀ a, H a = none → spIHInit C (.ref a :: ([V.str part, V.int i] ++ [])) (upd H a (exo a C none))
      (fun v H2 => v = .non ∧ ∃ (d : Addr) (fs : List (Str × V)), H2 a = some (exo a C (some d)) ∧ H2 d = some (exd d fs) ∧ H d = none ∧ E (.ref C) (some d) (upd (del H2 a) d (.xd fs))) (fun _ _ _ => False) := by
  refine ⟨by simp, fun a hn => ⟨a, _, _, rfl, upd_same, fun d hd nd => ⟨rfl, d, _, ?_, upd_same, ?_, ?_⟩⟩⟩
  · rw [upd_ne nd.symm]; exact upd_same
  · rw [upd_ne nd] at hd; exact hd
  · rw [upd_ne nd] at hd
    refine k _ d (fun b o e => ?_) hd upd_same
    have nb : b ≠ a := ne_of_none e hn
    have nd' : b ≠ d := ne_of_none e hd
    rw [upd_ne nd', del_ne nb, upd_ne nd', upd_ne nb, upd_ne nd', upd_ne nb]
    exact e
end
/-! ### the first bad item -/
def bad1 (p : Nat → PyData → Bool) : Nat → List PyData → Option Nat
  | _, [] => none
  | i, d :: ds => if p i d then some i else bad1 p (i + 1) ds
theorem bad1_step {p : Nat → PyData → Bool} {ds : List PyData} {i : Nat} {d : PyData} (h : ds[i]? = some d) : bad1 p i (ds.drop i) = if p i d then some i else bad1 p (i + 1) (ds.drop (i + 1)) := by
  have hi : i < ds.length := (List.getElem?_eq_some_iff.mp h).1
  have e : ds.drop i = d :: ds.drop (i + 1) := by
    rw [List.drop_eq_getElem_cons hi]
    congr 1
    have := List.getElem?_eq_getElem hi
    rw [h] at this
    exact (Option.some.inj this).symm
  rw [e]; rfl
theorem bad1_end {p : Nat → PyData → Bool} {ds : List PyData} : bad1 p ds.length (ds.drop ds.length) = none := by
  rw [List.drop_length]; rfl
def chkTabs : PyData → Option Nat
  | .tuple [] => some 0
  | .tuple (d :: ds) => bad1 (fun i t => i == 6 || !isTabD t) 0 (d :: ds)
  | _ => some 0
def chkKeys (d : PyData) : Option Nat := if below d 10 then none else some 0
def intOf : PyData → Int
  | .int i => i
  | _ => 0
def prOf : PyData → Pr
  | .tuple [.int i, .int j] => (i, j)
  | _ => (0, 0)
/-- the item before, less -/
def ascI (ds : List PyData) (i : Nat) : Bool := match i with
  | 0 => true
  | j + 1 => decide (intOf (ds.getD j .none) < intOf (ds.getD (j + 1) .none))
def ascP (ds : List PyData) (i : Nat) : Bool := match i with
  | 0 => true
  | j + 1 => HT.lexLt [(prOf (ds.getD j .none)).1, (prOf (ds.getD j .none)).2] [(prOf (ds.getD (j + 1) .none)).1, (prOf (ds.getD (j + 1) .none)).2]
def chkCareful (d : PyData) (n : Int) : Option Nat := match d with
  | .tuple ds => bad1 (fun i x => !below x n || !ascI ds i) 0 ds
  | _ => some 0
def chkRem (d : PyData) (per n : Int) : Option Nat := match d with
  | .tuple ds => bad1 (fun i x => i == 10 || !isRemD x per n || !ascP ds i) 0 ds
  | _ => some 0
end Dk

set_option Elab.async false
set_option linter.all false
set_option maxRecDepth 100000
set_option maxHeartbeats 1000000
namespace Dk
open PySem PySem.Spec PyProof.Rows L2 TL
structure TxtI (K : PySem.W.Frag) (mg : Str → Option Value) (fIT fIR fAs : Addr) (fdIT fdIR fdAs : FuncData) : Prop where
  enumerate : mg "enumerate" = none
  most : ∃ t, mg "MOST_PERSONS" = some (.int 6 t)
  keys : ∃ t, mg "MOST_KEYS" = some (.int 9 t)
  rems : ∃ t, mg "MOST_REMINDERS" = some (.int 10 t)
  gIT : mg "is_table" = some (.ref fIT)
  FIT : Fun K "is_table" "is_table" sIsTable fIT fdIT
  bIT : Binds K fdIT ["table"] []
  gIR : mg "is_reminder" = some (.ref fIR)
  FIR : Fun K "is_reminder" "is_reminder" sIsRem fIR fdIR
  bIR : Binds K fdIR ["reminder", "period", "persons"] []
  gAs : mg "is_ascending_at" = some (.ref fAs)
  FAs : Fun K "is_ascending_at" "is_ascending_at" sAsc fAs fdAs
  bAs : Binds K fdAs ["items", "index"] []
def spChkKeys (K : PySem.W.Frag) (C : Addr) : Sp := fun vs H Q E => ∃ (v : V) (d : PyData), vs = [v] ∧ Dp K H v d ∧ (chkKeys d = none → Q .non H) ∧ (chkKeys d = some 0 → Raised C E H "keys" 0)
def SmallS (d : PyData) : Prop := match d with
  | .str t => t.length ≤ 100000
  | _ => True
def spChkTabs (K : PySem.W.Frag) (C : Addr) : Sp := fun vs H Q E => ∃ (v : V) (d : PyData), vs = [v] ∧ Dp K H v d ∧ (∀ ds, d = .tuple ds → ∀ x ∈ ds, SmallS x) ∧
  (chkTabs d = none → ∀ H', Same H H' → Q .non H') ∧ (∀ i, chkTabs d = some i → Raised C E H "tables" (i : Int))
section
variable {P : Program} {w : World} {K : PySem.W.Frag} {mg : Str → Option Value} {base : Heap} {C fI : Addr} {fdI : FuncData} {fII fIB fHO : Addr} {fdII fdIB fdHO : FuncData} {fIT fIR fAs : Addr} {fdIT fdIR fdAs : FuncData}
theorem scChkKeys : FnScope ["keys"] ["keys"] (defScope sChkKeys) := ⟨rfl, rfl, rfl, by decide +kernel, rfl, by decide +kernel, by decide +kernel⟩
theorem ok_chkkeys {f : Addr} {fd : FuncData} (F : Fun K "check_keys" "check_keys" sChkKeys f fd) (TF : TxtF K mg fII fIB fHO fdII fdIB fdHO) (TI : TxtI K mg fIT fIR fAs fdIT fdIR fdAs) (TH : TxtIH K mg C fI fdI) :
    FnOk P w K mg base (L2.CX P w) 3 f fd ["keys"] (spChkKeys K C) := by
  have GB : FnOk P w K mg base CX0 2 fIB fdIB ["value", "limit"] (spIsBelow K) := ok_isbelow TF
  have GI : FnOk P w K mg base CX0 1 fI fdI ["self", "part", "index"] (spIHInit C) := ok_ihinit TH
  obtain ⟨tk, ek⟩ := TI.keys
  refine F.okX scChkKeys (fun vs H Q E h => ?_) (fun cdv A outer s H vs Q E hr h => ?_)
  · obtain ⟨v, d, rfl, _⟩ := h
    rfl
  · obtain ⟨v, d, rfl, hd, k1, k2⟩ := h
    refine ⟨_, pss_one (ps_if (pt_not (pt_val (pe_call GB hr rfl TF.gIB TF.FIB.kp TF.bIB .nil pass0 (pa_cons (pv 0) (pa_cons (pe_op op_add (pe_glob (v := .int 9) rfl ek ⟨_, rfl⟩) pe_int) pa_nil)))))
      (pss_one (ps_raise rfl (takes_of rfl rfl rfl rfl) (pmk_oex TH.O TH.iC TH.tI GI hr TH.b .nil pass0 rfl TH.gC (pa_cons pe_str (pa_cons pe_int pa_nil))))) pss_nil), ?_⟩
    refine ⟨_, rfl, _, _, rfl, rfl, v, d, _, rfl, hd, _, rfl, ?_⟩
    have e : below d (9 + 1) = below d 10 := rfl
    rw [e]
    cases c : below d 10 with
    | true => exact iteF (k1 (by unfold chkKeys; rw [c]; rfl))
    | false => exact iteT (raise_ih (k2 (by unfold chkKeys; rw [c]; rfl)))
theorem scChkTabs : FnScope ["tables", "index", "table"] ["tables"] (defScope sChkTables) := ⟨rfl, rfl, rfl, by decide +kernel, rfl, by decide +kernel, by decide +kernel⟩
theorem ok_chktabs {f : Addr} {fd : FuncData} (F : Fun K "check_tables" "check_tables" sChkTables f fd) (T : TxtA mg) (TF : TxtF K mg fII fIB fHO fdII fdIB fdHO) (TI : TxtI K mg fIT fIR fAs fdIT fdIR fdAs) (TH : TxtIH K mg C fI fdI) :
    FnOk P w K mg base (L2.CX P w) 3 f fd ["tables"] (spChkTabs K C) := by
  have GT : FnOk P w K mg base CX0 2 fIT fdIT ["table"] (spIsTable K) := ok_istable TI.FIT T TF
  have GI : FnOk P w K mg base CX0 1 fI fdI ["self", "part", "index"] (spIHInit C) := ok_ihinit TH
  obtain ⟨tk, ek⟩ := TI.most
  refine F.okX scChkTabs (fun vs H Q E h => ?_) (fun cdv A outer s H vs Q E hr h => ?_)
  · obtain ⟨v, d, rfl, _⟩ := h
    rfl
  · obtain ⟨v, d, rfl, hd, hz, k1, k2⟩ := h
    refine ⟨_, pss_cons (ps_if (PW.pt (pw_or (pt_not (pt_val (pe_callB call_isi (by rfl) TF.isinstance (by decide +kernel) (pa_cons (pv 0) (pa_cons (pe_bltn (v := .ty "tuple") (by rfl) TF.tuple (by decide +kernel) rfl) pa_nil)))))
          (pw_or1 (pt_not (pt_truth (pv 0) (by intro _; rfl))))))
        (pss_one (ps_raise rfl (takes_of rfl rfl rfl rfl) (pmk_oex TH.O TH.iC TH.tI GI hr TH.b .nil pass0 rfl TH.gC (pa_cons pe_str (pa_cons pe_int pa_nil))))) pss_nil)
      (pss_one (ps_for (passes_of rfl) rfl (pi_enumT (by rfl) TI.enumerate (pa_cons (pv 0) pa_nil)) (pg_tup rfl (pgs_cons (pg_name (i := 1) scChkTabs.nd rfl (.inl rfl)) (pgs_cons (pg_name (i := 2) scChkTabs.nd rfl (.inl rfl)) pgs_nil)))
        (pss_one (ps_if (PW.pt (pw_or (pt_cmpR op_eq (pv 1) (pe_glob (v := .int 6) rfl ek ⟨_, rfl⟩) (nomark _)) (pw_or1 (pt_not (pt_val (pe_call GT hr rfl TI.gIT TI.FIT.kp TI.bIT .nil pass0 (pa_cons (pv 2) pa_nil)))))))
          (pss_one (ps_raise rfl (takes_of rfl rfl rfl rfl) (pmk_oex TH.O TH.iC TH.tI GI hr TH.b .nil pass0 rfl TH.gC (pa_cons pe_str (pa_cons (pv 1) pa_nil))))) pss_nil)))), ?_⟩
    refine ⟨_, rfl, _, _, _, _, _, rfl, .ty "tuple", tyx hd, kit_ty (kit_tup d), _, rfl, ?_⟩
    cases hd with
    | str x => exact iteT (iteT (raise_ih (k2 0 rfl)))
    | non => exact iteT (iteT (raise_ih (k2 0 rfl)))
    | bl b => exact iteT (iteT (raise_ih (k2 0 rfl)))
    | int i => exact iteT (iteT (raise_ih (k2 0 rfl)))
    | lst hs ha => exact iteT (iteT (raise_ih (k2 0 rfl)))
    | @tup a xs ds hs ha =>
      refine iteF ⟨_, rfl, !xs.isEmpty, .inr (.inl ⟨xs, hs, rfl⟩), ?_⟩
      have hl := dpAll_len ha
      have hds : ds = [] ∨ ∃ d0 r, ds = d0 :: r := by
        cases ds with
        | nil => exact .inl rfl
        | cons d0 r => exact .inr ⟨d0, r, rfl⟩
      rcases hds with rfl | ⟨d0, r, hds⟩
      · cases ha
        exact iteT (raise_ih (k2 0 rfl))
      · have hx : xs.isEmpty = false := by
          cases xs with
          | nil => rw [hds] at hl; cases hl
          | cons x xs => rfl
        rw [hx]
        have ec : chkTabs (.tuple ds) = bad1 (fun i t => i == 6 || !isTabD t) 0 ds := by rw [hds]; rfl
        rw [ec] at k1 k2
        have hz' := hz ds rfl
        refine iteF ⟨_, rfl, a, xs, rfl, hs, for_it walk_enumT
          (fun i σ H' => ∃ v1 v2 : Option V, σ = [some (.ref a), v1, v2] ∧ Same H H' ∧ bad1 (fun i t => i == 6 || !isTabD t) 0 ds = bad1 (fun i t => i == 6 || !isTabD t) i (ds.drop i))
          ⟨none, none, rfl, Same.refl H, rfl⟩ (fun i σ H' _ ⟨_, _, _, e, _⟩ => sSqT e hs) ?_ ?_⟩
        · rintro i y σ H1 H2 hi ⟨v1, v2, rfl, s1, eb⟩ ⟨Tp, y1, y2, rfl, hTp, rfl, e1, e2⟩
          cases e1
          obtain ⟨dx, edx, hdx⟩ := dpAll_get ha e2
          have s2 : Same H (upd H1 Tp (.tup [.int (i : Nat), y2])) := s1.trans (same_upd hTp)
          have hm : dx ∈ ds := List.mem_of_getElem? edx
          have st := bad1_step (p := fun i t => i == 6 || !isTabD t) edx
          refine ⟨Tp, _, rfl, SqT.of upd_same, rfl, _, _, rfl, _, _, rfl, rfl, ?_⟩
          refine ⟨_, rfl, rfl, _, rfl, ?_⟩
          by_cases c6 : i = 6
          · have c6' : decide (V.int ((i : Nat) : Int) = V.int 6) = true := decide_eq_true (by rw [c6]; rfl)
            rw [c6']
            refine iteT (iteT ⟨_, rfl, raise_ih (Raised.mono (k2 i ?_) s2)⟩)
            rw [eb, st, c6]; rfl
          · have c6' : decide (V.int ((i : Nat) : Int) = V.int 6) = false := decide_eq_false fun q => c6 (by have := V.int.inj q; omega)
            rw [c6']
            refine iteF ⟨_, rfl, y2, dx, rfl, dpSame s2 _ _ hdx, fun t et => ?_, fun H3 s3 => ⟨_, rfl, ?_⟩⟩
            · have := hz' dx hm
              rw [et] at this
              exact this
            · have c6b : (i == 6) = false := by simpa using c6
              rw [c6b, Bool.false_or] at st
              cases c : isTabD dx with
              | true =>
                rw [c] at st
                refine iteF ⟨_, _, rfl, s2.trans s3, ?_⟩
                rw [eb, st]; rfl
              | false =>
                rw [c] at st
                refine iteT ⟨_, rfl, raise_ih (Raised.mono (k2 i ?_) (s2.trans s3))⟩
                rw [eb, st]; rfl
        · rintro σ H1 ⟨v1, v2, rfl, s1, eb⟩
          refine k1 ?_ H1 s1
          rw [eb, hl]
          exact bad1_end
end
end Dk

set_option Elab.async false
set_option linter.all false
set_option maxRecDepth 100000
set_option maxHeartbeats 1000000
namespace Dk
open PySem PySem.Spec PyProof.Rows L2 TL
theorem below_int {d : PyData} {n : Int} (h : below d n = true) : ∃ i, d = .int i ∧ 0 ≤ i ∧ i < n := by
  cases d with
  | int i =>
    have h' : (decide ((0 : Int) ≤ i) && decide (i < n)) = true := h
    rw [Bool.and_eq_true] at h'
    exact ⟨i, rfl, of_decide_eq_true h'.1, of_decide_eq_true h'.2⟩
  | none => cases h
  | bool _ => cases h
  | str _ => cases h
  | list _ => cases h
  | tuple _ => cases h
  | dict _ => cases h
theorem isRem_pr {d : PyData} {per n : Int} (h : isRemD d per n = true) : ∃ i j, d = .tuple [.int i, .int j] ∧ 0 ≤ i ∧ i < per ∧ 0 ≤ j ∧ j < n := by
  unfold isRemD at h
  split at h
  · rename_i a b
    rw [Bool.and_eq_true] at h
    obtain ⟨i, rfl, h1, h2⟩ := below_int h.1
    obtain ⟨j, rfl, h3, h4⟩ := below_int h.2
    exact ⟨i, j, rfl, h1, h2, h3, h4⟩
  · cases h
def spChkCareful (K : PySem.W.Frag) (C : Addr) : Sp := fun vs H Q E => ∃ (v : V) (d : PyData) (n : Int), vs = [v, .int n] ∧ Dp K H v d ∧
  (chkCareful d n = none → ∀ H', Same H H' → Q .non H') ∧ (∀ i, chkCareful d n = some i → Raised C E H "careful" (i : Int))
def spChkRem (K : PySem.W.Frag) (C : Addr) : Sp := fun vs H Q E => ∃ (v : V) (d : PyData) (per n : Int), vs = [v, .int per, .int n] ∧ Dp K H v d ∧
  (chkRem d per n = none → ∀ H', Same H H' → Q .non H') ∧ (∀ i, chkRem d per n = some i → Raised C E H "reminders" (i : Int))
theorem getD_of {ds : List PyData} {i : Nat} {d : PyData} (h : ds[i]? = some d) : ds.getD i .none = d := by rw [List.getD_eq_getElem?_getD, h]; rfl
section
variable {P : Program} {w : World} {K : PySem.W.Frag} {mg : Str → Option Value} {base : Heap} {C fI : Addr} {fdI : FuncData} {fII fIB fHO : Addr} {fdII fdIB fdHO : FuncData} {fIT fIR fAs : Addr} {fdIT fdIR fdAs : FuncData}
theorem scChkCareful : FnScope ["careful", "persons", "index", "person"] ["careful", "persons"] (defScope sChkCareful) := ⟨rfl, rfl, rfl, by decide +kernel, rfl, by decide +kernel, by decide +kernel⟩
theorem ok_chkcareful {f : Addr} {fd : FuncData} (F : Fun K "check_careful" "check_careful" sChkCareful f fd) (T : TxtA mg) (TF : TxtF K mg fII fIB fHO fdII fdIB fdHO) (TI : TxtI K mg fIT fIR fAs fdIT fdIR fdAs) (TH : TxtIH K mg C fI fdI) :
    FnOk P w K mg base (L2.CX P w) 3 f fd ["careful", "persons"] (spChkCareful K C) := by
  have GB : FnOk P w K mg base CX0 2 fIB fdIB ["value", "limit"] (spIsBelow K) := ok_isbelow TF
  have GA : FnOk P w K mg base CX0 1 fAs fdAs ["items", "index"] (spAsc K) := ok_asc TI.FAs
  have GI : FnOk P w K mg base CX0 1 fI fdI ["self", "part", "index"] (spIHInit C) := ok_ihinit TH
  refine F.okX scChkCareful (fun vs H Q E h => ?_) (fun cdv A outer s H vs Q E hr h => ?_)
  · obtain ⟨v, d, n, rfl, _⟩ := h
    rfl
  · obtain ⟨v, d, n, rfl, hd, k1, k2⟩ := h
    have hr1 : Room 1 (A.deeper (envOfC (Str.ofString "check_careful") (defScope sChkCareful) s.heap.objs.size f cdv)) := hr.mono (by decide)
    refine ⟨_, pss_cons (ps_if (pt_not (pt_val (pe_callB call_isi (by rfl) TF.isinstance (by decide +kernel) (pa_cons (pv 0) (pa_cons (pe_bltn (v := .ty "tuple") (by rfl) TF.tuple (by decide +kernel) rfl) pa_nil)))))
        (pss_one (ps_raise rfl (takes_of rfl rfl rfl rfl) (pmk_oex TH.O TH.iC TH.tI GI hr TH.b .nil pass0 rfl TH.gC (pa_cons pe_str (pa_cons pe_int pa_nil))))) pss_nil)
      (pss_one (ps_for (passes_of rfl) rfl (pi_enumT (by rfl) TI.enumerate (pa_cons (pv 0) pa_nil)) (pg_tup rfl (pgs_cons (pg_name (i := 2) scChkCareful.nd rfl (.inl rfl)) (pgs_cons (pg_name (i := 3) scChkCareful.nd rfl (.inl rfl)) pgs_nil)))
        (pss_one (ps_if (PW.pt (pw_or (pt_not (pt_val (pe_call GB hr rfl TF.gIB TF.FIB.kp TF.bIB .nil pass0 (pa_cons (pv 3) (pa_cons (pv 1) pa_nil)))))
            (pw_or1 (pt_not (pt_val (pe_call GA hr1 rfl TI.gAs TI.FAs.kp TI.bAs .nil pass0 (pa_cons (pv 0) (pa_cons (pv 2) pa_nil))))))))
          (pss_one (ps_raise rfl (takes_of rfl rfl rfl rfl) (pmk_oex TH.O TH.iC TH.tI GI hr TH.b .nil pass0 rfl TH.gC (pa_cons pe_str (pa_cons (pv 2) pa_nil))))) pss_nil)))), ?_⟩
    refine ⟨_, rfl, _, _, _, _, _, rfl, .ty "tuple", tyx hd, kit_ty (kit_tup d), _, rfl, ?_⟩
    cases hd with
    | str x => exact iteT (raise_ih (k2 0 rfl))
    | non => exact iteT (raise_ih (k2 0 rfl))
    | bl b => exact iteT (raise_ih (k2 0 rfl))
    | int i => exact iteT (raise_ih (k2 0 rfl))
    | lst hs ha => exact iteT (raise_ih (k2 0 rfl))
    | @tup a xs ds hs ha =>
      have hl := dpAll_len ha
      have ec : chkCareful (.tuple ds) n = bad1 (fun i x => !below x n || !ascI ds i) 0 ds := rfl
      rw [ec] at k1 k2
      refine iteF ⟨_, rfl, a, xs, rfl, hs, for_it walk_enumT
        (fun i σ H' => ∃ v1 v2 : Option V, σ = [some (.ref a), some (.int n), v1, v2] ∧ Same H H' ∧ bad1 (fun i x => !below x n || !ascI ds i) 0 ds = bad1 (fun i x => !below x n || !ascI ds i) i (ds.drop i) ∧ ∀ j d, j < i → ds[j]? = some d → below d n = true)
        ⟨none, none, rfl, Same.refl H, rfl, fun j d hj => absurd hj (Nat.not_lt_zero _)⟩ (fun i σ H' _ ⟨_, _, _, e, _⟩ => sSqT e hs) ?_ ?_⟩
      · rintro i y σ H1 H2 hi ⟨v1, v2, rfl, s1, eb, hall⟩ ⟨Tp, y1, y2, rfl, hTp, rfl, e1, e2⟩
        cases e1
        obtain ⟨dx, edx, hdx⟩ := dpAll_get ha e2
        have s2 : Same H (upd H1 Tp (.tup [.int (i : Nat), y2])) := s1.trans (same_upd hTp)
        have st := bad1_step (p := fun i x => !below x n || !ascI ds i) edx
        refine ⟨Tp, _, rfl, SqT.of upd_same, rfl, _, _, rfl, _, _, rfl, rfl, ?_⟩
        refine ⟨_, rfl, _, rfl, y2, dx, n, rfl, dpSame s2 _ _ hdx, _, rfl, ?_⟩
        cases c : below dx n with
        | false =>
          rw [c] at st
          refine iteT (iteT ⟨_, rfl, raise_ih (Raised.mono (k2 i ?_) s2)⟩)
          rw [eb, st]; rfl
        | true =>
          rw [c] at st
          have st' : bad1 (fun i x => !below x n || !ascI ds i) i (ds.drop i) = if (!ascI ds i) = true then some i else bad1 (fun i x => !below x n || !ascI ds i) (i + 1) (ds.drop (i + 1)) := st
          refine iteF ⟨_, rfl, _, rfl, a, xs, i, ascI ds i, rfl, sSqT s2 hs, hi, fun e0 => by rw [e0]; rfl, fun j ej => ?_, _, rfl, ?_⟩
          · subst ej
            obtain ⟨x, ex⟩ : ∃ x, xs[j]? = some x := ⟨xs[j]'(by omega), List.getElem?_eq_getElem _⟩
            obtain ⟨dj, edj, hdj⟩ := dpAll_get ha ex
            obtain ⟨m1, rfl, _, _⟩ := below_int (hall j dj (Nat.lt_succ_self _) edj)
            obtain ⟨m2, rfl, _, _⟩ := below_int c
            cases hdj
            cases hdx
            refine ⟨_, _, ex, e2, .inl ⟨m1, m2, rfl, rfl, ?_⟩⟩
            show decide (intOf (ds.getD j .none) < intOf (ds.getD (j + 1) .none)) = decide (m1 < m2)
            rw [getD_of edj, getD_of edx]; rfl
          · cases c2 : ascI ds i with
            | true =>
              rw [c2] at st'
              refine iteF ⟨_, _, rfl, s2, ?_, fun j d hj ej => ?_⟩
              · rw [eb, st']; rfl
              · by_cases e : j = i
                · subst e; rw [edx] at ej; cases ej; exact c
                · exact hall j d (by omega) ej
            | false =>
              rw [c2] at st'
              refine iteT ⟨_, rfl, raise_ih (Raised.mono (k2 i ?_) s2)⟩
              rw [eb, st']; rfl
      · rintro σ H1 ⟨v1, v2, rfl, s1, eb, _⟩
        refine k1 ?_ H1 s1
        rw [eb, hl]
        exact bad1_end
theorem scChkRem : FnScope ["reminders", "period", "persons", "index", "reminder"] ["reminders", "period", "persons"] (defScope sChkRem) := ⟨rfl, rfl, rfl, by decide +kernel, rfl, by decide +kernel, by decide +kernel⟩
theorem ok_chkrem {f : Addr} {fd : FuncData} (F : Fun K "check_reminders" "check_reminders" sChkRem f fd) (T : TxtA mg) (TF : TxtF K mg fII fIB fHO fdII fdIB fdHO) (TI : TxtI K mg fIT fIR fAs fdIT fdIR fdAs) (TH : TxtIH K mg C fI fdI) :
    FnOk P w K mg base (L2.CX P w) 4 f fd ["reminders", "period", "persons"] (spChkRem K C) := by
  have GR : FnOk P w K mg base CX0 3 fIR fdIR ["reminder", "period", "persons"] (spIsRem K) := ok_isrem TI.FIR T TF
  have GA : FnOk P w K mg base CX0 1 fAs fdAs ["items", "index"] (spAsc K) := ok_asc TI.FAs
  have GI : FnOk P w K mg base CX0 1 fI fdI ["self", "part", "index"] (spIHInit C) := ok_ihinit TH
  obtain ⟨tk, ek⟩ := TI.rems
  refine F.okX scChkRem (fun vs H Q E h => ?_) (fun cdv A outer s H vs Q E hr h => ?_)
  · obtain ⟨v, d, per, n, rfl, _⟩ := h
    rfl
  · obtain ⟨v, d, per, n, rfl, hd, k1, k2⟩ := h
    have hr1 : Room 1 (A.deeper (envOfC (Str.ofString "check_reminders") (defScope sChkRem) s.heap.objs.size f cdv)) := hr.mono (by decide)
    have hr2 : Room 2 (A.deeper (envOfC (Str.ofString "check_reminders") (defScope sChkRem) s.heap.objs.size f cdv)) := hr.mono (by decide)
    refine ⟨_, pss_cons (ps_if (pt_not (pt_val (pe_callB call_isi (by rfl) TF.isinstance (by decide +kernel) (pa_cons (pv 0) (pa_cons (pe_bltn (v := .ty "tuple") (by rfl) TF.tuple (by decide +kernel) rfl) pa_nil)))))
        (pss_one (ps_raise rfl (takes_of rfl rfl rfl rfl) (pmk_oex TH.O TH.iC TH.tI GI hr2 TH.b .nil pass0 rfl TH.gC (pa_cons pe_str (pa_cons pe_int pa_nil))))) pss_nil)
      (pss_one (ps_for (passes_of rfl) rfl (pi_enumT (by rfl) TI.enumerate (pa_cons (pv 0) pa_nil)) (pg_tup rfl (pgs_cons (pg_name (i := 3) scChkRem.nd rfl (.inl rfl)) (pgs_cons (pg_name (i := 4) scChkRem.nd rfl (.inl rfl)) pgs_nil)))
        (pss_cons (ps_if (PW.pt (pw_or (pt_cmpR op_eq (pv 3) (pe_glob (v := .int 10) rfl ek ⟨_, rfl⟩) (nomark _)) (pw_or1 (pt_not (pt_val (pe_call GR hr rfl TI.gIR TI.FIR.kp TI.bIR .nil pass0 (pa_cons (pv 4) (pa_cons (pv 1) (pa_cons (pv 2) pa_nil)))))))))
          (pss_one (ps_raise rfl (takes_of rfl rfl rfl rfl) (pmk_oex TH.O TH.iC TH.tI GI hr2 TH.b .nil pass0 rfl TH.gC (pa_cons pe_str (pa_cons (pv 3) pa_nil))))) pss_nil)
        (pss_one (ps_if (pt_not (pt_val (pe_call GA hr1 rfl TI.gAs TI.FAs.kp TI.bAs .nil pass0 (pa_cons (pv 0) (pa_cons (pv 3) pa_nil)))))
          (pss_one (ps_raise rfl (takes_of rfl rfl rfl rfl) (pmk_oex TH.O TH.iC TH.tI GI hr2 TH.b .nil pass0 rfl TH.gC (pa_cons pe_str (pa_cons (pv 3) pa_nil))))) pss_nil))))), ?_⟩
    refine ⟨_, rfl, _, _, _, _, _, rfl, .ty "tuple", tyx hd, kit_ty (kit_tup d), _, rfl, ?_⟩
    cases hd with
    | str x => exact iteT (raise_ih (k2 0 rfl))
    | non => exact iteT (raise_ih (k2 0 rfl))
    | bl b => exact iteT (raise_ih (k2 0 rfl))
    | int i => exact iteT (raise_ih (k2 0 rfl))
    | lst hs ha => exact iteT (raise_ih (k2 0 rfl))
    | @tup a xs ds hs ha =>
      have hl := dpAll_len ha
      have ec : chkRem (.tuple ds) per n = bad1 (fun i x => i == 10 || !isRemD x per n || !ascP ds i) 0 ds := rfl
      rw [ec] at k1 k2
      refine iteF ⟨_, rfl, a, xs, rfl, hs, for_it walk_enumT
        (fun i σ H' => ∃ v1 v2 : Option V, σ = [some (.ref a), some (.int per), some (.int n), v1, v2] ∧ Same H H' ∧ bad1 (fun i x => i == 10 || !isRemD x per n || !ascP ds i) 0 ds = bad1 (fun i x => i == 10 || !isRemD x per n || !ascP ds i) i (ds.drop i) ∧ ∀ j d, j < i → ds[j]? = some d → isRemD d per n = true)
        ⟨none, none, rfl, Same.refl H, rfl, fun j d hj => absurd hj (Nat.not_lt_zero _)⟩ (fun i σ H' _ ⟨_, _, _, e, _⟩ => sSqT e hs) ?_ ?_⟩
      · rintro i y σ H1 H2 hi ⟨v1, v2, rfl, s1, eb, hall⟩ ⟨Tp, y1, y2, rfl, hTp, rfl, e1, e2⟩
        cases e1
        obtain ⟨dx, edx, hdx⟩ := dpAll_get ha e2
        have s2 : Same H (upd H1 Tp (.tup [.int (i : Nat), y2])) := s1.trans (same_upd hTp)
        have st := bad1_step (p := fun i x => i == 10 || !isRemD x per n || !ascP ds i) edx
        refine ⟨Tp, _, rfl, SqT.of upd_same, rfl, _, _, rfl, _, _, rfl, rfl, ?_⟩
        refine ⟨_, rfl, rfl, _, rfl, ?_⟩
        by_cases c6 : i = 10
        · have c6' : decide (V.int ((i : Nat) : Int) = V.int 10) = true := decide_eq_true (by rw [c6]; rfl)
          rw [c6']
          refine iteT (iteT ⟨_, rfl, raise_ih (Raised.mono (k2 i ?_) s2)⟩)
          rw [eb, st, c6]; rfl
        · have c6' : decide (V.int ((i : Nat) : Int) = V.int 10) = false := decide_eq_false fun q => c6 (by have := V.int.inj q; omega)
          rw [c6']
          have c6b : (i == 10) = false := by simpa using c6
          rw [c6b, Bool.false_or] at st
          refine iteF ⟨_, rfl, _, rfl, _, rfl, y2, dx, per, n, rfl, dpSame s2 _ _ hdx, _, rfl, ?_⟩
          cases c : isRemD dx per n with
          | false =>
            rw [c] at st
            refine iteT ⟨_, rfl, raise_ih (Raised.mono (k2 i ?_) s2)⟩
            rw [eb, st]; rfl
          | true =>
            rw [c] at st
            have st' : bad1 (fun i x => i == 10 || !isRemD x per n || !ascP ds i) i (ds.drop i) = if (!ascP ds i) = true then some i else bad1 (fun i x => i == 10 || !isRemD x per n || !ascP ds i) (i + 1) (ds.drop (i + 1)) := st
            refine iteF ⟨_, rfl, _, rfl, a, xs, i, ascP ds i, rfl, sSqT s2 hs, hi, fun e0 => by rw [e0]; rfl, fun j ej => ?_, _, rfl, ?_⟩
            · subst ej
              obtain ⟨x, ex⟩ : ∃ x, xs[j]? = some x := ⟨xs[j]'(by omega), List.getElem?_eq_getElem _⟩
              obtain ⟨dj, edj, hdj⟩ := dpAll_get ha ex
              obtain ⟨m1, m2, rfl, _⟩ := isRem_pr (hall j dj (Nat.lt_succ_self _) edj)
              obtain ⟨m3, m4, rfl, _⟩ := isRem_pr c
              cases hdj with
              | tup h1 h2 =>
                cases hdx with
                | tup h3 h4 =>
                  cases h2 with
                  | cons p1 p2 =>
                    cases p2 with
                    | cons p2 p3 =>
                      cases p3
                      cases p1
                      cases p2
                      cases h4 with
                      | cons q1 q2 =>
                        cases q2 with
                        | cons q2 q3 =>
                          cases q3
                          cases q1
                          cases q2
                          refine ⟨_, _, ex, e2, .inr ⟨_, _, [m1, m2], [m3, m4], rfl, rfl, sSqT s2 h1, sSqT s2 h3, ?_⟩⟩
                          show HT.lexLt [(prOf (ds.getD j .none)).1, (prOf (ds.getD j .none)).2] [(prOf (ds.getD (j + 1) .none)).1, (prOf (ds.getD (j + 1) .none)).2] = _
                          rw [getD_of edj, getD_of edx]; rfl
            · cases c2 : ascP ds i with
              | true =>
                rw [c2] at st'
                refine iteF ⟨_, _, rfl, s2, ?_, fun j d hj ej => ?_⟩
                · rw [eb, st']; rfl
                · by_cases e : j = i
                  · subst e; rw [edx] at ej; cases ej; exact c
                  · exact hall j d (by omega) ej
              | false =>
                rw [c2] at st'
                refine iteT ⟨_, rfl, raise_ih (Raised.mono (k2 i ?_) s2)⟩
                rw [eb, st']; rfl
      · rintro σ H1 ⟨v1, v2, rfl, s1, eb, _⟩
        refine k1 ?_ H1 s1
        rw [eb, hl]
        exact bad1_end
end
end Dk

set_option Elab.async false
set_option linter.all false
set_option maxRecDepth 100000
set_option maxHeartbeats 1000000
namespace Dk
open PySem PySem.Spec PyProof.Rows L2 TL
/-! ### the house -/
theorem isTab_of {d : PyData} (h : isTabD d = true) : ∃ t, d = .str t ∧ IsTab t := by
  cases d with
  | str t =>
    have h' : (decide ((t.length : Int) ∈ tabLens) && only t hoS) = true := h
    rw [Bool.and_eq_true] at h'
    refine ⟨t, rfl, ?_, fun c hc => ?_⟩
    · have h1 := of_decide_eq_true h'.1
      rw [len_tl t] at h1
      simp only [tabLens, List.mem_cons, List.not_mem_nil, or_false] at h1 ⊢
      omega
    · have h2 := List.all_eq_true.mp h'.2 c hc
      have h3 := of_decide_eq_true h2
      have e : tl hoS = [104, 111] := by decide +kernel
      rw [e] at h3
      simpa using h3
  | none => cases h
  | bool _ => cases h
  | int _ => cases h
  | list _ => cases h
  | tuple _ => cases h
  | dict _ => cases h
theorem isTab_is {t : Str} (h : IsTab t) : isTabD (.str t) = true := by
  show (decide ((t.length : Int) ∈ tabLens) && only t hoS) = true
  rw [Bool.and_eq_true]
  refine ⟨decide_eq_true ?_, List.all_eq_true.mpr fun c hc => decide_eq_true ?_⟩
  · have h1 := h.len
    rw [len_tl t]
    simp only [tabLens, List.mem_cons, List.not_mem_nil, or_false] at h1 ⊢
    omega
  · have e : tl hoS = [104, 111] := by decide +kernel
    rw [e]
    simpa using h.ho c hc
theorem bad1_none {p : Nat → PyData → Bool} : ∀ {ds : List PyData} {i : Nat}, bad1 p i ds = none ↔ ∀ j d, ds[j]? = some d → p (i + j) d = false
  | [], i => by simp [bad1]
  | d :: ds, i => by
    unfold bad1
    constructor
    · intro h j x hx
      split at h
      · cases h
      · rename_i c
        cases j with
        | zero => simp at hx; subst hx; simpa using c
        | succ j =>
          have := (bad1_none (ds := ds) (i := i + 1)).mp h j x (by simpa using hx)
          rw [show i + (j + 1) = i + 1 + j by omega]; exact this
    · intro h
      have h0 := h 0 d rfl
      rw [Nat.add_zero] at h0
      rw [h0]
      refine (bad1_none (ds := ds) (i := i + 1)).mpr fun j x hx => ?_
      have := h (j + 1) x (by simpa using hx)
      rw [show i + 1 + j = i + (j + 1) by omega]; exact this
theorem strs_of : ∀ {ds : List PyData}, (∀ d ∈ ds, isTabD d = true) → ∃ ts : List Str, ds = ts.map PyData.str ∧ Tabs ts
  | [], _ => ⟨[], rfl, fun t ht => by cases ht⟩
  | d :: ds, h => by
    obtain ⟨t, rfl, ht⟩ := isTab_of (h d (List.mem_cons_self ..))
    obtain ⟨ts, rfl, hts⟩ := strs_of (ds := ds) fun x hx => h x (List.mem_cons_of_mem _ hx)
    refine ⟨t :: ts, rfl, fun x hx => ?_⟩
    rcases List.mem_cons.mp hx with rfl | hx
    · exact ht
    · exact hts x hx
theorem tabs_of {d : PyData} (h : chkTabs d = none) : ∃ ts : List Str, d = .tuple (ts.map PyData.str) ∧ Tabs ts ∧ 1 ≤ ts.length ∧ ts.length ≤ 6 := by
  unfold chkTabs at h
  split at h
  · cases h
  · rename_i d0 ds
    have h' := bad1_none.mp h
    obtain ⟨ts, e, hT⟩ := strs_of (ds := d0 :: ds) fun x hx => by
      obtain ⟨j, hj⟩ := List.getElem?_of_mem hx
      have := h' j x hj
      simp only [Bool.or_eq_false_iff, Bool.not_eq_false'] at this
      exact this.2
    have hl : (d0 :: ds).length = ts.length := by rw [e, List.length_map]
    refine ⟨ts, by rw [e], hT, by rw [← hl]; simp, ?_⟩
    rw [← hl]
    rcases Nat.lt_or_ge 6 (d0 :: ds).length with c | c
    · have hx : (d0 :: ds)[6]? = some ((d0 :: ds)[6]'c) := List.getElem?_eq_getElem c
      have := h' 6 _ hx
      simp at this
    · exact c
  · cases h
theorem tabs_is {ts : List Str} (hT : Tabs ts) (h1 : 1 ≤ ts.length) (h6 : ts.length ≤ 6) : chkTabs (.tuple (ts.map PyData.str)) = none := by
  cases ts with
  | nil => simp at h1
  | cons t ts =>
    show bad1 _ 0 _ = none
    refine bad1_none.mpr fun j d hd => ?_
    have hd' : ((t :: ts).map PyData.str)[j]? = some d := hd
    rw [List.getElem?_map] at hd'
    cases e : (t :: ts)[j]? with
    | none => rw [e] at hd'; cases hd'
    | some x =>
      rw [e] at hd'
      have ed : PyData.str x = d := Option.some.inj hd'
      subst ed
      have hj : j < (t :: ts).length := (List.getElem?_eq_some_iff.mp e).1
      rw [isTab_is (hT x (List.mem_of_getElem? e))]
      have : (0 + j == 6) = false := by simp; omega
      rw [this]; rfl
def lenD : PyData → Nat
  | .tuple ds => ds.length
  | _ => 0
def strOf : PyData → Str
  | .str t => t
  | _ => Str.empty
def perD : PyData → Nat
  | .tuple ds => per (ds.map strOf)
  | _ => 1
/-- the first invalid part of a house -/
def chkHouse (dT dK dC dR : PyData) : Option (Str × Nat) :=
  match chkTabs dT with
  | some i => some ("tables", i)
  | none => match chkKeys dK with
    | some i => some ("keys", i)
    | none => match chkCareful dC (lenD dT : Int) with
      | some i => some ("careful", i)
      | none => match chkRem dR (perD dT : Int) (lenD dT : Int) with
        | some i => some ("reminders", i)
        | none => none
end Dk

set_option Elab.async false
set_option linter.all false
set_option maxRecDepth 100000
set_option maxHeartbeats 1000000
namespace Dk
open PySem PySem.Spec PyProof.Rows L2 TL
abbrev hFields (vT vK vC vR : V) : List (Str × V) := putF "reminders" vR (putF "careful" vC (putF "key_count" vK (putF "tables" vT [])))
theorem hf_len (vT vK vC vR : V) : (hFields vT vK vC vR).length = 4 := by rfl
structure TxtL (K : PySem.W.Frag) (mg : Str → Option Value) (C fP fT fK fC fR : Addr) (fdP fdT fdK fdC fdR : FuncData) : Prop where
  cl : Cls K C
  nT : NoAttr K C "tables"
  nK : NoAttr K C "key_count"
  nC : NoAttr K C "careful"
  nR : NoAttr K C "reminders"
  gP : mg "common_period" = some (.ref fP)
  FP : Fun K "common_period" "common_period" sPeriod fP fdP
  bP : Binds K fdP ["tables"] []
  gT : mg "check_tables" = some (.ref fT)
  FT : Fun K "check_tables" "check_tables" sChkTables fT fdT
  bT : Binds K fdT ["tables"] []
  gK : mg "check_keys" = some (.ref fK)
  FK : Fun K "check_keys" "check_keys" sChkKeys fK fdK
  bK : Binds K fdK ["keys"] []
  gCa : mg "check_careful" = some (.ref fC)
  FC : Fun K "check_careful" "check_careful" sChkCareful fC fdC
  bC : Binds K fdC ["careful", "persons"] []
  gR : mg "check_reminders" = some (.ref fR)
  FR : Fun K "check_reminders" "check_reminders" sChkRem fR fdR
  bR : Binds K fdR ["reminders", "period", "persons"] []
def spInit (K : PySem.W.Frag) (C CI : Addr) : Sp := fun vs H Q E => ∃ (p dx : Addr) (vT vK vC vR : V) (dT dK dC dR : PyData), vs = [.ref p, vT, vK, vC, vR] ∧ Dp K H vT dT ∧ Dp K H vK dK ∧ Dp K H vC dC ∧ Dp K H vR dR ∧
  (∀ ds, dT = .tuple ds → ∀ x ∈ ds, SmallS x) ∧ H p = some (.ins C dx []) ∧
  (chkHouse dT dK dC dR = none → ∀ H', Kp p H H' → H' p = some (.ins C dx (hFields vT vK vC vR)) → Q .non H') ∧
  (∀ part i, chkHouse dT dK dC dR = some (part, i) → Raised CI E H part (i : Int))
section
variable {P : Program} {w : World} {K : PySem.W.Frag} {mg : Str → Option Value} {base : Heap} {C fI : Addr} {fdI : FuncData} {fII fIB fHO : Addr} {fdII fdIB fdHO : FuncData} {fIT fIR fAs : Addr} {fdIT fdIR fdAs : FuncData}
  {CH fP fT fK fC fR : Addr} {fdP fdT fdK fdC fdR : FuncData}
theorem scInit : FnScope ["self", "tables", "keys", "careful", "reminders"] ["self", "tables", "keys", "careful", "reminders"] (defScope sInit) := ⟨rfl, rfl, rfl, by decide +kernel, rfl, by decide +kernel, by decide +kernel⟩
theorem strs_back {ts : List Str} : (ts.map PyData.str).map strOf = ts := by
  induction ts with
  | nil => rfl
  | cons t ts ih => rw [List.map_cons, List.map_cons, ih]; rfl
theorem dp_tabs {K : PySem.W.Frag} {H : Hp} {v : V} {ts : List Str} (h : Dp K H v (.tuple (ts.map PyData.str))) : ∃ a, v = .ref a ∧ SqT K H a (ts.map V.str) := by
  cases h with
  | @tup a xs ds hs ha =>
    refine ⟨a, rfl, ?_⟩
    have e : xs = ts.map V.str := by
      clear hs
      induction ts generalizing xs with
      | nil => cases ha; rfl
      | cons t ts ih =>
        cases ha with
        | cons h1 h2 =>
          cases h1
          rw [ih h2]; rfl
    rw [← e]; exact hs
theorem ok_init {f : Addr} {fd : FuncData} {dvs : List V} (F : FunD K "__init__" "House.__init__" (defArgs sInit) (defBody sInit) (defScope sInit) dvs [] f fd) (T : TxtA mg) (TC : TxtC mg) (TF : TxtF K mg fII fIB fHO fdII fdIB fdHO) (TI : TxtI K mg fIT fIR fAs fdIT fdIR fdAs) (TH : TxtIH K mg C fI fdI)
    (TL' : TxtL K mg CH fP fT fK fC fR fdP fdT fdK fdC fdR) :
    FnOk P w K mg base (L2.CX P w) 5 f fd ["self", "tables", "keys", "careful", "reminders"] (spInit K CH C) := by
  have GP : FnOk P w K mg base CX0 1 fP fdP ["tables"] (spPeriod K) := ok_period TL'.FP T TC
  have GT : FnOk P w K mg base (L2.CX P w) 3 fT fdT ["tables"] (spChkTabs K C) := ok_chktabs TL'.FT T TF TI TH
  have GK : FnOk P w K mg base (L2.CX P w) 3 fK fdK ["keys"] (spChkKeys K C) := ok_chkkeys TL'.FK TF TI TH
  have GC : FnOk P w K mg base (L2.CX P w) 3 fC fdC ["careful", "persons"] (spChkCareful K C) := ok_chkcareful TL'.FC T TF TI TH
  have GR : FnOk P w K mg base (L2.CX P w) 4 fR fdR ["reminders", "period", "persons"] (spChkRem K C) := ok_chkrem TL'.FR T TF TI TH
  refine F.ok scInit (fun vs H Q E h => ?_) (fun cdv A outer s H vs Q E hr h => ?_)
  · obtain ⟨p, dx, vT, vK, vC, vR, dT, dK, dC, dR, rfl, _⟩ := h
    rfl
  · obtain ⟨p, dx, vT, vK, vC, vR, dT, dK, dC, dR, rfl, hT, hK, hC, hR, hz, hp, k1, k2⟩ := h
    have hr3 : Room 3 (A.deeper (envOfC (Str.ofString "House.__init__") (defScope sInit) s.heap.objs.size f cdv)) := hr.mono (by decide)
    have hr1 : Room 1 (A.deeper (envOfC (Str.ofString "House.__init__") (defScope sInit) s.heap.objs.size f cdv)) := hr.mono (by decide)
    refine ⟨_, pss_cons (ps_expr (pe_call GT hr3 rfl TL'.gT TL'.FT.kp TL'.bT .nil (passes_call (takes_of rfl rfl rfl rfl) (fun _ _ _ _ h => h)) (pa_cons (pv 1) pa_nil)))
      (pss_cons (ps_expr (pe_call GK hr3 rfl TL'.gK TL'.FK.kp TL'.bK .nil (passes_call (takes_of rfl rfl rfl rfl) (fun _ _ _ _ h => h)) (pa_cons (pv 2) pa_nil)))
      (pss_cons (ps_expr (pe_call GC hr3 rfl TL'.gCa TL'.FC.kp TL'.bC .nil (passes_call (takes_of rfl rfl rfl rfl) (fun _ _ _ _ h => h)) (pa_cons (pv 3) (pa_cons (pe_callB call_len_seq (by rfl) T.len PySem.boot_len (pa_cons (pv 1) pa_nil)) pa_nil))))
      (pss_cons (ps_expr (pe_call GR hr rfl TL'.gR TL'.FR.kp TL'.bR .nil (passes_call (takes_of rfl rfl rfl rfl) (fun _ _ _ _ h => h)) (pa_cons (pv 4) (pa_cons (pe_call GP hr1 rfl TL'.gP TL'.FP.kp TL'.bP .nil pass0 (pa_cons (pv 1) pa_nil)) (pa_cons (pe_callB call_len_seq (by rfl) T.len PySem.boot_len (pa_cons (pv 1) pa_nil)) pa_nil)))))
      (pss_cons (ps_fld (pv 0) (pv 1) rfl) (pss_cons (ps_fld (pv 0) (pv 2) rfl) (pss_cons (ps_fld (pv 0) (pv 3) rfl) (pss_one (ps_fld (pv 0) (pv 4) rfl)))))))), ?_⟩
    refine ⟨_, rfl, vT, dT, rfl, hT, hz, fun cT H1 s1 => ?_, fun i c => k2 "tables" i (by unfold chkHouse; rw [c])⟩
    obtain ⟨ts, rfl, hTs, h1, h6⟩ := tabs_of cT
    obtain ⟨aT, rfl, hsT⟩ := dp_tabs hT
    refine ⟨_, rfl, vK, dK, rfl, dpSame s1 _ _ hK, fun cK => ?_, fun c => Raised.mono (k2 "keys" 0 (by unfold chkHouse; rw [cT]; dsimp only; rw [c])) s1⟩
    refine ⟨_, rfl, _, rfl, aT, _, rfl, .inr (sSqT s1 hsT), vC, dC, _, rfl, dpSame s1 _ _ hC, ?_⟩
    rw [show (((ts.map V.str).length : Nat) : Int) = (lenD (.tuple (ts.map PyData.str)) : Int) by show _ = (((ts.map PyData.str).length : Nat) : Int); rw [List.length_map, List.length_map]]
    refine ⟨fun cC H2 s2 => ?_, fun i c => Raised.mono (k2 "careful" i (by unfold chkHouse; rw [cT]; dsimp only; rw [cK]; dsimp only; rw [c])) s1⟩
    have s12 := s1.trans s2
    refine ⟨_, rfl, _, rfl, aT, ts, rfl, sSqT s12 hsT, hTs, _, rfl, aT, _, rfl, .inr (sSqT s12 hsT), vR, dR, _, _, rfl, dpSame s12 _ _ hR, ?_⟩
    rw [show (((ts.map V.str).length : Nat) : Int) = (lenD (.tuple (ts.map PyData.str)) : Int) by show _ = (((ts.map PyData.str).length : Nat) : Int); rw [List.length_map, List.length_map],
      show ((per ts : Nat) : Int) = (perD (.tuple (ts.map PyData.str)) : Int) by show _ = ((per ((ts.map PyData.str).map strOf) : Nat) : Int); rw [strs_back]]
    refine ⟨fun cR H3 s3 => ?_, fun i c => Raised.mono (k2 "reminders" i (by unfold chkHouse; rw [cT]; dsimp only; rw [cK]; dsimp only; rw [cC]; dsimp only; rw [c])) s12⟩
    have s123 := s12.trans s3
    have hp3 := s123 _ _ hp
    refine ⟨_, rfl, _, rfl, p, CH, dx, _, rfl, hp3, TL'.cl, TL'.nT, (by show 0 < 1000; decide), ?_⟩
    refine ⟨_, rfl, _, rfl, p, CH, dx, _, rfl, upd_same, TL'.cl, TL'.nK, (by show 1 < 1000; decide), ?_⟩
    refine ⟨_, rfl, _, rfl, p, CH, dx, _, rfl, upd_same, TL'.cl, TL'.nC, (by show 2 < 1000; decide), ?_⟩
    refine ⟨_, rfl, _, rfl, p, CH, dx, _, rfl, upd_same, TL'.cl, TL'.nR, (by show 3 < 1000; decide), ?_⟩
    refine k1 ?_ _ (fun b o nb eb => ?_) upd_same
    · unfold chkHouse; rw [cT]; dsimp only; rw [cK]; dsimp only; rw [cC]; dsimp only; rw [cR]
    · rw [upd_ne nb, upd_ne nb, upd_ne nb, upd_ne nb]; exact s123 _ _ eb
end
end Dk

set_option Elab.async false
set_option linter.all false
set_option maxRecDepth 100000
set_option maxHeartbeats 1000000
namespace Dk
open PySem PySem.Spec PyProof.Rows L2 TL
/-! ### words -/
theorem spl_bound (S : List Nat) : ∀ (k : Nat) (acc L : List Nat), ∀ p ∈ spl S k acc L, p.length ≤ acc.length + L.length
  | k, acc, [], p, h => by
    rw [spl_nil] at h
    rw [List.mem_singleton.mp h]; omega
  | 0, acc, c :: r, p, h => by
    unfold spl at h
    split at h
    · rcases List.mem_cons.mp h with rfl | h
      · rw [List.length_cons]; omega
      · have := spl_bound S _ [] r p h
        rw [List.length_cons]; simp at this; omega
    · have := spl_bound S 0 (acc ++ [c]) r p h
      rw [List.length_append, List.length_singleton] at this
      rw [List.length_cons]; omega
  | k + 1, acc, c :: r, p, h => by
    have := spl_bound S k acc r p h
    rw [List.length_cons]; omega
theorem spl_ne (S : List Nat) : ∀ (k : Nat) (acc L : List Nat), spl S k acc L ≠ []
  | k, acc, [] => by rw [spl_nil]; simp
  | 0, acc, c :: r => by
    unfold spl
    split
    · simp
    · exact spl_ne S 0 _ r
  | k + 1, acc, c :: r => spl_ne S k acc r
def colS : Str := Str.ofString ":"
def spS : Str := Str.ofString " "
def nlS : Str := Str.ofString "\n"
theorem tl_col : tl colS = [58] := by decide +kernel
theorem tl_sp : tl spS = [32] := by decide +kernel
theorem tl_nl : tl nlS = [10] := by decide +kernel
structure Sep (y : Str) : Prop where
  ex : ∃ c, tl y = [c]
  k : y.cps.all (· < 256) = true
  z : (y.length == 0) = false
theorem sepCol : Sep colS := ⟨⟨_, tl_col⟩, by decide +kernel, by decide +kernel⟩
theorem sepSp : Sep spS := ⟨⟨_, tl_sp⟩, by decide +kernel, by decide +kernel⟩
theorem sepNl : Sep nlS := ⟨⟨_, tl_nl⟩, by decide +kernel, by decide +kernel⟩
theorem split_bound {x y : Str} (hy : Sep y) : ∀ p ∈ Txt.split x y, p.length ≤ x.length := fun p h => by
  obtain ⟨c, ec⟩ := hy.ex
  have e := split_spl x y (by rw [ec]; simp) (kind_ok hy.k)
  have hm : tl p ∈ (Txt.split x y).map tl := List.mem_map.mpr ⟨p, h, rfl⟩
  rw [e] at hm
  have := spl_bound _ _ _ _ _ hm
  rw [len_tl p, len_tl x]
  simp at this
  simpa using this
theorem split_ne {x y : Str} (hy : Sep y) : Txt.split x y ≠ [] := fun h => by
  obtain ⟨c, ec⟩ := hy.ex
  have e := split_spl x y (by rw [ec]; simp) (kind_ok hy.k)
  rw [h] at e
  exact spl_ne _ _ _ _ e.symm
def digS : Str := Str.ofString "0123456789"
theorem tl_dig : tl digS = [48, 49, 50, 51, 52, 53, 54, 55, 56, 57] := by decide +kernel
def dig (c : Nat) : Bool := decide (c ∈ tl digS)
def isNW (x : Str) : Bool := match tl x with
  | [a] => dig a
  | [a, b] => dig a && dig b && decide (a ≠ 48)
  | _ => false
def isTW (x : Str) : Bool := !(tl x).isEmpty && only x hoS
def isRW (x : Str) : Bool := (Txt.split x colS).length == 2 && (Txt.split x colS).all isNW
def wTab : Str := Str.ofString "tables"
def wKey : Str := Str.ofString "keys"
def wCar : Str := Str.ofString "careful"
def wRem : Str := Str.ofString "remind"
def areArgs (x : Str) (ws : List Str) : Bool :=
  if x = wTab then ws.all isTW else if x = wRem then ws.all isRW else if x = wKey ∧ ws.length ≠ 1 then false else ws.all isNW
def spWord (g : Str → Bool) : Sp := fun vs H Q _ => ∃ x : Str, vs = [.str x] ∧ x.length ≤ 100000 ∧ ∀ H', Same H H' → Q (.bl (g x)) H'
def spAreArgs (K : PySem.W.Frag) : Sp := fun vs H Q _ => ∃ (x : Str) (a : Addr) (ws : List Str), vs = [.str x, .ref a] ∧ SqL K H a (ws.map V.str) ∧ ws.length ≤ 100000 ∧ (∀ y ∈ ws, y.length ≤ 100000) ∧ ∀ H', Same H H' → Q (.bl (areArgs x ws)) H'
structure TxtM (K : PySem.W.Frag) (mg : Str → Option Value) (fTW fNW fRW : Addr) (fdTW fdNW fdRW : FuncData) : Prop where
  digits : ∃ t, mg "DIGITS" = some (.str digS t)
  gTW : mg "is_table_word" = some (.ref fTW)
  FTW : Fun K "is_table_word" "is_table_word" sIsTW fTW fdTW
  bTW : Binds K fdTW ["word"] []
  gNW : mg "is_number_word" = some (.ref fNW)
  FNW : Fun K "is_number_word" "is_number_word" sIsNW fNW fdNW
  bNW : Binds K fdNW ["word"] []
  gRW : mg "is_reminder_word" = some (.ref fRW)
  FRW : Fun K "is_reminder_word" "is_reminder_word" sIsRW fRW fdRW
  bRW : Binds K fdRW ["word"] []
theorem str_eq_iff {x y : Str} : x = y ↔ tl x = tl y := ⟨fun h => by rw [h], ext_tl⟩
section
variable {P : Program} {w : World} {K : PySem.W.Frag} {mg : Str → Option Value} {base : Heap} {fII fIB fHO : Addr} {fdII fdIB fdHO : FuncData} {fTW fNW fRW : Addr} {fdTW fdNW fdRW : FuncData}
theorem scIsTW : FnScope ["word"] ["word"] (defScope sIsTW) := ⟨rfl, rfl, rfl, by decide +kernel, rfl, by decide +kernel, by decide +kernel⟩
theorem ok_istw (TF : TxtF K mg fII fIB fHO fdII fdIB fdHO) (TM : TxtM K mg fTW fNW fRW fdTW fdNW fdRW) : FnOk P w K mg base CX0 2 fTW fdTW ["word"] (spWord isTW) := by
  have GH : FnOk P w K mg base CX0 1 fHO fdHO ["word", "characters"] spHasOnly := ok_hasonly TF
  obtain ⟨tL, eL⟩ := TF.letters
  refine TM.FTW.ok scIsTW (fun vs H Q E h => ?_) (fun cdv A outer s H vs Q E hr h => ?_)
  · obtain ⟨x, rfl, _⟩ := h
    rfl
  · obtain ⟨x, rfl, hz, k⟩ := h
    refine ⟨_, pss_one (ps_ret (pe_and (pe_cmpR op_ne (pv 0) pe_str (nomark _)) (pe_one (pe_call GH hr rfl TF.gHO TF.FHO.kp TF.bHO .nil pass0 (pa_cons (pv 0) (pa_cons (pe_glob (v := .str hoS) rfl eL ⟨_, rfl⟩) pa_nil)))))), ?_⟩
    refine ⟨_, rfl, rfl, _, rfl, ?_⟩
    have e0 : tl (Str.ofString "") = [] := by decide +kernel
    cases e : tl x with
    | nil =>
      have ex : x = Str.ofString "" := ext_tl (by rw [e, e0])
      have c : (!decide (V.str x = V.str (Str.ofString ""))) = false := by rw [decide_eq_true (by rw [ex])]; rfl
      rw [c]
      refine iteF ?_
      have := k H (Same.refl H)
      have e2 : isTW x = false := by unfold isTW; rw [e]; rfl
      rw [e2] at this; exact this
    | cons a r =>
      have c : (!decide (V.str x = V.str (Str.ofString ""))) = true := by
        rw [decide_eq_false fun q => ?_]; rfl
        have := V.str.inj q
        rw [this, e0] at e; cases e
      rw [c]
      refine iteT ⟨_, rfl, x, hoS, rfl, hz, fun H' s' => ?_⟩
      have e2 : isTW x = only x hoS := by unfold isTW; rw [e]; rfl
      have := k H' s'
      rw [e2] at this; exact this
theorem scIsNW : FnScope ["word"] ["word"] (defScope sIsNW) := ⟨rfl, rfl, rfl, by decide +kernel, rfl, by decide +kernel, by decide +kernel⟩
theorem ok_isnw (T : TxtA mg) (TF : TxtF K mg fII fIB fHO fdII fdIB fdHO) (TM : TxtM K mg fTW fNW fRW fdTW fdNW fdRW) : FnOk P w K mg base CX0 2 fNW fdNW ["word"] (spWord isNW) := by
  have GH : FnOk P w K mg base CX0 1 fHO fdHO ["word", "characters"] spHasOnly := ok_hasonly TF
  obtain ⟨tD, eD⟩ := TM.digits
  refine TM.FNW.ok scIsNW (fun vs H Q E h => ?_) (fun cdv A outer s H vs Q E hr h => ?_)
  · obtain ⟨x, rfl, _⟩ := h
    rfl
  · obtain ⟨x, rfl, hz, k⟩ := h
    have hz' : x.length ≤ sizeLine := Nat.le_trans hz (by decide)
    refine ⟨_, pss_cons (ps_if (PW.pt (pw_or (pt_cmpR op_notIn_seq (pe_callB call_len_str (by rfl) T.len PySem.boot_len (pa_cons (pv 0) pa_nil)) (pe_tup (pa_cons pe_int (pa_cons pe_int pa_nil))) (by rfl))
        (pw_or1 (pt_not (pt_val (pe_call GH hr rfl TF.gHO TF.FHO.kp TF.bHO .nil pass0 (pa_cons (pv 0) (pa_cons (pe_glob (v := .str digS) rfl eD ⟨_, rfl⟩) pa_nil)))))))) (pss_one (ps_ret pe_bl)) pss_nil)
      (pss_one (ps_ret (pe_or (pe_cmpR op_eq (pe_callB call_len_str (by rfl) T.len PySem.boot_len (pa_cons (pv 0) pa_nil)) pe_int (nomark _)) (pe_one (pe_cmpR op_ne (pe_item_str (pv 0) pe_int (fun _ _ => rfl)) pe_str (nomark _)))))), ?_⟩
    refine ⟨_, rfl, _, rfl, hz', by show 2 ≤ sizeLine; decide, fun p hp => ?_⟩
    refine ⟨p, _, rfl, .inr (SqT.of upd_same), rfl, rfl, _, rfl, ?_⟩
    have ei : inV (V.int (x.length : Int)) [V.int 1, V.int 2] = decide ((x.length : Int) ∈ ([1, 2] : List Int)) := any_eqI [1, 2] _
    show (if (!inV (V.int (x.length : Int)) [V.int 1, V.int 2]) = true then _ else _)
    rw [ei]
    have sp := same_upd (o := .tup [V.int 1, V.int 2]) hp
    have hl := len_tl x
    by_cases c : (x.length : Int) ∈ ([1, 2] : List Int)
    · rw [decide_eq_true c]
      refine iteF ⟨_, rfl, x, digS, rfl, hz, fun H1 s1 => ⟨_, rfl, ?_⟩⟩
      have s2 := sp.trans s1
      simp only [List.mem_cons, List.not_mem_nil, or_false] at c
      have cases2 : (∃ a, tl x = [a]) ∨ ∃ a b, tl x = [a, b] := by
        rcases c with c | c
        · left
          have : (tl x).length = 1 := by omega
          match h : tl x, this with
          | [a], _ => exact ⟨a, rfl⟩
        · right
          have : (tl x).length = 2 := by omega
          match h : tl x, this with
          | [a, b], _ => exact ⟨a, b, rfl⟩
      rcases cases2 with ⟨a, ea⟩ | ⟨a, b, ea⟩
      · have eo : only x digS = dig a := by unfold only dig; rw [ea]; simp
        have en : isNW x = dig a := by unfold isNW; rw [ea]
        rw [eo]
        have k2 := k H1 s2
        rw [en] at k2
        cases cd : dig a with
        | false => rw [cd] at k2; exact iteT k2
        | true =>
          rw [cd] at k2
          refine iteF ⟨_, rfl, _, rfl, hz', rfl, _, rfl, ?_⟩
          have c1 : decide (V.int (x.length : Int) = V.int 1) = true := decide_eq_true (by rw [hl, ea]; rfl)
          rw [c1]
          exact iteT k2
      · have eo : only x digS = (dig a && dig b) := by unfold only dig; rw [ea]; simp
        have en : isNW x = (dig a && dig b && decide (a ≠ 48)) := by unfold isNW; rw [ea]
        rw [eo]
        have k2 := k H1 s2
        rw [en] at k2
        cases cd : dig a && dig b with
        | false => rw [cd] at k2; exact iteT k2
        | true =>
          rw [cd] at k2
          refine iteF ⟨_, rfl, _, rfl, hz', rfl, _, rfl, ?_⟩
          have c1 : decide (V.int (x.length : Int) = V.int 1) = false := decide_eq_false fun q => by
            have := V.int.inj q
            rw [hl, ea] at this
            cases this
          rw [c1]
          have e0 : x.cps[(0 : Int).toNat]? = some a := by
            have h1 : (tl x)[0]? = some a := by rw [ea]; rfl
            rw [← h1]; exact Array.getElem?_toList.symm
          refine iteF ⟨_, rfl, x, 0, a, rfl, rfl, by decide, by decide, by rw [hl, ea]; simp, e0, rfl, ?_⟩
          have c2 : (!decide (V.str (⟨#[a]⟩ : Str) = V.str (Str.ofString "0"))) = (true && decide (a ≠ 48)) := by
            have e48 : tl (Str.ofString "0") = [48] := by decide +kernel
            by_cases h : a = 48
            · subst h
              rw [decide_eq_true (congrArg V.str (ext_tl (by rw [e48])))]
              simp
            · have hn : ¬ V.str (⟨#[a]⟩ : Str) = V.str (Str.ofString "0") := fun q => by
                have h1 : tl (⟨#[a]⟩ : Str) = tl (Str.ofString "0") := congrArg tl (V.str.inj q)
                rw [e48] at h1
                exact h (List.cons.inj h1).1
              rw [decide_eq_false hn]
              simp [h]
          rw [c2]
          exact k2
    · rw [decide_eq_false c]
      refine iteT ?_
      have en : isNW x = false := by
        unfold isNW
        split
        · rename_i a ea
          exact absurd (by rw [hl, ea]; simp) c
        · rename_i a b ea
          exact absurd (by rw [hl, ea]; simp) c
        · rfl
      have := k _ sp
      rw [en] at this; exact this
end
end Dk

set_option Elab.async false
set_option linter.all false
set_option maxRecDepth 100000
set_option maxHeartbeats 1000000
namespace Dk
open PySem PySem.Spec PyProof.Rows L2 TL
theorem sum_len {l : List Str} {n : Nat} (h : ∀ p ∈ l, p.length ≤ n) : (l.map (·.length)).sum ≤ l.length * n := by
  induction l with
  | nil => simp
  | cons x l ih =>
    have h1 := h x (List.mem_cons_self ..)
    have h2 := ih fun p hp => h p (List.mem_cons_of_mem _ hp)
    rw [List.map_cons, List.sum_cons, List.length_cons, Nat.succ_mul]
    omega
section
variable {P : Program} {w : World} {K : PySem.W.Frag} {mg : Str → Option Value} {base : Heap} {fII fIB fHO : Addr} {fdII fdIB fdHO : FuncData} {fTW fNW fRW : Addr} {fdTW fdNW fdRW : FuncData}
theorem scIsRW : FnScope ["word", "parts", "part"] ["word"] (defScope sIsRW) := ⟨rfl, rfl, rfl, by decide +kernel, rfl, by decide +kernel, by decide +kernel⟩
/-- the reading of [f(part) for part in l], f telling g of a text: the list of g's -/
theorem comp_all {l : Addr} {ws : List Str} {H1 : Hp} {D : Addr} {g : Str → Bool} {σ : L2.St} {i : Nat} {vs : List Nat} {te : TE} {Qd : Hp → Prop} (hD : H1 D = none) (hl : SqL K H1 l (ws.map V.str)) (hz : ws.length ≤ 200000)
    (hte : ∀ (x : Str) (H2 : Hp) (Q : VK), x ∈ ws → (∀ H3, Same H2 H3 → Q (.bl (g x)) H3) → te ((wipe σ vs).set i (some (.str x))) H2 Q) (hw : ∀ x : V, wipe ((wipe σ vs).set i (some x)) vs = wipe σ vs)
    (hd : ∀ H2, Same H1 H2 → H2 D = some (.lst ((ws.map g).map V.bl)) → Qd H2) :
    ∃ W : Nat → Nat → Hp → Prop, (∃ m, W 0 m (upd H1 D (.lst []))) ∧ ∀ i' m H, W i' m H →
      ((Itl K l).stop i' H ∧ Qd H) ∨ ((Itl K l).go i' H ∧ ∃ Nx : Hp → Prop, (∀ H', Nx H' → ∃ m', m' < m ∧ W (i' + 1) m' H') ∧ ∀ x H', (Itl K l).yld i' H x H' → gName i x (wipe σ vs) H' fun σ2 H2 => wipe σ2 vs = wipe σ vs ∧ tYes σ2 H2 fun b H3 =>
        if b = true then te σ2 H3 fun y H4 => ∃ acc, H4 D = some (.lst acc) ∧ acc.length < sizeLine ∧ Nx (upd H4 D (.lst (acc ++ [y]))) else Nx H3) := by
  refine lc_list (K := K) (a := l) (xs := ws.map V.str) (g := gName i) (tt := tYes) (te := te) (vs := vs) (σ := σ) (Qd := Qd)
    (fun i H3 => Same H1 H3 ∧ H3 D = some (.lst (((ws.take i).map g).map V.bl)))
    ⟨same_upd hD, upd_same⟩ (fun i H3 _ ⟨e, _⟩ => e.seq hl) ?_ ?_
  · rintro j y H3 hi ⟨s3, eD⟩
    obtain ⟨t, ht, rfl⟩ := map_at hi
    have hj : j < ws.length := (List.getElem?_eq_some_iff.mp ht).1
    refine ⟨hw _, hte t H3 _ (List.mem_of_getElem? ht) fun H4 s4 => ⟨_, s4 _ _ eD, ?_, fun b o eb => ?_, ?_⟩⟩
    · rw [List.length_map, List.length_map, List.length_take]
      exact Nat.lt_of_le_of_lt (Nat.le_trans (Nat.min_le_left _ _) (by omega : j ≤ 200000)) (by decide)
    · rw [upd_ne (ne_of_none eb hD)]; exact s4 _ _ (s3 _ _ eb)
    · rw [upd_same, take_more ht, List.map_append, List.map_append]; rfl
  · rintro H3 ⟨s3, eD⟩
    rw [List.length_map, List.take_length] at eD
    exact hd H3 s3 eD
theorem all_map (ws : List Str) (g : Str → Bool) : (ws.map g).all id = ws.all g := by rw [List.all_map]; rfl
theorem ok_isrw (T : TxtA mg) (TF : TxtF K mg fII fIB fHO fdII fdIB fdHO) (TM : TxtM K mg fTW fNW fRW fdTW fdNW fdRW) : FnOk P w K mg base CX0 3 fRW fdRW ["word"] (spWord isRW) := by
  have GN : FnOk P w K mg base CX0 2 fNW fdNW ["word"] (spWord isNW) := ok_isnw T TF TM
  refine TM.FRW.ok scIsRW (fun vs H Q E h => ?_) (fun cdv A outer s H vs Q E hr h => ?_)
  · obtain ⟨x, rfl, _⟩ := h
    rfl
  · obtain ⟨x, rfl, hz, k⟩ := h
    refine ⟨_, pss_cons (ps_set (i := 1) scIsRW.nd rfl (.inl rfl) (pe_split (pv 0) pe_str))
      (pss_one (ps_ret (pe_and (pe_cmpR op_eq (pe_callB call_len_seq (by rfl) T.len PySem.boot_len (pa_cons (pv 1) pa_nil)) pe_int (nomark _)) (pe_one
        (pe_callB (cr_all rfl) (by rfl) TF.all (by decide +kernel) (pa_cons (pe_lc (own := [("part", 2)]) (g := gName 2) (by rfl) scIsRW.nd (pi_list (pv 1)) (blkOk_by (N := ["word", "parts", "part"]) (sc := defScope sIsRW) (by decide +kernel))
          (fun _ _ _ _ _ => pg_name (i := 2) scIsRW.nd rfl (Or.inl rfl)) (fun _ _ _ _ _ => pts_nil)
          (fun _ _ _ _ _ => pe_call GN hr rfl TM.gNW TM.FNW.kp TM.bNW .nil pass0 (pa_cons (pv 2) pa_nil))) pa_nil)))))), ?_⟩
    refine ⟨_, rfl, ⟨_, rfl⟩, x, colS, rfl, rfl, sepCol.z, Nat.le_trans (by omega : x.length + 2 ≤ 100002) (by decide), fun l hl => ?_⟩
    have s1 := same_upd (o := .lst ((Txt.split x colS).map V.str)) hl
    have hb := split_bound (x := x) sepCol
    have hn := split_le x colS
    refine ⟨_, rfl, l, _, rfl, .inl (SqL.of upd_same), rfl, _, rfl, ?_⟩
    rw [List.length_map]
    have ed : decide (V.int (((Txt.split x colS).length : Nat) : Int) = V.int 2) = ((Txt.split x colS).length == 2) := by
      by_cases c : (Txt.split x colS).length = 2
      · rw [c]; rfl
      · rw [decide_eq_false fun q => c (by have := V.int.inj q; omega)]
        exact (by simpa using c : ((Txt.split x colS).length == 2) = false).symm
    rw [ed]
    have er : isRW x = ((Txt.split x colS).length == 2 && (Txt.split x colS).all isNW) := rfl
    cases c : (Txt.split x colS).length == 2 with
    | false =>
      rw [c] at er
      have := k _ s1
      rw [er] at this
      exact iteF this
    | true =>
      rw [c] at er
      refine iteT ⟨_, rfl, l, rfl, ⟨_, SqL.of upd_same⟩, fun D hD => ?_⟩
      refine comp_all (i := 2) (vs := [2]) (g := isNW) hD (SqL.of upd_same) (by omega) (fun y H2 Q2 hm hq => ?_) (fun _ => rfl) (fun H2 s2 eD => ?_)
      · exact ⟨_, rfl, y, rfl, Nat.le_trans (hb y hm) hz, hq⟩
      · refine ⟨D, _, rfl, SqL.of eD, ?_⟩
        rw [all_map]
        have := k _ (s1.trans s2)
        rw [er] at this
        exact this
theorem scAreArgs : FnScope ["word", "rest", "part"] ["word", "rest"] (defScope sAreArgs) := ⟨rfl, rfl, rfl, by decide +kernel, rfl, by decide +kernel, by decide +kernel⟩
theorem ok_areargs {f : Addr} {fd : FuncData} (F : Fun K "are_arguments" "are_arguments" sAreArgs f fd) (T : TxtA mg) (TF : TxtF K mg fII fIB fHO fdII fdIB fdHO) (TM : TxtM K mg fTW fNW fRW fdTW fdNW fdRW) : FnOk P w K mg base CX0 4 f fd ["word", "rest"] (spAreArgs K) := by
  have GN : FnOk P w K mg base CX0 2 fNW fdNW ["word"] (spWord isNW) := ok_isnw T TF TM
  have GT : FnOk P w K mg base CX0 2 fTW fdTW ["word"] (spWord isTW) := ok_istw TF TM
  have GR : FnOk P w K mg base CX0 3 fRW fdRW ["word"] (spWord isRW) := ok_isrw T TF TM
  refine F.ok scAreArgs (fun vs H Q E h => ?_) (fun cdv A outer s H vs Q E hr h => ?_)
  · obtain ⟨x, a, ws, rfl, _⟩ := h
    rfl
  · obtain ⟨x, a, ws, rfl, hS, hz, hw, k⟩ := h
    have hr2 : Room 2 (A.deeper (envOfC (Str.ofString "are_arguments") (defScope sAreArgs) s.heap.objs.size f cdv)) := hr.mono (by decide)
    refine ⟨_, pss_cons (ps_if (pt_cmpR op_eq (pv 0) pe_str (nomark _)) (pss_one (ps_ret
        (pe_callB (cr_all rfl) (by rfl) TF.all (by decide +kernel) (pa_cons (pe_lc (own := [("part", 2)]) (g := gName 2) (by rfl) scAreArgs.nd (pi_list (pv 1)) (blkOk_by (N := ["word", "rest", "part"]) (sc := defScope sAreArgs) (by decide +kernel))
          (fun _ _ _ _ _ => pg_name (i := 2) scAreArgs.nd rfl (Or.inl rfl)) (fun _ _ _ _ _ => pts_nil)
          (fun _ _ _ _ _ => pe_call GT hr2 rfl TM.gTW TM.FTW.kp TM.bTW .nil pass0 (pa_cons (pv 2) pa_nil))) pa_nil)))) pss_nil)
      (pss_cons (ps_if (pt_cmpR op_eq (pv 0) pe_str (nomark _)) (pss_one (ps_ret
        (pe_callB (cr_all rfl) (by rfl) TF.all (by decide +kernel) (pa_cons (pe_lc (own := [("part", 2)]) (g := gName 2) (by rfl) scAreArgs.nd (pi_list (pv 1)) (blkOk_by (N := ["word", "rest", "part"]) (sc := defScope sAreArgs) (by decide +kernel))
          (fun _ _ _ _ _ => pg_name (i := 2) scAreArgs.nd rfl (Or.inl rfl)) (fun _ _ _ _ _ => pts_nil)
          (fun _ _ _ _ _ => pe_call GR hr rfl TM.gRW TM.FRW.kp TM.bRW .nil pass0 (pa_cons (pv 2) pa_nil))) pa_nil)))) pss_nil)
      (pss_cons (ps_if (PW.pt (pw_and (pt_cmpR op_eq (pv 0) pe_str (nomark _)) (pw_and1 (pt_cmpR op_ne (pe_callB call_len_seq (by rfl) T.len PySem.boot_len (pa_cons (pv 1) pa_nil)) pe_int (nomark _))))) (pss_one (ps_ret pe_bl)) pss_nil)
      (pss_one (ps_ret
        (pe_callB (cr_all rfl) (by rfl) TF.all (by decide +kernel) (pa_cons (pe_lc (own := [("part", 2)]) (g := gName 2) (by rfl) scAreArgs.nd (pi_list (pv 1)) (blkOk_by (N := ["word", "rest", "part"]) (sc := defScope sAreArgs) (by decide +kernel))
          (fun _ _ _ _ _ => pg_name (i := 2) scAreArgs.nd rfl (Or.inl rfl)) (fun _ _ _ _ _ => pts_nil)
          (fun _ _ _ _ _ => pe_call GN hr2 rfl TM.gNW TM.FNW.kp TM.bNW .nil pass0 (pa_cons (pv 2) pa_nil))) pa_nil)))))), ?_⟩
    refine ⟨_, rfl, rfl, _, rfl, ?_⟩
    by_cases c1 : x = wTab
    · have e1 : decide (V.str x = V.str (Str.ofString "tables")) = true := decide_eq_true (by rw [c1]; rfl)
      rw [e1]
      have er : areArgs x ws = ws.all isTW := by unfold areArgs; rw [if_pos c1]
      rw [er] at k
      refine iteT ⟨_, rfl, a, rfl, ⟨_, hS⟩, fun D hD => ?_⟩
      refine comp_all (i := 2) (vs := [2]) (g := isTW) hD hS (Nat.le_trans hz (by decide)) (fun y H2 Q2 hm hq => ⟨_, rfl, y, rfl, hw y hm, hq⟩) (fun _ => rfl) (fun H2 s2 eD => ⟨D, _, rfl, SqL.of eD, ?_⟩)
      rw [all_map]; exact k _ s2
    · have e1 : decide (V.str x = V.str (Str.ofString "tables")) = false := decide_eq_false fun q => c1 (V.str.inj q)
      rw [e1]
      refine iteF ⟨_, rfl, rfl, _, rfl, ?_⟩
      by_cases c2 : x = wRem
      · have e2 : decide (V.str x = V.str (Str.ofString "remind")) = true := decide_eq_true (by rw [c2]; rfl)
        rw [e2]
        have er : areArgs x ws = ws.all isRW := by unfold areArgs; rw [if_neg c1, if_pos c2]
        rw [er] at k
        refine iteT ⟨_, rfl, a, rfl, ⟨_, hS⟩, fun D hD => ?_⟩
        refine comp_all (i := 2) (vs := [2]) (g := isRW) hD hS (Nat.le_trans hz (by decide)) (fun y H2 Q2 hm hq => ⟨_, rfl, y, rfl, hw y hm, hq⟩) (fun _ => rfl) (fun H2 s2 eD => ⟨D, _, rfl, SqL.of eD, ?_⟩)
        rw [all_map]; exact k _ s2
      · have e2 : decide (V.str x = V.str (Str.ofString "remind")) = false := decide_eq_false fun q => c2 (V.str.inj q)
        rw [e2]
        refine iteF ⟨_, rfl, rfl, _, rfl, ?_⟩
        have fin : (¬ (x = wKey ∧ ws.length ≠ 1)) → ∀ H', Same H H' → Q (.bl (ws.all isNW)) H' := fun c => by
          have er : areArgs x ws = ws.all isNW := by unfold areArgs; rw [if_neg c1, if_neg c2, if_neg c]
          rw [er] at k; exact k
        by_cases c3 : x = wKey
        · have e3 : decide (V.str x = V.str (Str.ofString "keys")) = true := decide_eq_true (by rw [c3]; rfl)
          rw [e3]
          refine iteT ⟨_, rfl, a, _, rfl, .inl hS, rfl, _, rfl, ?_⟩
          rw [List.length_map]
          by_cases c4 : ws.length = 1
          · have e4 : (!decide (V.int ((ws.length : Nat) : Int) = V.int 1)) = false := by rw [decide_eq_true (by rw [c4]; rfl)]; rfl
            rw [e4]
            refine iteF ⟨_, rfl, a, rfl, ⟨_, hS⟩, fun D hD => ?_⟩
            refine comp_all (i := 2) (vs := [2]) (g := isNW) hD hS (Nat.le_trans hz (by decide)) (fun y H2 Q2 hm hq => ⟨_, rfl, y, rfl, hw y hm, hq⟩) (fun _ => rfl) (fun H2 s2 eD => ⟨D, _, rfl, SqL.of eD, ?_⟩)
            rw [all_map]; exact fin (fun q => q.2 c4) _ s2
          · have e4 : (!decide (V.int ((ws.length : Nat) : Int) = V.int 1)) = true := by rw [decide_eq_false fun q => c4 (by have := V.int.inj q; omega)]; rfl
            rw [e4]
            refine iteT ?_
            have er : areArgs x ws = false := by unfold areArgs; rw [if_neg c1, if_neg c2, if_pos ⟨c3, c4⟩]
            have := k H (Same.refl H)
            rw [er] at this; exact this
        · have e3 : decide (V.str x = V.str (Str.ofString "keys")) = false := decide_eq_false fun q => c3 (V.str.inj q)
          rw [e3]
          refine iteF (iteF ⟨_, rfl, a, rfl, ⟨_, hS⟩, fun D hD => ?_⟩)
          refine comp_all (i := 2) (vs := [2]) (g := isNW) hD hS (Nat.le_trans hz (by decide)) (fun y H2 Q2 hm hq => ⟨_, rfl, y, rfl, hw y hm, hq⟩) (fun _ => rfl) (fun H2 s2 eD => ⟨D, _, rfl, SqL.of eD, ?_⟩)
          rw [all_map]; exact fin (fun q => c3 q.1) _ s2
end
end Dk

set_option Elab.async false
set_option linter.all false
set_option maxRecDepth 100000
set_option maxHeartbeats 1000000
namespace Dk
open PySem PySem.Spec PyProof.Rows L2 TL
def lineWords : List Str := [wTab, wKey, wCar, wRem]
/-- the first invalid line -/
def faultL : Nat → List Str → List Str → Option Nat
  | _, [], [] => none
  | k, [], _ :: _ => some k
  | k, _ :: _, [] => some k
  | k, w :: ws, l :: ls => match Txt.split l spS with
    | [] => some k
    | f :: r => if f = w ∧ areArgs w r = true then faultL (k + 1) ws ls else some k
def linesOf (x : Str) : List Str := Txt.split x nlS
def fault (x : Str) : Option Nat := faultL 0 lineWords (linesOf x)
def rowOf (l : Str) : List Str := (Txt.split l spS).tail
def TFRaised (C : Addr) (E : XK) (H : Hp) (i : Int) : Prop := ∀ (H' : Hp) (d : Addr), Same H H' → H d = none → H' d = some (.xd [("line", .int i)]) → E (.ref C) (some d) H'
theorem TFRaised.mono {C : Addr} {E : XK} {H H1 : Hp} {i : Int} (h : TFRaised C E H i) (s : Same H H1) : TFRaised C E H1 i := fun H' d s2 n e => h H' d (s.trans s2) (s.free n) e
structure TxtTF (K : PySem.W.Frag) (mg : Str → Option Value) (C fI : Addr) (fdI : FuncData) : Prop where
  gC : mg "TextFault" = some (.ref C)
  O : OexC K C
  iC : PySem.W.findIn K (.ref C) "__init__" = some (some (.ref fI))
  tI : PySem.W.typeIn K (.ref fI) = some (.type "function")
  F : Fun K "__init__" "TextFault.__init__" sTFInit fI fdI
  b : Binds K fdI ["self", "line"] []
  nL : PySem.W.findIn K (.ref C) "line" = some none
def spTFInit (C : Addr) : Sp := fun vs H Q _ => ∃ (a : Addr) (i : V), vs = [.ref a, i] ∧ H a = some (exo a C none) ∧
  ∀ d, H d = none → d ≠ a → Q .non (upd (upd H d (exd d [("line", i)])) a (exo a C (some d)))
/-- rows at as -/
def RowsAt (H : Hp) (as : List Addr) (rows : List (List Str)) : Prop := Paired (fun a ws => H a = some (.lst (ws.map V.str))) as rows
theorem RowsAt.mono {H H' : Hp} : ∀ {as : List Addr} {rows : List (List Str)}, Same H H' → RowsAt H as rows → RowsAt H' as rows
  | [], [], _, .nil => .nil
  | _ :: _, _ :: _, s, .cons h t => .cons (s _ _ h) (RowsAt.mono s t)
theorem RowsAt.app {H : Hp} : ∀ {as : List Addr} {rows : List (List Str)} {a : Addr} {ws : List Str}, RowsAt H as rows → H a = some (.lst (ws.map V.str)) → RowsAt H (as ++ [a]) (rows ++ [ws])
  | [], [], _, _, .nil, h => .cons h .nil
  | _ :: _, _ :: _, _, _, .cons h t, q => .cons h (RowsAt.app t q)
theorem RowsAt.len {H : Hp} {as : List Addr} {rows : List (List Str)} (h : RowsAt H as rows) : as.length = rows.length := Paired.length h
theorem RowsAt.keep {H H' : Hp} {r : Addr} : ∀ {as : List Addr} {rows : List (List Str)}, RowsAt H as rows → (∀ b o, b ≠ r → H b = some o → H' b = some o) → r ∉ as → RowsAt H' as rows
  | [], [], .nil, _, _ => .nil
  | a :: _, _ :: _, .cons h t, k, n => .cons (k a _ (fun e => n (by rw [← e]; exact List.mem_cons_self ..)) h) (RowsAt.keep t k fun m => n (List.mem_cons_of_mem _ m))
/-- a text that is not larger than this -/
def spSplitText (C : Addr) : Sp := fun vs H Q E => ∃ x : Str, vs = [.str x] ∧ x.length ≤ 10000 ∧
  (fault x = none → ∀ (H' : Hp) (a : Addr) (as : List Addr), Same H H' → H a = none → H' a = some (.lst (as.map V.ref)) → RowsAt H' as ((linesOf x).map rowOf) → Q (.ref a) H') ∧
  (∀ k, fault x = some k → TFRaised C E H (k : Int))
structure TxtO (K : PySem.W.Frag) (mg : Str → Option Value) (fAA : Addr) (fdAA : FuncData) : Prop where
  gAA : mg "are_arguments" = some (.ref fAA)
  FAA : Fun K "are_arguments" "are_arguments" sAreArgs fAA fdAA
  bAA : Binds K fdAA ["word", "rest"] []
  words : ∃ a, mg "LINE_WORDS" = some (.ref a) ∧ SqT K (fun _ => none) a (lineWords.map V.str)
theorem fault_step {x : Str} {i : Nat} {w l f : Str} {r : List Str} {n : Nat} (hw : lineWords[i]? = some w) (hl : (linesOf x)[i]? = some l) (hs : Txt.split l spS = f :: r) :
    faultL n (lineWords.drop i) ((linesOf x).drop i) = if f = w ∧ areArgs w r = true then faultL (n + 1) (lineWords.drop (i + 1)) ((linesOf x).drop (i + 1)) else some n := by
  have e1 : lineWords.drop i = w :: lineWords.drop (i + 1) := by
    obtain ⟨h1, h2⟩ := List.getElem?_eq_some_iff.mp hw
    rw [List.drop_eq_getElem_cons h1, h2]
  have e2 : (linesOf x).drop i = l :: (linesOf x).drop (i + 1) := by
    obtain ⟨h1, h2⟩ := List.getElem?_eq_some_iff.mp hl
    rw [List.drop_eq_getElem_cons h1, h2]
  rw [e1, e2]
  show (match Txt.split l spS with | [] => some n | f :: r => if f = w ∧ areArgs w r = true then faultL (n + 1) (lineWords.drop (i + 1)) ((linesOf x).drop (i + 1)) else some n) = _
  rw [hs]
section
variable {P : Program} {w : World} {K : PySem.W.Frag} {mg : Str → Option Value} {base : Heap} {fII fIB fHO : Addr} {fdII fdIB fdHO : FuncData} {fTW fNW fRW : Addr} {fdTW fdNW fdRW : FuncData} {fIT fIR fAs : Addr} {fdIT fdIR fdAs : FuncData} {C fI fAA : Addr} {fdI fdAA : FuncData}
theorem scTFInit : FnScope ["self", "line"] ["self", "line"] (defScope sTFInit) := ⟨rfl, rfl, rfl, by decide +kernel, rfl, by decide +kernel, by decide +kernel⟩
theorem ok_tfinit (TT : TxtTF K mg C fI fdI) : FnOk P w K mg base CX0 1 fI fdI ["self", "line"] (spTFInit C) := by
  refine TT.F.ok scTFInit (fun vs H Q E h => ?_) (fun cdv A outer s H vs Q E hr h => ?_)
  · obtain ⟨a, i, rfl, _⟩ := h
    rfl
  · obtain ⟨a, i, rfl, ha, k⟩ := h
    refine ⟨_, pss_one (ps_ost (pv 0) (pv 1)), ?_⟩
    exact ⟨_, rfl, _, rfl, a, C, rfl, TT.O, TT.nL, .inl ⟨ha, fun d hd nd => k d hd nd⟩⟩
theorem raise_tf {H : Hp} {E : XK} {i : Int} (k : TFRaised C E H i) :
    ([V.int i] : List V).length ≤ 1000 ∧ ∀ a, H a = none → spTFInit C (.ref a :: ([V.int i] ++ [])) (upd H a (exo a C none))
      (fun v H2 => v = .non ∧ ∃ (d : Addr) (fs : List (Str × V)), H2 a = some (exo a C (some d)) ∧ H2 d = some (exd d fs) ∧ H d = none ∧ E (.ref C) (some d) (upd (del H2 a) d (.xd fs))) (fun _ _ _ => False) := by
  refine ⟨by simp, fun a hn => ⟨a, V.int i, rfl, upd_same, fun d hd nd => ⟨rfl, d, [("line", V.int i)], upd_same, ?_, ?_, ?_⟩⟩⟩
  · rw [upd_ne nd]; exact upd_same
  · rw [upd_ne nd] at hd; exact hd
  · rw [upd_ne nd] at hd
    refine k _ d (fun b o e => ?_) hd upd_same
    have nb : b ≠ a := ne_of_none e hn
    have nd' : b ≠ d := ne_of_none e hd
    rw [upd_ne nd', del_ne nb, upd_ne nb, upd_ne nd', upd_ne nb]
    exact e
abbrev nSplit : List Str := ["text", "lines", "rows", "number", "word", "first", "rest"]
theorem scSplit : FnScope nSplit ["text"] (defScope sSplit) := ⟨rfl, rfl, rfl, by decide +kernel, rfl, by decide +kernel, by decide +kernel⟩
theorem ok_split {f : Addr} {fd : FuncData} (F : Fun K "split_text" "split_text" sSplit f fd) (T : TxtA mg) (TF : TxtF K mg fII fIB fHO fdII fdIB fdHO) (TM : TxtM K mg fTW fNW fRW fdTW fdNW fdRW) (TI : TxtI K mg fIT fIR fAs fdIT fdIR fdAs)
    (TT : TxtTF K mg C fI fdI) (TO : TxtO K mg fAA fdAA) : FnOk P w K mg base (L2.CX P w) 5 f fd ["text"] (spSplitText C) := by
  have GA : FnOk P w K mg base CX0 4 fAA fdAA ["word", "rest"] (spAreArgs K) := ok_areargs TO.FAA T TF TM
  have GI : FnOk P w K mg base CX0 1 fI fdI ["self", "line"] (spTFInit C) := ok_tfinit TT
  obtain ⟨aW, eW, hW⟩ := TO.words
  refine F.okX scSplit (fun vs H Q E h => ?_) (fun cdv A outer s H vs Q E hr h => ?_)
  · obtain ⟨x, rfl, _⟩ := h
    rfl
  · obtain ⟨x, rfl, hz, k1, k2⟩ := h
    have hr2 : Room 2 (A.deeper (envOfC (Str.ofString "split_text") (defScope sSplit) s.heap.objs.size f cdv)) := hr.mono (by decide)
    refine ⟨_, pss_cons (ps_if (pt_not (pt_val (pe_callB call_isi (by rfl) TF.isinstance (by decide +kernel) (pa_cons (pv 0) (pa_cons (pe_bltn (v := .ty "str") (by rfl) TF.str (by decide +kernel) rfl) pa_nil)))))
        (pss_one (ps_raise rfl (takes_of rfl rfl rfl rfl) (pmk_oex TT.O TT.iC TT.tI GI hr2 TT.b .nil pass0 rfl TT.gC (pa_cons pe_int pa_nil)))) pss_nil)
      (pss_cons (ps_set (i := 1) scSplit.nd rfl (.inl rfl) (pe_split (pv 0) pe_str))
      (pss_cons (ps_set (i := 2) scSplit.nd rfl (.inl rfl) (pe_lst pa_nil))
      (pss_cons (ps_for (passes_of rfl) rfl (pi_enumT (by rfl) TI.enumerate (pa_cons (pe_glob (v := .ref aW) rfl eW rfl) pa_nil)) (pg_tup rfl (pgs_cons (pg_name (i := 3) scSplit.nd rfl (.inl rfl)) (pgs_cons (pg_name (i := 4) scSplit.nd rfl (.inl rfl)) pgs_nil)))
        (pss_cons (ps_if (pt_cmpR op_eq (pv 3) (pe_callB call_len_seq (by rfl) T.len PySem.boot_len (pa_cons (pv 1) pa_nil)) (nomark _))
          (pss_one (ps_raise rfl (takes_of rfl rfl rfl rfl) (pmk_oex TT.O TT.iC TT.tI GI hr2 TT.b .nil pass0 rfl TT.gC (pa_cons (pv 3) pa_nil)))) pss_nil)
        (pss_cons (ps_asg (pe_split (pe_ix ix_list (pv 1) (pv 3) (fun _ _ => rfl)) pe_str) (pg_star rfl (pgs_cons (pg_name (i := 5) scSplit.nd rfl (.inl rfl)) (pgs_cons (pg_name (i := 6) scSplit.nd rfl (.inl rfl)) pgs_nil))))
        (pss_cons (ps_if (PW.pt (pw_or (pt_cmpR op_ne (pv 5) (pv 4) (nomark _)) (pw_or1 (pt_not (pt_val (pe_call GA hr rfl TO.gAA TO.FAA.kp TO.bAA .nil pass0 (pa_cons (pv 4) (pa_cons (pv 6) pa_nil))))))))
          (pss_one (ps_raise rfl (takes_of rfl rfl rfl rfl) (pmk_oex TT.O TT.iC TT.tI GI hr2 TT.b .nil pass0 rfl TT.gC (pa_cons (pv 3) pa_nil)))) pss_nil)
        (pss_one (ps_expr (pe_bm PySem.F.plainAttrs_list PySem.F.slot_list_append PySem.F.type_list_append mt_append (pv 2) (pa_cons (pv 6) pa_nil))))))))
      (pss_cons (ps_if (pt_cmpR op_gt (pe_callB call_len_seq (by rfl) T.len PySem.boot_len (pa_cons (pv 1) pa_nil)) (pe_callB call_len_seq (by rfl) T.len PySem.boot_len (pa_cons (pe_glob (v := .ref aW) rfl eW rfl) pa_nil)) (nomark _))
        (pss_one (ps_raise rfl (takes_of rfl rfl rfl rfl) (pmk_oex TT.O TT.iC TT.tI GI hr2 TT.b .nil pass0 rfl TT.gC (pa_cons (pe_callB call_len_seq (by rfl) T.len PySem.boot_len (pa_cons (pe_glob (v := .ref aW) rfl eW rfl) pa_nil)) pa_nil)))) pss_nil)
      (pss_one (ps_ret (pv 2))))))), ?_⟩
    refine ⟨_, rfl, _, _, _, _, _, rfl, .ty "str", tyx (.str x), kit_ty (kit_str (.str x)), _, rfl, iteF ?_⟩
    refine ⟨_, rfl, ⟨_, rfl⟩, x, nlS, rfl, rfl, sepNl.z, Nat.le_trans (by omega : x.length + 2 ≤ 10002) (by decide), fun l hl => ?_⟩
    refine ⟨Nat.zero_le _, fun r hrr => ?_⟩
    have sA : Same H (upd (upd H l (.lst ((Txt.split x nlS).map V.str))) r (.lst [])) := (same_upd hl).trans (same_upd hrr)
    have eL : (upd (upd H l (.lst ((Txt.split x nlS).map V.str))) r (.lst [])) l = some (.lst ((linesOf x).map V.str)) := same_upd hrr _ _ upd_same
    have eR : (upd (upd H l (.lst ((Txt.split x nlS).map V.str))) r (.lst [])) r = some (.lst (([] : List Addr).map V.ref)) := upd_same
    have nlr : l ≠ r := ne_of_none upd_same hrr
    have nHr : H r = none := (same_upd hl).free hrr
    have hbx := split_bound (x := x) sepNl
    have hbn : (linesOf x).length ≤ 10002 := Nat.le_trans (split_le x nlS) (by omega)
    have eF : fault x = faultL 0 (lineWords.drop 0) ((linesOf x).drop 0) := rfl
    generalize hHA : upd (upd H l (.lst ((Txt.split x nlS).map V.str))) r (.lst []) = HA at sA eL eR
    refine ⟨aW, _, rfl, sqtK hW, for_it walk_enumT
      (fun i σ H' => ∃ (v3 v4 v5 v6 : Option V) (as : List Addr), σ = [some (.str x), some (.ref l), some (.ref r), v3, v4, v5, v6] ∧ Same H H' ∧ H' l = some (.lst ((linesOf x).map V.str)) ∧ H' r = some (.lst (as.map V.ref)) ∧
        RowsAt H' as (((linesOf x).take i).map rowOf) ∧ r ∉ as ∧ i ≤ (linesOf x).length ∧ fault x = faultL i (lineWords.drop i) ((linesOf x).drop i))
      ⟨none, none, none, none, [], rfl, sA, eL, eR, .nil, by simp, Nat.zero_le _, eF⟩ (fun i σ H' _ _ => sqtK hW) ?_ ?_⟩
    · rintro i y σ H1 H2 hi ⟨v3, v4, v5, v6, as, rfl, s1, eL1, eR1, hR1, hra, hil, eF1⟩ ⟨Tp, y1, y2, rfl, hTp, rfl, e1, e2⟩
      cases e1
      obtain ⟨wd, ewd, rfl⟩ := map_at e2
      have sT := same_upd (o := .tup [.int (i : Nat), .str wd]) hTp
      refine ⟨Tp, _, rfl, SqT.of upd_same, rfl, _, _, rfl, _, _, rfl, rfl, ?_⟩
      have s2 := s1.trans sT
      have eL2 := sT _ _ eL1
      have eR2 := sT _ _ eR1
      have hR2 := hR1.mono sT
      generalize upd H1 Tp (.tup [.int (i : Nat), .str wd]) = H2 at s2 eL2 eR2 hR2
      refine ⟨_, rfl, _, rfl, l, _, rfl, .inl (SqL.of eL2), rfl, _, rfl, ?_⟩
      rw [List.length_map]
      by_cases c : i = (linesOf x).length
      · rw [decide_eq_true (congrArg V.int (by rw [c]) : V.int ((i : Nat) : Int) = V.int (((linesOf x).length : Nat) : Int))]
        refine iteT ⟨_, rfl, raise_tf (TFRaised.mono (k2 i ?_) s2)⟩
        rw [eF1, c, List.drop_length]
        have e4 : lineWords.drop i = wd :: lineWords.drop (i + 1) := by
          obtain ⟨h1, h2⟩ := List.getElem?_eq_some_iff.mp ewd
          rw [List.drop_eq_getElem_cons h1, h2]
        rw [← c, e4]; rfl
      · rw [decide_eq_false (fun q => c (by have := V.int.inj q; omega) : ¬ V.int ((i : Nat) : Int) = V.int (((linesOf x).length : Nat) : Int))]
        have hi2 : i < (linesOf x).length := by omega
        have elin : (linesOf x)[i]? = some (linesOf x)[i] := List.getElem?_eq_getElem hi2
        generalize (linesOf x)[i] = li at elin
        have hbi : li.length ≤ 10000 := Nat.le_trans (hbx li (List.mem_of_getElem? elin)) hz
        refine iteF ⟨_, rfl, _, rfl, l, _, _, .str li, rfl, rfl, SqL.of eL2, atI_nat (by rw [List.getElem?_map, elin]; rfl), ⟨_, rfl⟩, li, spS, rfl, rfl, sepSp.z, Nat.le_trans (by omega : li.length + 2 ≤ 10002) (by decide), fun q hq => ?_⟩
        obtain ⟨f0, r0, ef⟩ : ∃ f0 r0, Txt.split li spS = f0 :: r0 := by
          cases h : Txt.split li spS with
          | nil => exact absurd h (split_ne sepSp)
          | cons f0 r0 => exact ⟨f0, r0, rfl⟩
        have hbq := split_bound (x := li) sepSp
        have hbq2 := split_le li spS
        have sQ := same_upd (o := .lst ((Txt.split li spS).map V.str)) hq
        have eQ : (upd H2 q (.lst ((Txt.split li spS).map V.str))) q = some (.lst (V.str f0 :: r0.map V.str)) := by rw [upd_same, ef]; rfl
        have s3 := s2.trans sQ
        have eL3 := sQ _ _ eL2
        have eR3 := sQ _ _ eR2
        have hR3 := hR2.mono sQ
        rw [ef] at hbq hbq2
        have hr0 : r0.length ≤ 10002 := by rw [List.length_cons] at hbq2; omega
        generalize upd H2 q (.lst ((Txt.split li spS).map V.str)) = H3 at s3 eL3 eR3 hR3 eQ
        refine ⟨q, V.str f0, r0.map V.str, rfl, SqL.of eQ, by rw [List.length_map]; omega, fun D hD => ?_⟩
        have sD := same_upd (o := .lst (r0.map V.str)) hD
        have s4 := s3.trans sD
        have eL4 := sD _ _ eL3
        have eR4 := sD _ _ eR3
        have hR4 := hR3.mono sD
        have eD4 : (upd H3 D (.lst (r0.map V.str))) D = some (.lst (r0.map V.str)) := upd_same
        have nDr : D ≠ r := fun e => by rw [e, eR3] at hD; cases hD
        generalize upd H3 D (.lst (r0.map V.str)) = H4 at s4 eL4 eR4 hR4 eD4
        have st := fault_step (n := i) ewd elin ef
        refine ⟨_, _, rfl, _, _, rfl, rfl, ?_⟩
        refine ⟨_, rfl, _, rfl, rfl, _, rfl, ?_⟩
        by_cases cf : f0 = wd
        · have ecf : (!decide (V.str f0 = V.str wd)) = false := by rw [decide_eq_true (by rw [cf])]; rfl
          rw [ecf]
          refine iteF ⟨_, rfl, _, rfl, wd, D, r0, rfl, SqL.of eD4, by omega, fun y hy => Nat.le_trans (hbq y (List.mem_cons_of_mem _ hy)) (by omega), fun H5 s5 => ⟨_, rfl, ?_⟩⟩
          cases ca : areArgs wd r0 with
          | true =>
            rw [if_pos ⟨cf, ca⟩] at st
            have eR5 := s5 _ _ eR4
            refine iteF ⟨_, rfl, .inl ⟨rfl, _, SqL.of eR5⟩, _, rfl, r, _, _, rfl, rfl, eR5, ?_, ?_⟩
            · have : as.length = _ := hR4.len
              rw [List.length_map, List.length_take] at this
              rw [List.length_map]
              exact Nat.lt_of_le_of_lt (by omega : as.length ≤ 10002) (by decide)
            · have tK : ∀ b o, b ≠ r → H4 b = some o → (upd H5 r (.lst (as.map V.ref ++ [V.ref D]))) b = some o := fun b o nb h => by rw [upd_ne nb]; exact s5 _ _ h
              refine ⟨_, _, _, _, as ++ [D], rfl, fun b o eb => tK b o (fun e => by rw [e, nHr] at eb; cases eb) (s4 _ _ eb), tK _ _ nlr eL4, by rw [upd_same]; simp, ?_, ?_, by omega, ?_⟩
              · have e5 : ((linesOf x).take (i + 1)).map rowOf = ((linesOf x).take i).map rowOf ++ [r0] := by
                  rw [take_more elin, List.map_append]
                  show _ ++ [rowOf li] = _
                  unfold rowOf
                  rw [ef]; rfl
                rw [e5]
                refine RowsAt.app ?_ (tK _ _ nDr eD4)
                exact hR4.keep tK hra
              · intro hm
                rcases List.mem_append.mp hm with hm | hm
                · exact hra hm
                · exact nDr (List.mem_singleton.mp hm).symm
              · rw [eF1, st]
          | false =>
            rw [if_neg (fun q => by rw [ca] at q; cases q.2)] at st
            refine iteT ⟨_, rfl, raise_tf (TFRaised.mono (k2 i (by rw [eF1, st])) (s4.trans s5))⟩
        · have ecf : (!decide (V.str f0 = V.str wd)) = true := by rw [decide_eq_false fun q => cf (V.str.inj q)]; rfl
          rw [ecf]
          rw [if_neg (fun q => cf q.1)] at st
          exact iteT (iteT ⟨_, rfl, raise_tf (TFRaised.mono (k2 i (by rw [eF1, st])) s4)⟩)
    · rintro σ H1 ⟨v3, v4, v5, v6, as, rfl, s1, eL1, eR1, hR1, hra, hil, eF1⟩
      have h4 : (lineWords.map V.str).length = 4 := rfl
      rw [h4] at hR1 hil eF1
      have e4 : lineWords.drop 4 = [] := rfl
      rw [e4] at eF1
      have ell : ((linesOf x).map V.str).length = (linesOf x).length := List.length_map _
      refine ⟨_, rfl, l, _, rfl, .inl (SqL.of eL1), aW, _, rfl, .inr (sqtK hW), _, _, rfl, rfl, _, rfl, ?_⟩
      rw [ell, h4]
      by_cases c : 4 < (linesOf x).length
      · rw [decide_eq_true (by omega : ((4 : Nat) : Int) < (((linesOf x).length : Nat) : Int))]
        refine iteT ⟨aW, _, rfl, .inr (sqtK hW), ?_⟩
        rw [h4]
        refine raise_tf (TFRaised.mono (k2 4 ?_) s1)
        rw [eF1]
        cases hd : (linesOf x).drop 4 with
        | nil => exact absurd (List.drop_eq_nil_iff.mp hd) (by omega)
        | cons a b => rfl
      · rw [decide_eq_false (by omega : ¬ ((4 : Nat) : Int) < (((linesOf x).length : Nat) : Int))]
        have hl4 : (linesOf x).length = 4 := by omega
        refine iteF ⟨_, rfl, k1 ?_ H1 r as s1 nHr eR1 ?_⟩
        · rw [eF1, List.drop_eq_nil_of_le (by omega)]; rfl
        · rw [List.take_of_length_le (by omega)] at hR1; exact hR1
end
end Dk

set_option Elab.async false
set_option linter.all false
set_option maxRecDepth 100000
set_option maxHeartbeats 1000000
namespace Dk
open PySem PySem.Spec PyProof.Rows L2 TL
def numD : List Nat → Int
  | [a] => (a : Int) - 48
  | [a, b] => ((a : Int) - 48) * 10 + ((b : Int) - 48)
  | _ => 0
def numOf (x : Str) : Int := numD (tl x)
def nw2 : List (List Nat) := (List.range 10).map (fun a => [48 + a]) ++ ((List.range 9).flatMap fun a => (List.range 10).map fun b => [49 + a, 48 + b])
theorem nw_all : ∀ l ∈ nw2, PySem.intText? (⟨l.toArray⟩ : Str) = some (numD l) ∧ tl (Str.ofString (toString (numD l))) = l ∧ 0 ≤ numD l ∧ numD l ≤ 99 := by decide +kernel
theorem nw_mem {x : Str} (h : isNW x = true) : tl x ∈ nw2 := by
  unfold isNW at h
  have key : ∀ c, dig c = true → 48 ≤ c ∧ c ≤ 57 := fun c hc => by
    have := of_decide_eq_true hc
    rw [tl_dig] at this
    simp at this
    omega
  split at h
  · rename_i a ea
    have := key a h
    rw [ea]
    refine List.mem_append_left _ (List.mem_map.mpr ⟨a - 48, List.mem_range.mpr (by omega), by rw [show 48 + (a - 48) = a by omega]⟩)
  · rename_i a b ea
    simp only [Bool.and_eq_true, decide_eq_true_eq] at h
    have h1 := key a h.1.1
    have h2 := key b h.1.2
    have h3 := h.2
    rw [ea]
    refine List.mem_append_right _ (List.mem_flatMap.mpr ⟨a - 49, List.mem_range.mpr (by omega), List.mem_map.mpr ⟨b - 48, List.mem_range.mpr (by omega), ?_⟩⟩)
    rw [show 49 + (a - 49) = a by omega, show 48 + (b - 48) = b by omega]
  · cases h
theorem nw_num {x : Str} (h : isNW x = true) : PySem.intText? x = some (numOf x) ∧ Str.ofString (toString (numOf x)) = x ∧ 0 ≤ numOf x ∧ numOf x ≤ 99 := by
  have := nw_all _ (nw_mem h)
  rw [mk_tl] at this
  exact ⟨this.1, ext_tl this.2.1, this.2.2⟩
theorem nw_len {x : Str} (h : isNW x = true) : x.length ≤ 2 := by
  rw [len_tl x]
  unfold isNW at h
  split at h
  · rename_i a ea; rw [ea]; simp
  · rename_i a b ea; rw [ea]; simp
  · cases h
/-- a number from 0 to 99 is written as a number word -/
theorem num_nw_all : ∀ n ∈ List.range 100, isNW (Str.ofString (toString ((n : Nat) : Int))) = true ∧ numOf (Str.ofString (toString ((n : Nat) : Int))) = ((n : Nat) : Int) := by decide +kernel
theorem num_nw {i : Int} (h0 : 0 ≤ i) (h1 : i ≤ 99) : isNW (Str.ofString (toString i)) = true ∧ numOf (Str.ofString (toString i)) = i := by
  obtain ⟨n, rfl⟩ := Int.eq_ofNat_of_zero_le h0
  exact num_nw_all n (List.mem_range.mpr (by omega))
end Dk

set_option Elab.async false
set_option linter.all false
set_option maxRecDepth 100000
set_option maxHeartbeats 1000000
namespace Dk
open PySem PySem.Spec PyProof.Rows L2 TL
/-! ### the text of a house -/
def numS (i : Int) : Str := Str.ofString (toString i)
def remS (r : Pr) : Str := ((Str.empty ++ numS r.1) ++ colS) ++ numS r.2
def rowsT (ts : List Str) (k : Int) (cs : List Int) (rs : List Pr) : List (List Str) := [wTab :: ts, [wKey, numS k], wCar :: cs.map numS, wRem :: rs.map remS]
def textOf (ts : List Str) (k : Int) (cs : List Int) (rs : List Pr) : Str := Txt.join nlS ((rowsT ts k cs rs).map (Txt.join spS))
/-- numbers from 0 to 99, not too many of anything -/
structure Sizes (ts : List Str) (k : Int) (cs : List Int) (rs : List Pr) : Prop where
  tl : ts.length ≤ 6
  tb : ∀ t ∈ ts, t.length ≤ 1000
  k0 : 0 ≤ k
  k9 : k ≤ 99
  cl : cs.length ≤ 6
  cb : ∀ c ∈ cs, (0 : Int) ≤ c ∧ c ≤ 99
  rl : rs.length ≤ 10
  rb : ∀ r ∈ rs, (0 : Int) ≤ r.1 ∧ r.1 ≤ 99 ∧ (0 : Int) ≤ r.2 ∧ r.2 ≤ 99
structure HouseAt (K : PySem.W.Frag) (C : Addr) (H : Hp) (p : Addr) (ts : List Str) (k : Int) (cs : List Int) (rs : List Pr) : Prop where
  ex : ∃ dx aT aC aR xs, H p = some (.ins C dx (hFields (.ref aT) (.int k) (.ref aC) (.ref aR))) ∧ SqT K H aT (ts.map V.str) ∧ SqT K H aC (cs.map V.int) ∧ SqT K H aR xs ∧ Prs H xs rs
def spText (K : PySem.W.Frag) (C : Addr) : Sp := fun vs H Q _ => ∃ (p : Addr) (ts : List Str) (k : Int) (cs : List Int) (rs : List Pr), vs = [.ref p] ∧ HouseAt K C H p ts k cs rs ∧ Sizes ts k cs rs ∧ ∀ H', Same H H' → Q (.str (textOf ts k cs rs)) H'
theorem hf_tables (a b c d : V) : (hFields a b c d).lookup ("tables" : Str) = some a := by
  unfold hFields
  rw [lookup_putF, if_neg (by decide +kernel), lookup_putF, if_neg (by decide +kernel), lookup_putF, if_neg (by decide +kernel), lookup_putF, if_pos rfl]
theorem hf_keys (a b c d : V) : (hFields a b c d).lookup ("key_count" : Str) = some b := by
  unfold hFields
  rw [lookup_putF, if_neg (by decide +kernel), lookup_putF, if_neg (by decide +kernel), lookup_putF, if_pos rfl]
theorem hf_careful (a b c d : V) : (hFields a b c d).lookup ("careful" : Str) = some c := by
  unfold hFields
  rw [lookup_putF, if_neg (by decide +kernel), lookup_putF, if_pos rfl]
theorem hf_rem (a b c d : V) : (hFields a b c d).lookup ("reminders" : Str) = some d := by
  unfold hFields
  rw [lookup_putF, if_pos rfl]
theorem numS_len {i : Int} (h0 : 0 ≤ i) (h1 : i ≤ 99) : (numS i).length ≤ 2 := nw_len (num_nw h0 h1).1
theorem log_small {i : Int} (h0 : 0 ≤ i) (h1 : i ≤ 99) : i.natAbs.log2 < 1920 := by
  have := Nat.log2_le_self i.natAbs
  omega
theorem len_app (x y : Str) : (x ++ y).length = x.length + y.length := by
  rw [len_tl, len_tl x, len_tl y, tl_append, List.length_append]
theorem col_len : colS.length = 1 := by decide +kernel
theorem remS_len {r : Pr} (h : (0 : Int) ≤ r.1 ∧ r.1 ≤ 99 ∧ (0 : Int) ≤ r.2 ∧ r.2 ≤ 99) : (remS r).length ≤ 5 := by
  unfold remS
  rw [len_app, len_app, len_app, col_len]
  have h1 := numS_len h.1 h.2.1
  have h2 := numS_len h.2.2.1 h.2.2.2
  have h3 : Str.empty.length = 0 := rfl
  omega
theorem rowsAt_get {H : Hp} : ∀ {as : List Addr} {rows : List (List Str)} {i : Nat} {a : Addr}, RowsAt H as rows → as[i]? = some a → ∃ ws, rows[i]? = some ws ∧ H a = some (.lst (ws.map V.str))
  | [], [], _, _, .nil, e => by simp at e
  | _ :: _, _ :: _, 0, _, .cons h _, e => by simp at e; subst e; exact ⟨_, rfl, h⟩
  | _ :: _, _ :: _, i + 1, _, .cons _ t, e => by
    obtain ⟨ws, e1, e2⟩ := rowsAt_get (i := i) t (by simpa using e)
    exact ⟨ws, by simpa using e1, e2⟩
theorem joinL_len (S : List Nat) : ∀ ps : List (List Nat), (joinL S ps).length ≤ (ps.map List.length).sum + ps.length * S.length
  | [] => by simp [joinL]
  | [p] => by simp [joinL]
  | p :: q :: r => by
    have ih := joinL_len S (q :: r)
    show (p ++ (S ++ joinL S (q :: r))).length ≤ _
    rw [List.length_append, List.length_append, List.map_cons, List.sum_cons, List.length_cons (as := q :: r), Nat.succ_mul]
    omega
theorem join_len (y : Str) (ps : List Str) : (Txt.join y ps).length ≤ (ps.map (·.length)).sum + ps.length * y.length := by
  have h := joinL_len (tl y) (ps.map tl)
  rw [len_tl, join_eq, tl_join]
  rw [List.length_map, List.map_map, show List.length ∘ tl = fun p : Str => p.length from funext fun p => (len_tl p).symm, ← len_tl y] at h
  exact h
theorem row_size {ws : List Str} {n m : Nat} (h1 : ws.length ≤ n) (h2 : ∀ x ∈ ws, x.length ≤ m) (h3 : n * m + n ≤ 16000) : (ws.map (·.length)).sum + ws.length * spS.length ≤ 16000 := by
  have h4 := sum_len h2
  have h5 : spS.length = 1 := by decide +kernel
  rw [h5, Nat.mul_one]
  have h6 : ws.length * m ≤ n * m := Nat.mul_le_mul_right _ h1
  omega
theorem rows_small {ts : List Str} {k : Int} {cs : List Int} {rs : List Pr} (S : Sizes ts k cs rs) : ∀ ws ∈ rowsT ts k cs rs, ws.length ≤ 11 ∧ (ws.map (·.length)).sum + ws.length * spS.length ≤ 16000 := by
  have l1 : wTab.length = 6 := by decide +kernel
  have l2 : wKey.length = 4 := by decide +kernel
  have l3 : wCar.length = 7 := by decide +kernel
  have l4 : wRem.length = 6 := by decide +kernel
  intro ws h
  simp only [rowsT, List.mem_cons, List.not_mem_nil, or_false] at h
  rcases h with rfl | rfl | rfl | rfl
  · refine ⟨by rw [List.length_cons]; have := S.tl; omega, row_size (n := 7) (m := 1000) (by rw [List.length_cons]; have := S.tl; omega) (fun x hx => ?_) (by decide)⟩
    rcases List.mem_cons.mp hx with rfl | hx
    · omega
    · exact S.tb x hx
  · refine ⟨by simp, row_size (n := 7) (m := 1000) (by simp) (fun x hx => ?_) (by decide)⟩
    simp only [List.mem_cons, List.not_mem_nil, or_false] at hx
    rcases hx with rfl | rfl
    · omega
    · have := numS_len S.k0 S.k9; omega
  · refine ⟨by rw [List.length_cons, List.length_map]; have := S.cl; omega, row_size (n := 7) (m := 1000) (by rw [List.length_cons, List.length_map]; have := S.cl; omega) (fun x hx => ?_) (by decide)⟩
    rcases List.mem_cons.mp hx with rfl | hx
    · omega
    · obtain ⟨c, hc, rfl⟩ := List.mem_map.mp hx
      have := numS_len (S.cb c hc).1 (S.cb c hc).2; omega
  · refine ⟨by rw [List.length_cons, List.length_map]; have := S.rl; omega, row_size (n := 11) (m := 1000) (by rw [List.length_cons, List.length_map]; have := S.rl; omega) (fun x hx => ?_) (by decide)⟩
    rcases List.mem_cons.mp hx with rfl | hx
    · omega
    · obtain ⟨r, hr, rfl⟩ := List.mem_map.mp hx
      have := remS_len (S.rb r hr); omega
theorem text_size {ts : List Str} {k : Int} {cs : List Int} {rs : List Pr} (S : Sizes ts k cs rs) : (((rowsT ts k cs rs).map (Txt.join spS)).map (·.length)).sum + ((rowsT ts k cs rs).map (Txt.join spS)).length * nlS.length ≤ 16777216 := by
  have h1 : ∀ x ∈ (rowsT ts k cs rs).map (Txt.join spS), x.length ≤ 16000 := fun x hx => by
    obtain ⟨ws, hw, rfl⟩ := List.mem_map.mp hx
    exact Nat.le_trans (join_len _ _) (rows_small S ws hw).2
  have h2 := sum_len h1
  have h3 : nlS.length = 1 := by decide +kernel
  have h4 : ((rowsT ts k cs rs).map (Txt.join spS)).length = 4 := rfl
  rw [h4] at h2 ⊢
  omega
/-- the reading of [sep.join(row) for row in rows] -/
theorem comp_join {K : PySem.W.Frag} {l : Addr} {as : List Addr} {rows : List (List Str)} {H1 : Hp} {D : Addr} {σ : L2.St} {i : Nat} {vs : List Nat} {te : TE} {Qd : Hp → Prop} (hD : H1 D = none) (hl : SqL K H1 l (as.map V.ref)) (hR : RowsAt H1 as rows) (hz : rows.length ≤ 1000)
    (hte : ∀ (a : Addr) (ws : List Str) (H2 : Hp) (Q : VK), ws ∈ rows → H2 a = some (.lst (ws.map V.str)) → Q (.str (Txt.join spS ws)) H2 → te ((wipe σ vs).set i (some (.ref a))) H2 Q) (hw : ∀ x : V, wipe ((wipe σ vs).set i (some x)) vs = wipe σ vs)
    (hd : ∀ H2, Same H1 H2 → H2 D = some (.lst ((rows.map (Txt.join spS)).map V.str)) → Qd H2) :
    ∃ W : Nat → Nat → Hp → Prop, (∃ m, W 0 m (upd H1 D (.lst []))) ∧ ∀ i' m H, W i' m H →
      ((Itl K l).stop i' H ∧ Qd H) ∨ ((Itl K l).go i' H ∧ ∃ Nx : Hp → Prop, (∀ H', Nx H' → ∃ m', m' < m ∧ W (i' + 1) m' H') ∧ ∀ x H', (Itl K l).yld i' H x H' → gName i x (wipe σ vs) H' fun σ2 H2 => wipe σ2 vs = wipe σ vs ∧ tYes σ2 H2 fun b H3 =>
        if b = true then te σ2 H3 fun y H4 => ∃ acc, H4 D = some (.lst acc) ∧ acc.length < sizeLine ∧ Nx (upd H4 D (.lst (acc ++ [y]))) else Nx H3) := by
  have hlen := hR.len
  refine lc_list (K := K) (a := l) (xs := as.map V.ref) (g := gName i) (tt := tYes) (te := te) (vs := vs) (σ := σ) (Qd := Qd)
    (fun i H3 => Same H1 H3 ∧ H3 D = some (.lst (((rows.take i).map (Txt.join spS)).map V.str)))
    ⟨same_upd hD, upd_same⟩ (fun i H3 _ ⟨e, _⟩ => e.seq hl) ?_ ?_
  · rintro j y H3 hi ⟨s3, eD⟩
    obtain ⟨a, ha, rfl⟩ := map_at hi
    obtain ⟨ws, hws, ea⟩ := rowsAt_get hR ha
    have hj : j < rows.length := (List.getElem?_eq_some_iff.mp hws).1
    refine ⟨hw _, hte a ws H3 _ (List.mem_of_getElem? hws) (s3 _ _ ea) ⟨_, eD, ?_, fun b o eb => ?_, ?_⟩⟩
    · rw [List.length_map, List.length_map, List.length_take]
      exact Nat.lt_of_le_of_lt (Nat.le_trans (Nat.min_le_left _ _) (by omega : j ≤ 1000)) (by decide)
    · rw [upd_ne (ne_of_none eb hD)]; exact s3 _ _ eb
    · rw [upd_same, take_more hws, List.map_append, List.map_append]; rfl
  · rintro H3 ⟨s3, eD⟩
    rw [List.length_map, hlen, List.take_length] at eD
    exact hd H3 s3 eD
end Dk

set_option Elab.async false
set_option linter.all false
set_option maxRecDepth 100000
set_option maxHeartbeats 1000000
namespace Dk
open PySem PySem.Spec PyProof.Rows L2 TL
def rJoin (K : PySem.W.Frag) : V → List V → Hp → VK → Prop := fun x xs H Q => ∃ a p, ∃ ys : List Str, x = .str a ∧ xs = [.ref p] ∧ (SqL K H p (ys.map V.str) ∨ SqT K H p (ys.map V.str)) ∧ (ys.map (·.length)).sum + ys.length * a.length ≤ 16777216 ∧ Q (.str (Txt.join a ys)) H
def tRem : TE := fun σ H Q => tJs [tFmt (tVar 1), tC (.str colS), tFmt (tVar 2)] Str.empty σ H fun out H1 => Q (.str out) H1
def spKeysL : Sp := fun vs H Q _ => ∃ k : Int, vs = [.int k] ∧ 0 ≤ k ∧ k ≤ 99 ∧ Q (.str (Txt.join spS [wKey, numS k])) H
def spCarL (K : PySem.W.Frag) : Sp := fun vs H Q _ => ∃ (a : Addr) (cs : List Int), vs = [.ref a] ∧ SqT K H a (cs.map V.int) ∧ cs.length ≤ 6 ∧ (∀ c ∈ cs, (0 : Int) ≤ c ∧ c ≤ 99) ∧ ∀ H', Same H H' → Q (.str (Txt.join spS (wCar :: cs.map numS))) H'
def spRemL (K : PySem.W.Frag) : Sp := fun vs H Q _ => ∃ (a : Addr) (xs : List V) (rs : List Pr), vs = [.ref a] ∧ SqT K H a xs ∧ Prs H xs rs ∧ rs.length ≤ 10 ∧ (∀ r ∈ rs, (0 : Int) ≤ r.1 ∧ r.1 ≤ 99 ∧ (0 : Int) ≤ r.2 ∧ r.2 ≤ 99) ∧ ∀ H', Same H H' → Q (.str (Txt.join spS (wRem :: rs.map remS))) H'
structure TxtLn (K : PySem.W.Frag) (mg : Str → Option Value) : Prop where
  kl : ∃ f fd, mg "keys_line" = some (.ref f) ∧ Fun K "keys_line" "keys_line" sKeysL f fd ∧ Binds K fd ["keys"] []
  cl : ∃ f fd, mg "careful_line" = some (.ref f) ∧ Fun K "careful_line" "careful_line" sCarL f fd ∧ Binds K fd ["careful"] []
  rl : ∃ f fd, mg "remind_line" = some (.ref f) ∧ Fun K "remind_line" "remind_line" sRemL f fd ∧ Binds K fd ["reminders"] []
  str : mg "str" = none
def keyS : Str := "keys "
theorem key_line (k : Int) : (Str.empty ++ keyS) ++ numS k = Txt.join spS [wKey, numS k] := by
  apply ext_tl
  rw [join_eq, tl_join]
  simp only [tl_append, List.map_cons, List.map_nil, joinL]
  rw [show tl keyS = tl wKey ++ tl spS by decide +kernel, show tl Str.empty = [] by decide +kernel]
  simp
section
variable {P : Program} {w : World} {K : PySem.W.Frag} {mg : Str → Option Value} {base : Heap} {CH fP fT fK fC fR : Addr} {fdP fdT fdK fdC fdR : FuncData}
theorem scKeysL : FnScope ["keys"] ["keys"] (defScope sKeysL) := ⟨rfl, rfl, rfl, by decide +kernel, rfl, by decide +kernel, by decide +kernel⟩
theorem ok_keysl {f : Addr} {fd : FuncData} (F : Fun K "keys_line" "keys_line" sKeysL f fd) : FnOk P w K mg base CX0 1 f fd ["keys"] spKeysL := by
  refine F.ok scKeysL (fun vs H Q E h => ?_) (fun cdv A outer s H vs Q E hr h => ?_)
  · obtain ⟨k, rfl, _⟩ := h
    rfl
  · obtain ⟨kk, rfl, h0, h9, k⟩ := h
    have n1 := numS_len h0 h9
    have n0 : Str.empty.length = 0 := rfl
    have n5 : keyS.length = 5 := by decide +kernel
    refine ⟨_, pss_one (ps_ret (pe_joined (.cons pe_str (.cons (pe_fmt (pv 0)) .nil)))), ?_⟩
    refine ⟨keyS, rfl, ?_, _, rfl, .inr ⟨kk, rfl, log_small h0 h9, numS kk, rfl, ?_, ?_⟩⟩
    · rw [len_app]; exact Nat.le_trans (by omega : _ ≤ 1000) (by decide)
    · rw [len_app, len_app]; exact Nat.le_trans (by omega : _ ≤ 1000) (by decide)
    · show Q (.str ((Str.empty ++ keyS) ++ numS kk)) H
      rw [key_line]; exact k
theorem scCarL : FnScope ["careful", "person"] ["careful"] (defScope sCarL) := ⟨rfl, rfl, rfl, by decide +kernel, rfl, by decide +kernel, by decide +kernel⟩
theorem ok_carl {f : Addr} {fd : FuncData} (F : Fun K "careful_line" "careful_line" sCarL f fd) (gs : mg "str" = none) : FnOk P w K mg base CX0 1 f fd ["careful"] (spCarL K) := by
  refine F.ok scCarL (fun vs H Q E h => ?_) (fun cdv A outer s H vs Q E hr h => ?_)
  · obtain ⟨a, cs, rfl, _⟩ := h
    rfl
  · obtain ⟨aC, cs, rfl, hC, hl, hb, k⟩ := h
    refine ⟨_, pss_one (ps_ret (pe_join pe_str (pe_lst (pa_cons pe_str (StX.pa_star (pe_lc (own := [("person", 1)]) (g := gName 1) (by rfl) scCarL.nd (pi_tup (pv 0)) (blkOk_by (N := ["careful", "person"]) (sc := defScope sCarL) (by decide +kernel))
            (fun _ _ _ _ _ => pg_name (i := 1) scCarL.nd rfl (Or.inl rfl)) (fun _ _ _ _ _ => pts_nil) (fun _ _ _ _ _ => pe_callTy call_str_int (by rfl) gs (by decide +kernel) (pa_cons (pv 1) pa_nil))) pa_nil))))), ?_⟩
    refine ⟨⟨_, rfl⟩, _, rfl, aC, rfl, ⟨_, hC⟩, fun D hD => lc_tup (K := K) (a := aC) (xs := cs.map V.int)
      (fun i H3 => Same H H3 ∧ H3 D = some (.lst (((cs.take i).map numS).map V.str))) ⟨same_upd hD, upd_same⟩ (fun i H3 _ ⟨e, _⟩ => sSqT e hC) ?_ ?_⟩
    · rintro j y H3 hi ⟨s3, eD⟩
      obtain ⟨c, hc, rfl⟩ := map_at hi
      have hcm := hb c (List.mem_of_getElem? hc)
      refine ⟨rfl, _, rfl, c, rfl, log_small hcm.1 hcm.2, _, eD, ?_, fun b o eb => ?_, ?_⟩
      · rw [List.length_map, List.length_map, List.length_take]
        exact Nat.lt_of_le_of_lt (Nat.le_trans (Nat.min_le_right _ _) (by omega : _ ≤ 1000)) (by decide)
      · rw [upd_ne (ne_of_none eb hD)]; exact s3 _ _ eb
      · rw [upd_same, take_more hc, List.map_append, List.map_append]; rfl
    rintro H3 ⟨s3, eD⟩
    rw [List.length_map, List.take_length] at eD
    refine ⟨D, _, rfl, .inr (SqL.of eD), ?_, fun l3 hl3 => ?_⟩
    · show (V.str wCar :: ((cs.map numS).map V.str ++ [])).length ≤ sizeLine
      rw [List.append_nil, List.length_cons, List.length_map, List.length_map]
      exact Nat.le_trans (by omega : _ ≤ 1000) (by decide)
    have s4 := same_upd (o := .lst (V.str (Str.ofString "careful") :: ((cs.map numS).map V.str ++ []))) hl3
    have e3 : (upd H3 l3 (.lst (V.str (Str.ofString "careful") :: ((cs.map numS).map V.str ++ [])))) l3 = some (.lst ((wCar :: cs.map numS).map V.str)) := by rw [upd_same, List.append_nil]; rfl
    refine ⟨spS, l3, _, rfl, rfl, .inl (SqL.of e3), ?_, k _ (s3.trans s4)⟩
    refine Nat.le_trans (row_size (n := 7) (m := 1000) (by rw [List.length_cons, List.length_map]; omega) (fun x hx => ?_) (by decide)) (by decide)
    rcases List.mem_cons.mp hx with rfl | hx
    · have l3 : wCar.length = 7 := by decide +kernel
      omega
    · obtain ⟨c, hc, rfl⟩ := List.mem_map.mp hx
      have := numS_len (hb c hc).1 (hb c hc).2; omega
theorem scRemL : FnScope ["reminders", "tick", "person"] ["reminders"] (defScope sRemL) := ⟨rfl, rfl, rfl, by decide +kernel, rfl, by decide +kernel, by decide +kernel⟩
theorem ok_reml {f : Addr} {fd : FuncData} (F : Fun K "remind_line" "remind_line" sRemL f fd) : FnOk P w K mg base CX0 1 f fd ["reminders"] (spRemL K) := by
  refine F.ok scRemL (fun vs H Q E h => ?_) (fun cdv A outer s H vs Q E hr h => ?_)
  · obtain ⟨a, xs, rs, rfl, _⟩ := h
    rfl
  · obtain ⟨aR, xs, rs, rfl, hR, hP, hl, hb, k⟩ := h
    refine ⟨_, pss_one (ps_ret (pe_join pe_str (pe_lst (pa_cons pe_str (StX.pa_star (pe_lc (own := [("tick", 1), ("person", 2)]) (g := gTup K 2 (gCons (gName 1) (gCons (gName 2) gNil))) (te := tRem) (by rfl) scRemL.nd (pi_tup (pv 0)) (blkOk_by (N := ["reminders", "tick", "person"]) (sc := defScope sRemL) (by decide +kernel))
            (fun _ _ _ _ _ => by exact pg_tup rfl (pgs_cons (pg_name (i := 1) scRemL.nd rfl (Or.inl rfl)) (pgs_cons (pg_name (i := 2) scRemL.nd rfl (Or.inl rfl)) pgs_nil))) (fun _ _ _ _ _ => pts_nil)
            (fun _ _ _ _ _ => by exact pe_joined (.cons (pe_fmt (pv 1)) (.cons pe_str (.cons (pe_fmt (pv 2)) .nil))))) pa_nil))))), ?_⟩
    refine ⟨⟨_, rfl⟩, _, rfl, aR, rfl, ⟨_, hR⟩, fun D hD => lc_tup (K := K) (a := aR) (xs := xs)
      (fun i H5 => Same H H5 ∧ H5 D = some (.lst (((rs.take i).map remS).map V.str))) ⟨same_upd hD, upd_same⟩ (fun i H5 _ ⟨e, _⟩ => sSqT e hR) ?_ ?_⟩
    · rintro j y H5 hi ⟨s5, eD⟩
      have hj : j < xs.length := (List.getElem?_eq_some_iff.mp hi).1
      have hlen := hP.len
      have hrj : rs[j]? = some (rs[j]'(by omega)) := List.getElem?_eq_getElem _
      generalize rs[j]'(by omega) = r at hrj
      have hPr : PrAt H y r := by
        have hk : (xs.map (kf H))[j]? = some (kf H y) := by rw [List.getElem?_map, hi]; rfl
        rw [hP.kf, hrj] at hk
        have e := Option.some.inj hk
        rw [e]; exact hP.mem y (List.mem_of_getElem? hi)
      obtain ⟨t, rfl, ht⟩ := hPr
      have hb := hb r (List.mem_of_getElem? hrj)
      have n1 := numS_len hb.1 hb.2.1
      have n2 := numS_len hb.2.2.1 hb.2.2.2
      refine ⟨t, _, rfl, SqT.of (s5 _ _ ht), rfl, _, _, rfl, _, _, rfl, rfl, rfl, ?_⟩
      refine ⟨_, rfl, .inr ⟨r.1, rfl, log_small hb.1 hb.2.1, numS r.1, rfl, ?_, colS, rfl, ?_, _, rfl, .inr ⟨r.2, rfl, log_small hb.2.2.1 hb.2.2.2, numS r.2, rfl, ?_, ?_⟩⟩⟩
      · rw [len_app]; exact Nat.le_trans (by have : Str.empty.length = 0 := rfl; omega : _ ≤ 1000) (by decide)
      · rw [len_app, len_app, col_len]; exact Nat.le_trans (by have : Str.empty.length = 0 := rfl; omega : _ ≤ 1000) (by decide)
      · rw [len_app, len_app, len_app, col_len]; exact Nat.le_trans (by have : Str.empty.length = 0 := rfl; omega : _ ≤ 1000) (by decide)
      · refine ⟨_, eD, ?_, fun b o eb => ?_, ?_⟩
        · rw [List.length_map, List.length_map, List.length_take]
          exact Nat.lt_of_le_of_lt (Nat.le_trans (Nat.min_le_right _ _) (by omega : _ ≤ 1000)) (by decide)
        · rw [upd_ne (ne_of_none eb hD)]; exact s5 _ _ eb
        · rw [upd_same, take_more hrj, List.map_append, List.map_append]; rfl
    rintro H5 ⟨s5, eD⟩
    rw [hP.len, List.take_length] at eD
    refine ⟨D, _, rfl, .inr (SqL.of eD), ?_, fun l4 hl4 => ?_⟩
    · show (V.str wRem :: ((rs.map remS).map V.str ++ [])).length ≤ sizeLine
      rw [List.append_nil, List.length_cons, List.length_map, List.length_map]
      exact Nat.le_trans (by omega : _ ≤ 1000) (by decide)
    have s6 := same_upd (o := .lst (V.str (Str.ofString "remind") :: ((rs.map remS).map V.str ++ []))) hl4
    have e4 : (upd H5 l4 (.lst (V.str (Str.ofString "remind") :: ((rs.map remS).map V.str ++ [])))) l4 = some (.lst ((wRem :: rs.map remS).map V.str)) := by rw [upd_same, List.append_nil]; rfl
    refine ⟨spS, l4, _, rfl, rfl, .inl (SqL.of e4), ?_, k _ (s5.trans s6)⟩
    refine Nat.le_trans (row_size (n := 11) (m := 1000) (by rw [List.length_cons, List.length_map]; omega) (fun x hx => ?_) (by decide)) (by decide)
    rcases List.mem_cons.mp hx with rfl | hx
    · have l4 : wRem.length = 6 := by decide +kernel
      omega
    · obtain ⟨r, hr, rfl⟩ := List.mem_map.mp hx
      have := remS_len (hb r hr); omega
abbrev nText : List Str := ["self"]
theorem scText : FnScope nText ["self"] (defScope sText) := ⟨rfl, rfl, rfl, by decide +kernel, rfl, by decide +kernel, by decide +kernel⟩
theorem ok_text {f : Addr} {fd : FuncData} (F : Fun K "text" "House.text" sText f fd) (TL' : TxtL K mg CH fP fT fK fC fR fdP fdT fdK fdC fdR) (LN : TxtLn K mg) : FnOk P w K mg base CX0 2 f fd ["self"] (spText K CH) := by
  obtain ⟨fKl, fdKl, gKl, FKl, bKl⟩ := LN.kl
  obtain ⟨fCl, fdCl, gCl, FCl, bCl⟩ := LN.cl
  obtain ⟨fRl, fdRl, gRl, FRl, bRl⟩ := LN.rl
  have GK : FnOk P w K mg base CX0 1 fKl fdKl ["keys"] spKeysL := ok_keysl FKl
  have GC : FnOk P w K mg base CX0 1 fCl fdCl ["careful"] (spCarL K) := ok_carl FCl LN.str
  have GR : FnOk P w K mg base CX0 1 fRl fdRl ["reminders"] (spRemL K) := ok_reml FRl
  refine F.ok scText (fun vs H Q E h => ?_) (fun cdv A outer s H vs Q E hr h => ?_)
  · obtain ⟨p, ts, kk, cs, rs, rfl, _⟩ := h
    rfl
  · obtain ⟨p, ts, kk, cs, rs, rfl, ⟨dx, aT, aC, aR, xs, hp, hT, hC, hR, hP⟩, S, k⟩ := h
    refine ⟨_, pss_one (ps_ret (pe_join pe_str (pe_lst
        (pa_cons (pe_join pe_str (pe_lst (pa_cons pe_str (StX.pa_star (pe_fld (pv 0) rfl) pa_nil))))
        (pa_cons (pe_call GK hr rfl gKl FKl.kp bKl .nil pass0 (pa_cons (pe_fld (pv 0) rfl) pa_nil))
        (pa_cons (pe_call GC hr rfl gCl FCl.kp bCl .nil pass0 (pa_cons (pe_fld (pv 0) rfl) pa_nil))
        (pa_cons (pe_call GR hr rfl gRl FRl.kp bRl .nil pass0 (pa_cons (pe_fld (pv 0) rfl) pa_nil)) pa_nil))))))), ?_⟩
    refine ⟨⟨_, rfl⟩, ⟨_, rfl⟩, _, rfl, p, CH, dx, _, _, rfl, hp, TL'.cl, TL'.nT, hf_tables _ _ _ _, aT, _, rfl, .inl hT, ?_⟩
    refine ⟨?_, fun l1 hl1 => ?_⟩
    · show (V.str wTab :: (ts.map V.str ++ [])).length ≤ sizeLine
      rw [List.append_nil, List.length_cons, List.length_map]
      exact Nat.le_trans (by have := S.tl; omega : _ ≤ 1000) (by decide)
    have s1 := same_upd (o := .lst (V.str (Str.ofString "tables") :: (ts.map V.str ++ []))) hl1
    have e1 : (upd H l1 (.lst (V.str (Str.ofString "tables") :: (ts.map V.str ++ [])))) l1 = some (.lst ((wTab :: ts).map V.str)) := by rw [upd_same, List.append_nil]; rfl
    generalize upd H l1 (.lst (V.str (Str.ofString "tables") :: (ts.map V.str ++ []))) = H1 at s1 e1
    have rs1 := rows_small S
    refine ⟨spS, l1, _, rfl, rfl, .inl (SqL.of e1), Nat.le_trans (rs1 _ (by simp [rowsT])).2 (by decide), ?_⟩
    refine ⟨_, rfl, p, CH, dx, _, _, rfl, s1 _ _ hp, TL'.cl, TL'.nK, hf_keys _ _ _ _, kk, rfl, S.k0, S.k9, ?_⟩
    refine ⟨_, rfl, p, CH, dx, _, _, rfl, s1 _ _ hp, TL'.cl, TL'.nC, hf_careful _ _ _ _, aC, cs, rfl, sSqT s1 hC, S.cl, S.cb, fun H2 s2 => ?_⟩
    have s12 := s1.trans s2
    refine ⟨_, rfl, p, CH, dx, _, _, rfl, s12 _ _ hp, TL'.cl, TL'.nR, hf_rem _ _ _ _, aR, xs, rs, rfl, sSqT s12 hR, hP.mono fun t ys h => s12 _ _ h, S.rl, S.rb, fun H3 s3 => ?_⟩
    have s13 := s12.trans s3
    refine ⟨by show 4 ≤ sizeLine; decide, fun l hl => ?_⟩
    refine ⟨nlS, l, (rowsT ts kk cs rs).map (Txt.join spS), rfl, rfl, .inl (SqL.of upd_same), text_size S, k _ (s13.trans (same_upd hl))⟩
end
end Dk

set_option Elab.async false
set_option linter.all false
set_option maxRecDepth 100000
set_option maxHeartbeats 1000000
namespace Dk
open PySem PySem.Spec PyProof.Rows L2 TL
/-! ### cls(e, ..), cls a local name that holds an own class -/
def tMakeL (i : Nat) (C : Addr) (sp : Sp) (dvs : List V) (E : XK) (t : TA) : TE := fun σ H Q => σ[i]? = some (some (.ref C)) ∧ tMake C sp dvs E t σ H Q
section
variable {X : Cx} {CX : CXT} {k i : Nat} {f C : Addr} {fd : FuncData} {ps : List Str} {sp : Sp} {dvs : List V} {ds : List Value} {E : XK} {x : Str} {p pos : Pos} {e : Expr} {es : List Expr} {t : TA}
theorem pe_makeL (M : Mk X.K C f) (F : FnOk X.prog X.w X.K X.mg X.base CX k f fd ps sp) (hr : Room (k + 1) X.A) (hN : X.N[i]? = some x) (hv : Vis X.env.scope x) (hb : Binds X.K fd ps ds) (hd : Vals dvs ds) (hx : Passes CX X E) (ha : PA X (e :: es) t)
    (hdb : (x == ("__debug__" : Str)) = false := by decide) (hcd : (x == ("__classdict__" : Str)) = false := by decide)
    (he : starEach (e :: es) X.env = (false, eval e X.env) :: starEach es X.env := by rfl) (hpl : (backTo pos (starEach es X.env)).any (·.1) = false := by rfl) : PE X (.Call (.Name x p) (e :: es) [] pos) (tMakeL i C sp dvs E t) := by
  refine ⟨fun pins s σ H Q I h => ?_⟩
  obtain ⟨hs, ht⟩ := h
  refine wpAny_Call_Name_kw (thn ((pe_var (pos := p) hN hv hdb hcd).run pins s σ H (fun v H1 => v = .ref C ∧ H1 = H) I ⟨.ref C, hs, rfl, rfl⟩) fun u s1 ⟨v, H1, I1, r1, q1⟩ => ?_)
  obtain ⟨rfl, rfl⟩ := q1
  cases r1
  refine PySem.W.callWith_K (h₀ := X.base) I.ok.mod.kin M.kp (thn (ha.run pos pins s1 σ _ _ I1 ht) fun us s2 ⟨vs, H2, I2, r, q⟩ => ⟨I2.kIn, ?_⟩) he hpl
  exact run_make M F hr hb hd hx I2 r q
end
/-! ### reading a text -/
def remOf (x : Str) : Pr := match Txt.split x colS with
  | [a, b] => (numOf a, numOf b)
  | _ => (0, 0)
theorem rw_parts {x : Str} (h : isRW x = true) : ∃ a b, Txt.split x colS = [a, b] ∧ isNW a = true ∧ isNW b = true ∧ remOf x = (numOf a, numOf b) := by
  unfold isRW at h
  rw [Bool.and_eq_true] at h
  have hl : (Txt.split x colS).length = 2 := by simpa using h.1
  match e : Txt.split x colS, hl with
  | [a, b], _ =>
    rw [e] at h
    simp only [List.all_cons, List.all_nil, Bool.and_true, Bool.and_eq_true] at h
    exact ⟨a, b, rfl, h.2.1, h.2.2, by unfold remOf; rw [e]⟩
def spReadRem : Sp := fun vs H Q _ => ∃ x : Str, vs = [.str x] ∧ x.length ≤ 100000 ∧ isRW x = true ∧ ∀ (H' : Hp) (t : Addr), Same H H' → H t = none → H' t = some (.tup [.int (remOf x).1, .int (remOf x).2]) → Q (.ref t) H'
structure Rows4 (x : Str) (r0 : List Str) (wk : Str) (r2 r3 : List Str) : Prop where
  rows : (linesOf x).map rowOf = [r0, [wk], r2, r3]
  h0 : ∀ y ∈ r0, isTW y = true
  hk : isNW wk = true
  h2 : ∀ y ∈ r2, isNW y = true
  h3 : ∀ y ∈ r3, isRW y = true
  lines : (linesOf x).map (fun l => Txt.split l spS) = [wTab :: r0, [wKey, wk], wCar :: r2, wRem :: r3]
theorem fault_none {x : Str} (h : fault x = none) : ∃ r0 wk r2 r3, Rows4 x r0 wk r2 r3 := by
  unfold fault at h
  have d1 : ¬ wKey = wTab := by decide +kernel
  have d2 : ¬ wKey = wRem := by decide +kernel
  have d3 : ¬ wCar = wTab := by decide +kernel
  have d4 : ¬ wCar = wRem := by decide +kernel
  have d5 : ¬ wCar = wKey := by decide +kernel
  have d6 : ¬ wRem = wTab := by decide +kernel
  have step : ∀ {n : Nat} {w : Str} {ws ls : List Str}, faultL n (w :: ws) ls = none → ∃ l ls' r, ls = l :: ls' ∧ Txt.split l spS = w :: r ∧ areArgs w r = true ∧ faultL (n + 1) ws ls' = none := by
    intro n w ws ls h
    cases ls with
    | nil => cases h
    | cons l ls =>
      unfold faultL at h
      cases e : Txt.split l spS with
      | nil => rw [e] at h; cases h
      | cons f r =>
        rw [e] at h
        dsimp only at h
        by_cases c : f = w ∧ areArgs w r = true
        · rw [if_pos c] at h
          exact ⟨l, ls, r, rfl, by rw [e, c.1], c.2, h⟩
        · rw [if_neg c] at h; cases h
  obtain ⟨l0, ls0, r0, e0, p0, a0, h⟩ := step h
  obtain ⟨l1, ls1, r1, e1, p1, a1, h⟩ := step h
  obtain ⟨l2, ls2, r2, e2, p2, a2, h⟩ := step h
  obtain ⟨l3, ls3, r3, e3, p3, a3, h⟩ := step h
  have e4 : ls3 = [] := by
    cases ls3 with
    | nil => rfl
    | cons a b => cases h
  subst e1 e2 e3 e4
  have q0 : r0.all isTW = true := by unfold areArgs at a0; rw [if_pos rfl] at a0; exact a0
  have q1 : r1.length = 1 ∧ r1.all isNW = true := by
    unfold areArgs at a1
    rw [if_neg d1, if_neg d2] at a1
    by_cases c : r1.length = 1
    · rw [if_neg (fun q => q.2 c)] at a1; exact ⟨c, a1⟩
    · rw [if_pos ⟨rfl, c⟩] at a1; cases a1
  have q2 : r2.all isNW = true := by
    unfold areArgs at a2
    rw [if_neg d3, if_neg d4, if_neg (fun q => d5 q.1)] at a2; exact a2
  have q3 : r3.all isRW = true := by
    unfold areArgs at a3
    rw [if_neg d6, if_pos rfl] at a3; exact a3
  obtain ⟨wk, rfl⟩ : ∃ wk, r1 = [wk] := by
    match r1, q1.1 with
    | [a], _ => exact ⟨a, rfl⟩
  refine ⟨r0, wk, r2, r3, ?_, List.all_eq_true.mp q0, ?_, List.all_eq_true.mp q2, List.all_eq_true.mp q3, ?_⟩
  · rw [e0]
    simp only [List.map_cons, List.map_nil, rowOf, p0, p1, p2, p3, List.tail_cons]
  · have := q1.2
    simpa using this
  · rw [e0]
    simp only [List.map_cons, List.map_nil, p0, p1, p2, p3]
def spReadNs (K : PySem.W.Frag) : Sp := fun vs H Q _ => ∃ (a : Addr) (ws : List Str), vs = [.ref a] ∧ SqL K H a (ws.map V.str) ∧ ws.length ≤ 100000 ∧ (∀ x ∈ ws, isNW x = true) ∧ ∀ (H' : Hp) (q : Addr), Same H H' → H q = none → H' q = some (.tup ((ws.map numOf).map V.int)) → Q (.ref q) H'
def spReadRs (K : PySem.W.Frag) : Sp := fun vs H Q _ => ∃ (a : Addr) (ws : List Str), vs = [.ref a] ∧ SqL K H a (ws.map V.str) ∧ ws.length ≤ 100000 ∧ (∀ x ∈ ws, x.length ≤ 100000 ∧ isRW x = true) ∧ ∀ (H' : Hp) (q : Addr) (xs : List V), Same H H' → H q = none → H' q = some (.tup xs) → Prs H' xs (ws.map remOf) → Q (.ref q) H'
section
variable {P : Program} {w : World} {K : PySem.W.Frag} {mg : Str → Option Value} {base : Heap}
theorem scReadNs : FnScope ["words", "word"] ["words"] (defScope sReadNs) := ⟨rfl, rfl, rfl, by decide +kernel, rfl, by decide +kernel, by decide +kernel⟩
theorem ok_readns {f : Addr} {fd : FuncData} (F : Fun K "read_numbers" "read_numbers" sReadNs f fd) (gi : mg "int" = none) (gt : mg "tuple" = none) : FnOk P w K mg base CX0 1 f fd ["words"] (spReadNs K) := by
  refine F.ok scReadNs (fun vs H Q E h => ?_) (fun cdv A outer s H vs Q E hr h => ?_)
  · obtain ⟨a, ws, rfl, _⟩ := h
    rfl
  · obtain ⟨a2, ws, rfl, h2, hl, hw, k⟩ := h
    refine ⟨_, pss_one (ps_ret (pe_callTy call_tuple_of (by rfl) gt (by decide +kernel) (pa_cons (pe_lc (own := [("word", 1)]) (g := gName 1) (by rfl) scReadNs.nd (pi_list (pv 0)) (blkOk_by (N := ["words", "word"]) (sc := defScope sReadNs) (by decide +kernel))
            (fun _ _ _ _ _ => pg_name (i := 1) scReadNs.nd rfl (Or.inl rfl)) (fun _ _ _ _ _ => pts_nil) (fun _ _ _ _ _ => pe_callTy call_int_str (by rfl) gi (by decide +kernel) (pa_cons (pv 1) pa_nil))) pa_nil))), ?_⟩
    refine ⟨_, rfl, a2, rfl, ⟨_, h2⟩, fun D hD => lc_list (K := K) (a := a2) (xs := ws.map V.str)
              (fun i H3 => Same H H3 ∧ H3 D = some (.lst (((ws.take i).map numOf).map V.int))) ⟨same_upd hD, upd_same⟩ (fun i H3 _ ⟨e, _⟩ => e.seq h2) ?_ ?_⟩
    · rintro j y H3 hi ⟨s3, eD⟩
      obtain ⟨t, ht, rfl⟩ := map_at hi
      have hj : j < ws.length := (List.getElem?_eq_some_iff.mp ht).1
      have hnw := hw t (List.mem_of_getElem? ht)
      refine ⟨rfl, _, rfl, t, numOf t, rfl, (nw_num hnw).1, by have := nw_len hnw; omega, _, eD, ?_, fun b o eb => ?_, ?_⟩
      · rw [List.length_map, List.length_map, List.length_take]
        exact Nat.lt_of_le_of_lt (Nat.le_trans (Nat.min_le_left _ _) (by omega : j ≤ 100000)) (by decide)
      · rw [upd_ne (ne_of_none eb hD)]; exact s3 _ _ eb
      · rw [upd_same, take_more ht, List.map_append, List.map_append]; rfl
    rintro H3 ⟨s3, eD⟩
    rw [List.length_map, List.take_length] at eD
    refine ⟨D, _, rfl, .inl ⟨SqL.of eD, fun aC haC => ?_⟩⟩
    exact k _ aC (s3.trans (same_upd haC)) (s3.free haC) upd_same
theorem scReadRs : FnScope ["words", "word"] ["words"] (defScope sReadRs) := ⟨rfl, rfl, rfl, by decide +kernel, rfl, by decide +kernel, by decide +kernel⟩
theorem ok_readrs {f : Addr} {fd : FuncData} (F : Fun K "read_reminders" "read_reminders" sReadRs f fd) (gi : mg "int" = none) (gt : mg "tuple" = none) {fN : Addr} {fdN : FuncData} (gN : mg "read_numbers" = some (.ref fN)) (FN : Fun K "read_numbers" "read_numbers" sReadNs fN fdN) (bN : Binds K fdN ["words"] []) : FnOk P w K mg base CX0 2 f fd ["words"] (spReadRs K) := by
  have GN : FnOk P w K mg base CX0 1 fN fdN ["words"] (spReadNs K) := ok_readns FN gi gt
  refine F.ok scReadRs (fun vs H Q E h => ?_) (fun cdv A outer s H vs Q E hr h => ?_)
  · obtain ⟨a, ws, rfl, _⟩ := h
    rfl
  · obtain ⟨a3, ws, rfl, h3, hl, hw, k⟩ := h
    refine ⟨_, pss_one (ps_ret (pe_callTy call_tuple_of (by rfl) gt (by decide +kernel) (pa_cons (pe_lc (own := [("word", 1)]) (g := gName 1) (by rfl) scReadRs.nd (pi_list (pv 0)) (blkOk_by (N := ["words", "word"]) (sc := defScope sReadRs) (by decide +kernel))
            (fun _ _ _ _ _ => pg_name (i := 1) scReadRs.nd rfl (Or.inl rfl)) (fun _ _ _ _ _ => pts_nil) (fun _ _ _ _ _ => pe_call GN hr rfl gN FN.kp bN .nil pass0 (pa_cons (pe_split (pv 1) pe_str) pa_nil))) pa_nil))), ?_⟩
    refine ⟨_, rfl, a3, rfl, ⟨_, h3⟩, fun D hD => lc_list (K := K) (a := a3) (xs := ws.map V.str)
              (fun i H5 => ∃ xs, Same H H5 ∧ H5 D = some (.lst xs) ∧ Prs H5 xs ((ws.take i).map remOf)) ⟨[], same_upd hD, upd_same, .nil⟩ (fun i H5 _ ⟨_, e, _⟩ => e.seq h3) ?_ ?_⟩
    · rintro j y H5 hi ⟨xs, s5, eD, hP⟩
      obtain ⟨t, ht, rfl⟩ := map_at hi
      have hj : j < ws.length := (List.getElem?_eq_some_iff.mp ht).1
      obtain ⟨hz, hrw⟩ := hw t (List.mem_of_getElem? ht)
      obtain ⟨a, b, es, ha, hb, er⟩ := rw_parts hrw
      refine ⟨rfl, _, rfl, ⟨_, rfl⟩, t, colS, rfl, rfl, sepCol.z, Nat.le_trans (by omega : t.length + 2 ≤ 100002) (by decide), fun l hl => ?_⟩
      have s1 := same_upd (o := .lst ((Txt.split t colS).map V.str)) hl
      have eL : (upd H5 l (.lst ((Txt.split t colS).map V.str))) l = some (.lst ([a, b].map V.str)) := by rw [upd_same, es]
      generalize upd H5 l (.lst ((Txt.split t colS).map V.str)) = H6 at s1 eL
      refine ⟨l, [a, b], rfl, SqL.of eL, by simp, fun x hx => ?_, fun H7 q s7 hq eq => ⟨_, s7 _ _ (s1 _ _ eD), ?_, xs ++ [.ref q], fun b o eb => ?_, upd_same, ?_⟩⟩
      · simp only [List.mem_cons, List.not_mem_nil, or_false] at hx
        rcases hx with rfl | rfl
        · exact ha
        · exact hb
      · rw [hP.len, List.length_map, List.length_take]
        exact Nat.lt_of_le_of_lt (Nat.le_trans (Nat.min_le_left _ _) (by omega : j ≤ 100000)) (by decide)
      · rw [upd_ne (ne_of_none eb hD)]; exact s7 _ _ (s1 _ _ (s5 _ _ eb))
      · have tK : ∀ t' ys, H7 t' = some (.tup ys) → (upd H7 D (.lst (xs ++ [V.ref q]))) t' = some (.tup ys) := fun t' ys h => by
          rw [upd_ne (fun e => by rw [e, s7 _ _ (s1 _ _ eD)] at h; cases h)]; exact h
        rw [take_more ht, List.map_append]
        refine (hP.mono fun t' ys h => tK _ _ (s7 _ _ (s1 _ _ h))).app ⟨q, rfl, ?_⟩
        have e2 := tK _ _ eq
        rw [er]
        exact e2
    rintro H5 ⟨xs, s5, eD, hP⟩
    rw [List.length_map, List.take_length] at hP
    refine ⟨D, xs, rfl, .inl ⟨SqL.of eD, fun aR haR => ?_⟩⟩
    have sR := same_upd (o := .tup xs) haR
    exact k _ aR xs (s5.trans sR) (s5.free haR) upd_same (hP.mono fun t ys h => sR _ _ h)
end
end Dk

set_option Elab.async false
set_option linter.all false
set_option maxRecDepth 100000
set_option maxHeartbeats 1000000
namespace Dk
open PySem PySem.Spec PyProof.Rows L2 TL
def dStrs (ts : List Str) : PyData := .tuple (ts.map PyData.str)
def dInts (ns : List Int) : PyData := .tuple (ns.map PyData.int)
def dPrs (rs : List Pr) : PyData := .tuple (rs.map prR)
def spParse (K : PySem.W.Frag) (CH CI CT : Addr) : Sp := fun vs H Q E => ∃ x : Str, vs = [.ref CH, .str x] ∧ x.length ≤ 10000 ∧
  (∀ i, fault x = some i → TFRaised CT E H (i : Int)) ∧
  (∀ r0 wk r2 r3, Rows4 x r0 wk r2 r3 →
    (chkHouse (dStrs r0) (.int (numOf wk)) (dInts (r2.map numOf)) (dPrs (r3.map remOf)) = none → ∀ (H' : Hp) (p : Addr), Same H H' → H p = none → HouseAt K CH H' p r0 (numOf wk) (r2.map numOf) (r3.map remOf) → Q (.ref p) H') ∧
    (∀ part i, chkHouse (dStrs r0) (.int (numOf wk)) (dInts (r2.map numOf)) (dPrs (r3.map remOf)) = some (part, i) → Raised CI E H part (i : Int)))
structure TxtT (K : PySem.W.Frag) (mg : Str → Option Value) (fS fRR : Addr) (fdS fdRR : FuncData) : Prop where
  gS : mg "split_text" = some (.ref fS)
  FS : Fun K "split_text" "split_text" sSplit fS fdS
  bS : Binds K fdS ["text"] []
  gRR : mg "read_reminders" = some (.ref fRR)
  FRR : Fun K "read_reminders" "read_reminders" sReadRs fRR fdRR
  bRR : Binds K fdRR ["words"] []
  rn : ∃ f fd, mg "read_numbers" = some (.ref f) ∧ Fun K "read_numbers" "read_numbers" sReadNs f fd ∧ Binds K fd ["words"] []
theorem dpAll_ints {K : PySem.W.Frag} {H : Hp} : ∀ ns : List Int, DpAll K H (ns.map V.int) (ns.map PyData.int)
  | [] => .nil
  | n :: ns => .cons (.int n) (dpAll_ints ns)
theorem join_le {y : Str} {ps : List Str} : ∀ p ∈ ps, p.length ≤ (Txt.join y ps).length := by
  intro p hp
  rw [len_tl p, len_tl, join_eq, tl_join]
  have key : ∀ (S : List Nat) (l : List (List Nat)) (q : List Nat), q ∈ l → q.length ≤ (joinL S l).length := by
    intro S l
    induction l with
    | nil => intro q h; cases h
    | cons a l ih =>
      intro q h
      cases l with
      | nil => rw [List.mem_singleton.mp h]; exact Nat.le_refl _
      | cons b l =>
        show q.length ≤ (a ++ (S ++ joinL S (b :: l))).length
        rw [List.length_append, List.length_append]
        rcases List.mem_cons.mp h with rfl | h
        · omega
        · have := ih q h; omega
  exact key _ _ _ (List.mem_map.mpr ⟨p, hp, rfl⟩)
/-- every word of a text's lines is not larger than the text -/
theorem rows_bound {x : Str} {r0 r2 r3 : List Str} {wk : Str} (h : Rows4 x r0 wk r2 r3) : (∀ y ∈ r0, y.length ≤ x.length) ∧ (∀ y ∈ r2, y.length ≤ x.length) ∧ (∀ y ∈ r3, y.length ≤ x.length) ∧ r0.length ≤ x.length + 2 ∧ r2.length ≤ x.length + 2 ∧ r3.length ≤ x.length + 2 := by
  have hb := split_bound (x := x) sepNl
  have key : ∀ r ∈ (linesOf x).map rowOf, (∀ y ∈ r, y.length ≤ x.length) ∧ r.length ≤ x.length + 2 := by
    intro r hr
    obtain ⟨l, hl, rfl⟩ := List.mem_map.mp hr
    have h1 := hb l hl
    have h2 := split_bound (x := l) sepSp
    have h3 := split_le l spS
    refine ⟨fun y hy => Nat.le_trans (h2 y (List.mem_of_mem_tail hy)) h1, ?_⟩
    unfold rowOf
    rw [List.length_tail]
    omega
  rw [h.rows] at key
  have k0 := key r0 (by simp)
  have k2 := key r2 (by simp)
  have k3 := key r3 (by simp)
  exact ⟨k0.1, k2.1, k3.1, k0.2, k2.2, k3.2⟩
section
variable {P : Program} {w : World} {K : PySem.W.Frag} {mg : Str → Option Value} {base : Heap} {C fI : Addr} {fdI : FuncData} {fII fIB fHO : Addr} {fdII fdIB fdHO : FuncData} {fIT fIR fAs : Addr} {fdIT fdIR fdAs : FuncData}
  {CH fP fT fK fC fR : Addr} {fdP fdT fdK fdC fdR : FuncData} {fTW fNW fRW : Addr} {fdTW fdNW fdRW : FuncData} {CT fTI fAA : Addr} {fdTI fdAA : FuncData} {fS fRR : Addr} {fdS fdRR : FuncData} {fH : Addr} {fdH : FuncData} {dvs : List V}
abbrev nParse : List Str := ["cls", "text", "tables", "keys", "careful", "reminders"]
theorem scParse : FnScope nParse ["cls", "text"] (defScope sParse) := ⟨rfl, rfl, rfl, by decide +kernel, rfl, by decide +kernel, by decide +kernel⟩
theorem ok_parse {f : Addr} {fd : FuncData} (F : Fun K "parse" "House.parse" sParse f fd) (T : TxtA mg) (TC : TxtC mg) (TF : TxtF K mg fII fIB fHO fdII fdIB fdHO) (TI : TxtI K mg fIT fIR fAs fdIT fdIR fdAs) (TH : TxtIH K mg C fI fdI)
    (TL' : TxtL K mg CH fP fT fK fC fR fdP fdT fdK fdC fdR) (TM : TxtM K mg fTW fNW fRW fdTW fdNW fdRW) (TTF : TxtTF K mg CT fTI fdTI) (TO : TxtO K mg fAA fdAA) (TT : TxtT K mg fS fRR fdS fdRR)
    (FH : FunD K "__init__" "House.__init__" (defArgs sInit) (defBody sInit) (defScope sInit) dvs [] fH fdH) (bH : Binds K fdH ["self", "tables", "keys", "careful", "reminders"] []) (M : Mk K CH fH) :
    FnOk P w K mg base (L2.CX P w) 7 f fd ["cls", "text"] (spParse K CH C CT) := by
  have GS : FnOk P w K mg base (L2.CX P w) 5 fS fdS ["text"] (spSplitText CT) := ok_split TT.FS T TF TM TI TTF TO
  obtain ⟨fRN, fdRN, gRN, FRN, bRN⟩ := TT.rn
  have GN : FnOk P w K mg base CX0 1 fRN fdRN ["words"] (spReadNs K) := ok_readns FRN TF.int TF.tuple
  have GR : FnOk P w K mg base CX0 2 fRR fdRR ["words"] (spReadRs K) := ok_readrs TT.FRR TF.int TF.tuple gRN FRN bRN
  have GH : FnOk P w K mg base (L2.CX P w) 5 fH fdH ["self", "tables", "keys", "careful", "reminders"] (spInit K CH C) := ok_init FH T TC TF TI TH TL'
  refine F.okX scParse (fun vs H Q E h => ?_) (fun cdv A outer s H vs Q E hr h => ?_)
  · obtain ⟨x, rfl, _⟩ := h
    rfl
  · obtain ⟨x, rfl, hz, k1, k2⟩ := h
    have hr5 : Room 5 (A.deeper (envOfC (Str.ofString "House.parse") (defScope sParse) s.heap.objs.size f cdv)) := hr.mono (by decide)
    have hr1 : Room 1 (A.deeper (envOfC (Str.ofString "House.parse") (defScope sParse) s.heap.objs.size f cdv)) := hr.mono (by decide)
    have hr2 : Room 2 (A.deeper (envOfC (Str.ofString "House.parse") (defScope sParse) s.heap.objs.size f cdv)) := hr.mono (by decide)
    refine ⟨_, pss_cons (ps_asg (pe_call GS hr5 rfl TT.gS TT.FS.kp TT.bS .nil (passes_call (takes_of rfl rfl rfl rfl) (fun _ _ _ _ h => h)) (pa_cons (pv 1) pa_nil)) (pg_unl (n := 4) rfl (pgs_cons (pg_name (i := 2) scParse.nd rfl (.inl rfl)) (pgs_cons (pg_name (i := 3) scParse.nd rfl (.inl rfl)) (pgs_cons (pg_name (i := 4) scParse.nd rfl (.inl rfl)) (pgs_cons (pg_name (i := 5) scParse.nd rfl (.inl rfl)) pgs_nil))))))
      (pss_one (ps_ret (pe_makeL (i := 0) M GH hr rfl (.inl rfl) bH .nil (passes_call (takes_of rfl rfl rfl rfl) (fun _ _ _ _ h => h))
        (pa_cons (pe_callTy call_tuple_of (by rfl) TF.tuple (by decide +kernel) (pa_cons (pv 2) pa_nil))
        (pa_cons (pe_callTy call_int_str (by rfl) TF.int (by decide +kernel) (pa_cons (pe_ix ix_list (pv 3) pe_int (fun _ _ => rfl)) pa_nil))
        (pa_cons (pe_call GN hr1 rfl gRN FRN.kp bRN .nil pass0 (pa_cons (pv 4) pa_nil))
        (pa_cons (pe_call GR hr2 rfl TT.gRR TT.FRR.kp TT.bRR .nil pass0 (pa_cons (pv 5) pa_nil)) pa_nil))))))), ?_⟩
    refine ⟨_, rfl, x, rfl, hz, fun hF H1 a as s1 hna eA hR => ?_, k1⟩
    obtain ⟨r0, wk, r2, r3, R4⟩ := fault_none hF
    obtain ⟨k3, k4⟩ := k2 r0 wk r2 r3 R4
    obtain ⟨b0, b2, b3, c0, c2, c3⟩ := rows_bound R4
    rw [R4.rows] at hR
    cases hR with
    | cons h0 hR =>
      cases hR with
      | cons h1 hR =>
        cases hR with
        | cons h2 hR =>
          cases hR with
          | cons h3 hR =>
            cases hR
            rename_i a0 a1 a2 a3
            refine ⟨a, _, rfl, SqL.of eA, rfl, _, _, rfl, _, _, rfl, _, _, rfl, _, _, rfl, rfl, ?_⟩
            refine ⟨rfl, ?_⟩
            -- the timetables
            refine ⟨_, rfl, a0, _, rfl, .inl ⟨SqL.of h0, fun aT haT => ?_⟩⟩
            have sT := same_upd (o := .tup (r0.map V.str)) haT
            have eT : (upd H1 aT (.tup (r0.map V.str))) aT = some (.tup (r0.map V.str)) := upd_same
            have s2 := s1.trans sT
            have h1' := sT _ _ h1
            have h2' := sT _ _ h2
            have h3' := sT _ _ h3
            generalize upd H1 aT (.tup (r0.map V.str)) = H2 at sT eT s2 h1' h2' h3'
            -- the keys
            refine ⟨_, rfl, a1, _, 0, .str wk, rfl, rfl, SqL.of h1', at0, wk, numOf wk, rfl, (nw_num R4.hk).1, by have := nw_len R4.hk; omega, ?_⟩
            -- the careful persons
            refine ⟨_, rfl, a2, r2, rfl, SqL.of h2', by omega, R4.h2, fun H4 aC sC haC eC => ?_⟩
            have eT2 := sC _ _ eT
            have s4 := s2.trans sC
            have h3'' := sC _ _ h3'
            -- the reminders
            refine ⟨_, rfl, a3, r3, rfl, SqL.of h3'', by omega, fun t ht => ⟨Nat.le_trans (b3 t ht) (by omega), R4.h3 t ht⟩, fun H6 aR xs sR haR eR hP6 => ?_⟩
            have eT3 := sR _ _ eT2
            have eC3 := sR _ _ eC
            have s6 := s4.trans sR
            -- the house
            intro p dx hp hdx npd
            have sN : Same H6 (upd (upd H6 dx (.own p)) p (.ins CH dx [])) := fun b o e => by
              rw [upd_ne (ne_of_none e hp), upd_ne (ne_of_none e hdx)]; exact e
            refine ⟨p, dx, .ref aT, .int (numOf wk), .ref aC, .ref aR, dStrs r0, .int (numOf wk), dInts (r2.map numOf), dPrs (r3.map remOf), rfl,
              dpSame sN _ _ (.tup (SqT.of eT3) (dpAll_strs r0)), .int _, dpSame sN _ _ (.tup (SqT.of eC3) (dpAll_ints _)), dpSame sN _ _ (.tup (SqT.of eR) (dpAll_prs hP6)), ?_, upd_same, fun hc H7 k7 e7 => ⟨rfl, ?_⟩, fun part i hc => Raised.mono (k4 part i hc) (s6.trans sN)⟩
            · intro ds hds y hy
              cases hds
              obtain ⟨t, ht, rfl⟩ := List.mem_map.mp hy
              exact Nat.le_trans (b0 t ht) (by omega)
            · have s7 : Same H6 H7 := fun b o e => k7 b o (ne_of_none e hp) (sN _ _ e)
              exact k3 hc H7 p (s6.trans s7) (s6.free hp) ⟨⟨dx, aT, aC, aR, xs, e7, SqT.of (s7 _ _ eT3), SqT.of (s7 _ _ eC3), SqT.of (s7 _ _ eR), hP6.mono fun t ys h => s7 _ _ h⟩⟩
end
end Dk

set_option Elab.async false
set_option linter.all false
set_option maxRecDepth 100000
set_option maxHeartbeats 1000000
namespace Dk
open PySem PySem.Spec PyProof.Rows L2 TL
/-! ### l.count(x), flat items -/
def rCntF (K : PySem.W.Frag) : V → List V → Hp → VK → Prop := fun x xs H Q => ∃ (a : Addr) (ys : List V) (y : V), x = .ref a ∧ xs = [y] ∧ SqL K H a ys ∧ flatV y = true ∧ ys.all flatV = true ∧ Q (.int ((ys.countP fun z => eqV z y : Nat) : Int)) H
theorem countP_vals {y : V} : ∀ {ys : List V} {us : List Value}, Vals ys us → ys.all flatV = true → us.countP (eqU y) = ys.countP fun z => eqV z y
  | _, _, .nil, _ => rfl
  | z :: ys, u :: us, .cons r t, f => by
    rw [List.all_cons, Bool.and_eq_true] at f
    rw [List.countP_cons, List.countP_cons, countP_vals t f.2, eqU_of r f.1]
theorem mt_countF {X : Cx} : MtR X "list.count" (rCntF X.K) := by
  intro pins s σ H x xs v us Q I rx rxs h
  obtain ⟨a, ys, y, rfl, rfl, hs, fy, fys, q⟩ := h
  cases rx
  obtain ⟨uy, rfl, ry⟩ := rxs.one
  obtain ⟨its, rv, ⟨⟨c0, dd, d0, sl⟩, n, ho, hc, _, hd⟩, _⟩ := I.list hs
  simp only at hc hd
  subst hc hd
  refine call_meets PySem.F.slot_list_count ⟨_, ho, rfl⟩ PySem.F.entry_list_count (PySem.F.args_list_count_2 _ _)
    (SeqAt.list_countAt a its.toArray n dd sl uy (eqU y)) ⟨ho, fun u' hu' => mem_eqAt ry fy rv fys u' (by simpa using hu'), ?_⟩
  refine ⟨.int ((ys.countP fun z => eqV z y : Nat) : Int), H, I.tok _, ⟨s.toks, ?_⟩, q⟩
  show Value.int ((its.toArray.toList.countP (eqU y) : Nat) : Int) s.toks = _
  rw [show its.toArray.toList.countP (eqU y) = ys.countP fun z => eqV z y from countP_vals rv fys]
/-! ### the kind of an error -/
def errNames : List Str := ["tick", "person", "limit", "different", "waiting", "contradiction", "name", "unknown", "house", "text", "code", "operation"]
structure TxtN (mg : Str → Option Value) (cs : Nat → Addr) (CE : Addr) : Prop where
  gE : mg "HouseError" = some (.ref CE)
  n0 : mg "InvalidTick" = some (.ref (cs 0))
  n1 : mg "UnknownPerson" = some (.ref (cs 1))
  n2 : mg "InvalidLimit" = some (.ref (cs 2))
  n3 : mg "DifferentHouses" = some (.ref (cs 3))
  n4 : mg "InvalidWaiting" = some (.ref (cs 4))
  n5 : mg "Contradiction" = some (.ref (cs 5))
  n6 : mg "InvalidName" = some (.ref (cs 6))
  n7 : mg "UnknownName" = some (.ref (cs 7))
  n8 : mg "InvalidHouse" = some (.ref (cs 8))
  n9 : mg "TextFault" = some (.ref (cs 9))
  n10 : mg "InvalidCode" = some (.ref (cs 10))
  n11 : mg "InvalidOperation" = some (.ref (cs 11))
  vE : mg "ValueError" = none
  isi : mg "isinstance" = none
/-- the class at D is the j-th -/
structure ErrKit (K : PySem.W.Frag) (cs : Nat → Addr) (CE D : Addr) (j : Nat) : Prop where
  at_ : ∀ i, i < 12 → PySem.W.kitOne K (.ref D) (.ref (cs i)) = some (decide (i = j))
  v : PySem.W.kitOne K (.ref D) (.type "ValueError") = some true
  ex : PySem.W.exmOne K (.ref D) (.ref CE) = some true
  C : ExcC K D
/-- isinstance(e, c) -/
def rIsX (K : PySem.W.Frag) (a : Addr) (cls : Value) (d : Option Addr) : List V → Hp → VK → Prop := fun xs H Q => ∃ (D : Addr) (_ : ExcC K D), rIsD K D a cls d xs H Q
theorem call_isX {X : Cx} {a : Addr} {oe : Obj} {cls : Value} {d : Option Addr} {pn : List (Addr × Obj)} (hz : Zc cls d oe) (hf : ∃ vs, oe.data = .fields vs) : CallR (X.suite a ((a, oe) :: pn)) (.builtin "isinstance") (rIsX X.K a cls d) := by
  intro pins s σ H xs us Q I r h
  obtain ⟨D, C, h⟩ := h
  exact call_isD C hz hf pins s σ H xs us Q I r h
abbrev tfFields (i : Int) : List (Str × V) := [("line", .int i)]
abbrev nErr : List Str := ["_law_call", "e", "_law_kinds", "_law_names", "_law_name"]
/-- what the call's error must tell: (word, value) -/
def EErr (K : PySem.W.Frag) (CI CT : Addr) (Q : VK) : XK := fun cls d H =>
  (∃ (part : Str) (i : Int) (dd : Addr), cls = .ref CI ∧ d = some dd ∧ H dd = some (.xd [("index", .int i), ("part", .str part)]) ∧
    ∀ (H' : Hp) (p t : Addr), Same H H' → H' t = some (.tup [.str part, .int i]) → H' p = some (.tup [.str (Str.ofString "house"), .ref t]) → Q (.ref p) H') ∨
  (∃ (i : Int) (dd : Addr), cls = .ref CT ∧ d = some dd ∧ H dd = some (.xd [("line", .int i)]) ∧
    ∀ (H' : Hp) (p : Addr), Same H H' → H' p = some (.tup [.str (Str.ofString "text"), .int i]) → Q (.ref p) H')
def TErr (K : PySem.W.Frag) (CI CT : Addr) : (XK → Hp → VK → Prop) → Hp → VK → Prop := fun tl H Q => tl (EErr K CI CT Q) H fun _ H' => Q .non H'
theorem scErr : FnScope nErr ["_law_call"] (defScope sErr) := ⟨rfl, rfl, rfl, by decide +kernel, rfl, by decide +kernel, by decide +kernel⟩
structure XFs (K : PySem.W.Frag) (CI CT : Addr) : Prop where
  xI : XfC K CI
  xT : XfC K CT
  nP : PySem.W.findIn K (.ref CI) "part" = some none
  nI : PySem.W.findIn K (.ref CI) "index" = some none
  nL : PySem.W.findIn K (.ref CT) "line" = some none
  nC : PySem.W.findIn K (.ref CI) "place" = some none
section
variable {P : Program} {w : World} {K : PySem.W.Frag} {mg : Str → Option Value} {base : Heap} {cs : Nat → Addr} {CE CI CT : Addr}
def flags (j : Nat) : List V := (List.range 12).map fun i => V.bl (decide (i = j))
theorem flags_flat (j : Nat) : (flags j).all flatV = true := by
  refine List.all_eq_true.mpr fun x hx => ?_
  obtain ⟨i, _, rfl⟩ := List.mem_map.mp hx
  rfl
theorem flags_at {j m : Nat} {z : V} (h : (flags j)[m]? = some z) : z = .bl (decide (m = j)) := by
  unfold flags at h
  rw [List.getElem?_map] at h
  cases e : (List.range 12)[m]? with
  | none => rw [e] at h; cases h
  | some i =>
    rw [e] at h
    have hi := List.getElem?_eq_some_iff.mp e
    obtain ⟨h1, h2⟩ := hi
    rw [List.getElem_range] at h2
    subst h2
    exact (Option.some.inj h).symm
theorem flags_no {j m : Nat} {z : V} (hm : m < j) (h : (flags j)[m]? = some z) : eqV z (.bl true) = false := by
  rw [flags_at h, decide_eq_false (by omega)]; rfl
theorem flags_yes {j : Nat} (h : j < 12) : (flags j)[j]? = some (.bl true) := by
  unfold flags
  rw [List.getElem?_map, List.getElem?_range h]
  show some (V.bl (decide (j = j))) = _
  rw [decide_eq_true rfl]
theorem flags_one : ∀ {j : Nat}, (j = 8 ∨ j = 9) → (flags j).countP (fun z => eqV z (.bl true)) = 1 := by
  rintro j (rfl | rfl) <;> rfl
theorem is_step {K : PySem.W.Frag} {cs : Nat → Addr} {CE D0 a dd : Addr} {j i : Nat} {fs : List (Str × V)} {H : Hp} {Q : VK} (EK : ErrKit K cs CE D0 j) (e : H dd = some (.xd fs)) (hi : i < 12) (q : Q (.bl (decide (i = j))) H) :
    rIsX K a (.ref D0) (some dd) [.ref a, .ref (cs i)] H Q := ⟨D0, EK.C, .ref (cs i), .ref (cs i), _, dd, fs, rfl, rfl, e, rfl, fun _ z => z, EK.at_ i hi, q⟩
abbrev cxE (X : Cx) (g : Addr) (cdg : Value) (s : Shared) (H : Hp) : Cx := (cxOf C8.CX0 X.prog X.w X.K X.mg X.base nErr "_law_error_of" (defScope sErr) g cdg X.A X.stack s H C8.E0).nox
abbrev suiteE : List Stmt := match defBody sErr with
  | .Try _ [.ExceptHandler _ _ b _] _ _ _ :: _ => b
  | _ => []
abbrev bodyE : List Stmt := match defBody sErr with
  | .Try b _ _ _ _ :: _ => b
  | _ => []
def tsS0 (K : PySem.W.Frag) (CI CT a : Addr) (cls : Value) (d : Option Addr) : TS := fun D σ H => (∃ v0 v2 v3 v4, σ = [v0, some (.ref a), v2, v3, v4]) ∧ EErr K CI CT D.rt cls d H
def tsS (K : PySem.W.Frag) (CI CT a : Addr) (cls : Value) (d : Option Addr) : TS := fun D σ H => (∃ σ0 : L2.St, σ = σ0.set 1 (some (.ref a))) ∧ EErr K CI CT D.rt cls d H
theorem five {σ0 : L2.St} {a : Addr} (h : (σ0.set 1 (some (V.ref a))).length = 5) : ∃ v0 v2 v3 v4, σ0.set 1 (some (V.ref a)) = [v0, some (.ref a), v2, v3, v4] := by
  rw [List.length_set] at h
  match σ0, h with
  | [v0, _, v2, v3, v4], _ => exact ⟨v0, v2, v3, v4, rfl⟩
theorem suite_ok {X : Cx} {g : Addr} {cdg : Value} {s : Shared} {H : Hp} (N : TxtN X.mg cs CE) (EI : ErrKit X.K cs CE CI 8) (ET : ErrKit X.K cs CE CT 9) (XF : XFs X.K CI CT) (hu : X.A.units + 100 < cLine)
    {a : Addr} {oe : Obj} {cls : Value} {d : Option Addr} {pn : List (Addr × Obj)} (hz : Zc cls d oe) (hf : ∃ vs, oe.data = .fields vs) : PSs ((cxE X g cdg s H).suite a ((a, oe) :: pn)) suiteE (tsS X.K CI CT a cls d) := by
  have isi : ((cxE X g cdg s H).suite a ((a, oe) :: pn)).mg "isinstance" = none := N.isi
  have hh : ∃ t, PSs ((cxE X g cdg s H).suite a ((a, oe) :: pn)) suiteE t ∧ ∀ D σ H', tsS0 X.K CI CT a cls d D σ H' → t D σ H' := by
    have hu2 : ((cxE X g cdg s H).suite a ((a, oe) :: pn)).A.units + 65 < cLine := by
      show X.A.units + 3 + 65 < cLine
      omega
    refine ⟨_, (pss_cons (ps_set (i := 2) scErr.nd rfl (.inl rfl) (pe_lst (pa_cons (pe_callB (call_isX hz hf) (by rfl) N.isi (by decide +kernel) (pa_cons (pv 1) (pa_cons (pe_glob (v := .ref (cs 0)) (by rfl) N.n0 rfl) pa_nil))) (pa_cons (pe_callB (call_isX hz hf) (by rfl) N.isi (by decide +kernel) (pa_cons (pv 1) (pa_cons (pe_glob (v := .ref (cs 1)) (by rfl) N.n1 rfl) pa_nil))) (pa_cons (pe_callB (call_isX hz hf) (by rfl) N.isi (by decide +kernel) (pa_cons (pv 1) (pa_cons (pe_glob (v := .ref (cs 2)) (by rfl) N.n2 rfl) pa_nil))) pa_nil)))))
      (pss_cons (ps_set (i := 2) scErr.nd rfl (.inl rfl) (pe_op op_cat (pv 2) (pe_lst (pa_cons (pe_callB (call_isX hz hf) (by rfl) N.isi (by decide +kernel) (pa_cons (pv 1) (pa_cons (pe_glob (v := .ref (cs 3)) (by rfl) N.n3 rfl) pa_nil))) (pa_cons (pe_callB (call_isX hz hf) (by rfl) N.isi (by decide +kernel) (pa_cons (pv 1) (pa_cons (pe_glob (v := .ref (cs 4)) (by rfl) N.n4 rfl) pa_nil))) (pa_cons (pe_callB (call_isX hz hf) (by rfl) N.isi (by decide +kernel) (pa_cons (pv 1) (pa_cons (pe_glob (v := .ref (cs 5)) (by rfl) N.n5 rfl) pa_nil))) pa_nil))))))
      (pss_cons (ps_set (i := 2) scErr.nd rfl (.inl rfl) (pe_op op_cat (pv 2) (pe_lst (pa_cons (pe_callB (call_isX hz hf) (by rfl) N.isi (by decide +kernel) (pa_cons (pv 1) (pa_cons (pe_glob (v := .ref (cs 6)) (by rfl) N.n6 rfl) pa_nil))) (pa_cons (pe_callB (call_isX hz hf) (by rfl) N.isi (by decide +kernel) (pa_cons (pv 1) (pa_cons (pe_glob (v := .ref (cs 7)) (by rfl) N.n7 rfl) pa_nil))) (pa_cons (pe_callB (call_isX hz hf) (by rfl) N.isi (by decide +kernel) (pa_cons (pv 1) (pa_cons (pe_glob (v := .ref (cs 8)) (by rfl) N.n8 rfl) pa_nil))) pa_nil))))))
      (pss_cons (ps_set (i := 2) scErr.nd rfl (.inl rfl) (pe_op op_cat (pv 2) (pe_lst (pa_cons (pe_callB (call_isX hz hf) (by rfl) N.isi (by decide +kernel) (pa_cons (pv 1) (pa_cons (pe_glob (v := .ref (cs 9)) (by rfl) N.n9 rfl) pa_nil))) (pa_cons (pe_callB (call_isX hz hf) (by rfl) N.isi (by decide +kernel) (pa_cons (pv 1) (pa_cons (pe_glob (v := .ref (cs 10)) (by rfl) N.n10 rfl) pa_nil))) (pa_cons (pe_callB (call_isX hz hf) (by rfl) N.isi (by decide +kernel) (pa_cons (pv 1) (pa_cons (pe_glob (v := .ref (cs 11)) (by rfl) N.n11 rfl) pa_nil))) pa_nil))))))
      (pss_cons (ps_if (PW.pt (pw_or (pt_cmpR op_ne (pe_bm PySem.F.plainAttrs_list PySem.F.slot_list_count PySem.F.type_list_count mt_countF (pv 2) (pa_cons pe_bl pa_nil)) pe_int (nomark _)) (pw_or1 (pt_not (pt_val (pe_callB (call_isX hz hf) (by rfl) N.isi (by decide +kernel) (pa_cons (pv 1) (pa_cons (pe_bltn (v := .ty "ValueError") (by rfl) N.vE (by decide +kernel) rfl) pa_nil)))))))) (pss_one (ps_ret (pe_tup (pa_cons pe_str (pa_cons pe_int pa_nil))))) pss_nil)
      (pss_cons (ps_set (i := 3) scErr.nd rfl (.inl rfl) (pe_lst (pa_cons pe_str (pa_cons pe_str (pa_cons pe_str (pa_cons pe_str (pa_cons pe_str (pa_cons pe_str (pa_cons pe_str (pa_cons pe_str (pa_cons pe_str (pa_cons pe_str pa_nil))))))))))))
      (pss_cons (ps_set (i := 4) scErr.nd rfl (.inl rfl) (pe_ix ix_list (pe_op op_cat (pv 3) (pe_lst (pa_cons pe_str (pa_cons pe_str pa_nil)))) (pe_bm PySem.F.plainAttrs_list PySem.F.slot_list_index PySem.F.type_list_index mt_index (pv 2) (pa_cons pe_bl pa_nil)) (fun _ _ => rfl)))
      (pss_cons (ps_if (pt_cmpR op_eq (pv 4) pe_str (nomark _)) (pss_one (ps_ret (pe_tup (pa_cons (pv 4) (pa_cons (pe_tup (pa_cons (pe_xf XF.xI XF.nP hz hf (pv 1)) (pa_cons (pe_xf XF.xI XF.nI hz hf (pv 1)) pa_nil))) pa_nil))))) pss_nil)
      (pss_cons (ps_if (pt_cmpR op_eq (pv 4) pe_str (nomark _)) (pss_one (ps_ret (pe_tup (pa_cons (pv 4) (pa_cons (pe_xf XF.xT XF.nL hz hf (pv 1)) pa_nil))))) pss_nil)
      (pss_one (ps_ret (pe_tup (pa_cons (pv 4) (pa_cons (pe_ifExp (pt_cmpR (op_inD (by show _ < cLine; exact hu2)) (pv 4) (pe_lst (pa_cons pe_str (pa_cons pe_str pa_nil))) (by rfl)) (pe_xf XF.xI XF.nC hz hf (pv 1)) pe_int) pa_nil)))))))))))))), fun D σ H' h => ?_⟩
    obtain ⟨⟨v0, v2, v3, v4, rfl⟩, h⟩ := h
    obtain ⟨D0, j, dd, fs, EK, ecls, ed, edd, hj, fin⟩ : ∃ (D0 : Addr) (j : Nat) (dd : Addr) (fs : List (Str × V)), ErrKit X.K cs CE D0 j ∧ cls = .ref D0 ∧ d = some dd ∧ H' dd = some (.xd fs) ∧ (j = 8 ∨ j = 9) ∧
        ((j = 8 ∧ D0 = CI ∧ ∃ (part : Str) (i : Int), fs = ihFields part i ∧ ∀ (H2 : Hp) (p t : Addr), Same H' H2 → H2 t = some (.tup [.str part, .int i]) → H2 p = some (.tup [.str (Str.ofString "house"), .ref t]) → D.rt (.ref p) H2) ∨
         (j = 9 ∧ D0 = CT ∧ ∃ (i : Int), fs = tfFields i ∧ ∀ (H2 : Hp) (p : Addr), Same H' H2 → H2 p = some (.tup [.str (Str.ofString "text"), .int i]) → D.rt (.ref p) H2)) := by
      rcases h with ⟨part, i, dd, e1, e2, e3, k⟩ | ⟨i, dd, e1, e2, e3, k⟩
      · exact ⟨CI, 8, dd, _, EI, e1, e2, e3, .inl rfl, .inl ⟨rfl, rfl, part, i, rfl, k⟩⟩
      · exact ⟨CT, 9, dd, _, ET, e1, e2, e3, .inr rfl, .inr ⟨rfl, rfl, i, rfl, k⟩⟩
    subst ecls ed
    clear h
    -- the kinds
    refine ⟨_, rfl, is_step EK edd (by decide) ⟨_, rfl, is_step EK edd (by decide) ⟨_, rfl, is_step EK edd (by decide) ⟨by show 3 ≤ sizeLine; decide, fun l1 hl1 => ?_⟩⟩⟩⟩
    have s1 := same_upd (o := .lst [.bl (decide (0 = j)), .bl (decide (1 = j)), .bl (decide (2 = j))]) hl1
    have e1 : (upd H' l1 (.lst [.bl (decide (0 = j)), .bl (decide (1 = j)), .bl (decide (2 = j))])) l1 = some (.lst [.bl (decide (0 = j)), .bl (decide (1 = j)), .bl (decide (2 = j))]) := upd_same
    generalize upd H' l1 (.lst [.bl (decide (0 = j)), .bl (decide (1 = j)), .bl (decide (2 = j))]) = H1 at s1 e1
    refine ⟨_, rfl, _, rfl, is_step EK (s1 _ _ edd) (by decide) ⟨_, rfl, is_step EK (s1 _ _ edd) (by decide) ⟨_, rfl, is_step EK (s1 _ _ edd) (by decide) ⟨by show 3 ≤ sizeLine; decide, fun l2 hl2 => ?_⟩⟩⟩⟩
    have s2 := s1.trans (same_upd (o := .lst [.bl (decide (3 = j)), .bl (decide (4 = j)), .bl (decide (5 = j))]) hl2)
    have e1' := same_upd (o := .lst [.bl (decide (3 = j)), .bl (decide (4 = j)), .bl (decide (5 = j))]) hl2 _ _ e1
    have e2 : (upd H1 l2 (.lst [.bl (decide (3 = j)), .bl (decide (4 = j)), .bl (decide (5 = j))])) l2 = some (.lst [.bl (decide (3 = j)), .bl (decide (4 = j)), .bl (decide (5 = j))]) := upd_same
    refine ⟨l1, l2, _, _, rfl, rfl, e1', e2, by show 3 + 3 ≤ sizeLine; decide, fun p1 hp1 => ?_⟩
    have s3 := s2.trans (same_upd (o := .lst ([.bl (decide (0 = j)), .bl (decide (1 = j)), .bl (decide (2 = j))] ++ [.bl (decide (3 = j)), .bl (decide (4 = j)), .bl (decide (5 = j))])) hp1)
    have f1 : (upd (upd H1 l2 (.lst [.bl (decide (3 = j)), .bl (decide (4 = j)), .bl (decide (5 = j))])) p1 (.lst ([.bl (decide (0 = j)), .bl (decide (1 = j)), .bl (decide (2 = j))] ++ [.bl (decide (3 = j)), .bl (decide (4 = j)), .bl (decide (5 = j))]))) p1 = some (.lst (([.bl (decide (0 = j)), .bl (decide (1 = j)), .bl (decide (2 = j))] ++ [.bl (decide (3 = j)), .bl (decide (4 = j)), .bl (decide (5 = j))]))) := upd_same
    generalize upd (upd H1 l2 (.lst [.bl (decide (3 = j)), .bl (decide (4 = j)), .bl (decide (5 = j))])) p1 (.lst ([.bl (decide (0 = j)), .bl (decide (1 = j)), .bl (decide (2 = j))] ++ [.bl (decide (3 = j)), .bl (decide (4 = j)), .bl (decide (5 = j))])) = H2 at s3 f1
    generalize eA : ([.bl (decide (0 = j)), .bl (decide (1 = j)), .bl (decide (2 = j))] ++ [.bl (decide (3 = j)), .bl (decide (4 = j)), .bl (decide (5 = j))] : List V) = A6 at f1
    have lA : A6.length = 6 := by rw [← eA]; rfl
    clear e1' e2 s1 s2 e1 hl1 hl2 hp1
    refine ⟨_, rfl, _, rfl, is_step EK (s3 _ _ edd) (by decide) ⟨_, rfl, is_step EK (s3 _ _ edd) (by decide) ⟨_, rfl, is_step EK (s3 _ _ edd) (by decide) ⟨by show 3 ≤ sizeLine; decide, fun l3 hl3 => ?_⟩⟩⟩⟩
    have s4 := s3.trans (same_upd (o := .lst [.bl (decide (6 = j)), .bl (decide (7 = j)), .bl (decide (8 = j))]) hl3)
    have f1' := same_upd (o := .lst [.bl (decide (6 = j)), .bl (decide (7 = j)), .bl (decide (8 = j))]) hl3 _ _ f1
    have e3 : (upd H2 l3 (.lst [.bl (decide (6 = j)), .bl (decide (7 = j)), .bl (decide (8 = j))])) l3 = some (.lst [.bl (decide (6 = j)), .bl (decide (7 = j)), .bl (decide (8 = j))]) := upd_same
    generalize upd H2 l3 (.lst [.bl (decide (6 = j)), .bl (decide (7 = j)), .bl (decide (8 = j))]) = H3 at s4 f1' e3
    refine ⟨p1, l3, _, _, rfl, rfl, f1', e3, by rw [lA]; show 6 + 3 ≤ sizeLine; decide, fun p2 hp2 => ?_⟩
    have s5 := s4.trans (same_upd (o := .lst (A6 ++ [.bl (decide (6 = j)), .bl (decide (7 = j)), .bl (decide (8 = j))])) hp2)
    have f2 : (upd H3 p2 (.lst (A6 ++ [.bl (decide (6 = j)), .bl (decide (7 = j)), .bl (decide (8 = j))]))) p2 = some (.lst (A6 ++ [.bl (decide (6 = j)), .bl (decide (7 = j)), .bl (decide (8 = j))])) := upd_same
    generalize upd H3 p2 (.lst (A6 ++ [.bl (decide (6 = j)), .bl (decide (7 = j)), .bl (decide (8 = j))])) = H4 at s5 f2
    clear f1' e3 s3 s4 f1 hl3 hp2
    refine ⟨_, rfl, _, rfl, is_step EK (s5 _ _ edd) (by decide) ⟨_, rfl, is_step EK (s5 _ _ edd) (by decide) ⟨_, rfl, is_step EK (s5 _ _ edd) (by decide) ⟨by show 3 ≤ sizeLine; decide, fun l4 hl4 => ?_⟩⟩⟩⟩
    have s6 := s5.trans (same_upd (o := .lst [.bl (decide (9 = j)), .bl (decide (10 = j)), .bl (decide (11 = j))]) hl4)
    have f2' := same_upd (o := .lst [.bl (decide (9 = j)), .bl (decide (10 = j)), .bl (decide (11 = j))]) hl4 _ _ f2
    have e4 : (upd H4 l4 (.lst [.bl (decide (9 = j)), .bl (decide (10 = j)), .bl (decide (11 = j))])) l4 = some (.lst [.bl (decide (9 = j)), .bl (decide (10 = j)), .bl (decide (11 = j))]) := upd_same
    generalize upd H4 l4 (.lst [.bl (decide (9 = j)), .bl (decide (10 = j)), .bl (decide (11 = j))]) = H5 at s6 f2' e4
    refine ⟨p2, l4, _, _, rfl, rfl, f2', e4, by rw [List.length_append, lA]; show 9 + 3 ≤ sizeLine; decide, fun p3 hp3 => ?_⟩
    have s7 := s6.trans (same_upd (o := .lst ((A6 ++ [.bl (decide (6 = j)), .bl (decide (7 = j)), .bl (decide (8 = j))]) ++ [.bl (decide (9 = j)), .bl (decide (10 = j)), .bl (decide (11 = j))])) hp3)
    have fk : (upd H5 p3 (.lst ((A6 ++ [.bl (decide (6 = j)), .bl (decide (7 = j)), .bl (decide (8 = j))]) ++ [.bl (decide (9 = j)), .bl (decide (10 = j)), .bl (decide (11 = j))]))) p3 = some (.lst (flags j)) := by rw [upd_same, ← eA]; rfl
    generalize upd H5 p3 (.lst ((A6 ++ [.bl (decide (6 = j)), .bl (decide (7 = j)), .bl (decide (8 = j))]) ++ [.bl (decide (9 = j)), .bl (decide (10 = j)), .bl (decide (11 = j))])) = H6 at s7 fk
    clear f2' e4 s5 s6 f2 eA lA hl4 hp3
    -- one kind
    refine ⟨_, rfl, .inl ⟨rfl, _, SqL.of fk⟩, p3, flags j, .bl true, rfl, rfl, SqL.of fk, rfl, flags_flat j, rfl, _, rfl, ?_⟩
    rw [show (!decide (V.int (((flags j).countP fun z => eqV z (V.bl true) : Nat) : Int) = V.int 1)) = false by rw [flags_one hj]; rfl]
    refine iteF ⟨_, rfl, D0, EK.C, .ty "ValueError", .type "ValueError", true, dd, fs, rfl, rfl, s7 _ _ edd, rfl, fun _ z => z, EK.v, _, rfl, iteF ?_⟩
    -- its word
    refine ⟨by show 10 ≤ sizeLine; decide, fun lN hlN => ?_⟩
    generalize eN : ([V.str (Str.ofString "tick"), V.str (Str.ofString "person"), V.str (Str.ofString "limit"), V.str (Str.ofString "different"), V.str (Str.ofString "waiting"), V.str (Str.ofString "contradiction"), V.str (Str.ofString "name"), V.str (Str.ofString "unknown"), V.str (Str.ofString "house"), V.str (Str.ofString "text")] : List V) = N10 at hlN ⊢
    have s8 := s7.trans (same_upd (o := .lst N10) hlN)
    have fk2 := same_upd (o := .lst N10) hlN _ _ fk
    have fN : (upd H6 lN (.lst N10)) lN = some (.lst N10) := upd_same
    generalize upd H6 lN (.lst N10) = H7 at s8 fk2 fN
    refine ⟨_, rfl, by show 2 ≤ sizeLine; decide, fun l5 hl5 => ?_⟩
    have s9 := s8.trans (same_upd (o := .lst [V.str (Str.ofString "code"), V.str (Str.ofString "operation")]) hl5)
    have fk3 := same_upd (o := .lst [V.str (Str.ofString "code"), V.str (Str.ofString "operation")]) hl5 _ _ fk2
    have fN2 := same_upd (o := .lst [V.str (Str.ofString "code"), V.str (Str.ofString "operation")]) hl5 _ _ fN
    have f5 : (upd H7 l5 (.lst [V.str (Str.ofString "code"), V.str (Str.ofString "operation")])) l5 = some (.lst [V.str (Str.ofString "code"), V.str (Str.ofString "operation")]) := upd_same
    generalize upd H7 l5 (.lst [V.str (Str.ofString "code"), V.str (Str.ofString "operation")]) = H8 at s9 fk3 fN2 f5
    have lN10 : N10.length = 10 := by rw [← eN]; rfl
    refine ⟨lN, l5, _, _, rfl, rfl, fN2, f5, by rw [lN10]; show 10 + 2 ≤ sizeLine; decide, fun p5 hp5 => ?_⟩
    have s10 := s9.trans (same_upd (o := .lst (N10 ++ [V.str (Str.ofString "code"), V.str (Str.ofString "operation")])) hp5)
    have fk4 := same_upd (o := .lst (N10 ++ [V.str (Str.ofString "code"), V.str (Str.ofString "operation")])) hp5 _ _ fk3
    have f6 : (upd H8 p5 (.lst (N10 ++ [V.str (Str.ofString "code"), V.str (Str.ofString "operation")]))) p5 = some (.lst (N10 ++ [V.str (Str.ofString "code"), V.str (Str.ofString "operation")])) := upd_same
    generalize upd H8 p5 (.lst (N10 ++ [V.str (Str.ofString "code"), V.str (Str.ofString "operation")])) = H9 at s10 fk4 f6
    have j12 : j < 12 := by rcases hj with rfl | rfl <;> decide
    clear s7 s8 s9 fk fk2 fk3 fN fN2 f5 hlN hl5 hp5
    refine ⟨_, rfl, .inl ⟨rfl, _, SqL.of fk4⟩, p3, flags j, .bl true, j, .bl true, rfl, rfl, SqL.of fk4, rfl, flags_flat j, flags_yes j12, rfl, fun m z' hm hz' => flags_no hm hz', ?_⟩
    have edd2 := s10 _ _ edd
    rcases fin with ⟨rfl, rfl, part, i, rfl, k⟩ | ⟨rfl, rfl, i, rfl, k⟩
    · refine ⟨p5, _, ((8 : Nat) : Int), .str (Str.ofString "house"), rfl, rfl, SqL.of f6, by rw [← eN]; exact atI_nat (j := 8) rfl, ?_⟩
      refine ⟨_, rfl, rfl, _, rfl, iteT ?_⟩
      refine ⟨_, rfl, _, rfl, rfl, rfl, dd, _, .str part, rfl, edd2, rfl, _, rfl, rfl, rfl, dd, _, .int i, rfl, edd2, rfl, by show 2 ≤ sizeLine; decide, fun t ht => ⟨by show 2 ≤ sizeLine; decide, fun p hp => ?_⟩⟩
      exact k _ p t ((s10.trans (same_upd ht)).trans (same_upd hp)) (same_upd hp _ _ upd_same) upd_same
    · refine ⟨p5, _, ((9 : Nat) : Int), .str (Str.ofString "text"), rfl, rfl, SqL.of f6, by rw [← eN]; exact atI_nat (j := 9) rfl, ?_⟩
      refine ⟨_, rfl, rfl, _, rfl, iteF ?_⟩
      refine ⟨_, rfl, rfl, _, rfl, iteT ?_⟩
      refine ⟨_, rfl, _, rfl, rfl, rfl, dd, _, .int i, rfl, edd2, rfl, by show 2 ≤ sizeLine; decide, fun p hp => ?_⟩
      exact k _ p (s10.trans (same_upd hp)) upd_same
  obtain ⟨t, ht, hi⟩ := hh
  refine ⟨fun pins s' σ H' D I h => ?_⟩
  obtain ⟨⟨σ0, rfl⟩, h⟩ := h
  exact ht.run pins s' _ H' D I (hi D _ H' ⟨five I.len, h⟩)
theorem err_gives {X : Cx} {q : Str} {g : Addr} {cdg : Value} (N : TxtN X.mg cs CE) (EI : ErrKit X.K cs CE CI 8) (ET : ErrKit X.K cs CE CT 9) (XF : XFs X.K CI CT) (hu : X.A.units + 100 < cLine) :
    LamX.GivesTo X nErr "_law_error_of" (defScope sErr) g cdg (defBody sErr) "_law_call" q (TErr X.K CI CT) := by
  intro f c' s H Q tl act hc h
  have hd : (("HouseError" : Str) == ("__debug__" : Str)) = false := by decide
  refine ⟨_, pss_cons (ps_try_as (X := cxE X g cdg s H) (x := "HouseError") (n := "e") (c := .ref CE) (i := 1) (Wout := fun _ _ _ _ => False) (ts := fun a cls d => tsS X.K CI CT a cls d)
      (tb := fun W D σ H => ∃ Ech : XK, (∀ cls d σ' H', Ech cls d H' → W cls d σ' H') ∧ (∃ σ0 : L2.St, σ = σ0 ∧ σ[0]? = some (some (.ref f))) ∧ H c' = some (LamX.CodeO c' q) ∧ tl Ech H fun _ H1 => D.nx σ H1)
      rfl rfl scErr.nd rfl rfl ⟨rfl, hd, .inl N.gE⟩ LamX.takes0 (fun W pn xe tk _ => ?_) (fun a oe cls d pn hz hf => suite_ok N EI ET XF hu hz hf)) (pss_one (ps_ret pe_non)), ?_⟩
  · refine ⟨fun pins s' σ H' D I h' => ?_⟩
    obtain ⟨Ech, hW, ⟨σ0, _, h1⟩, h2, h3⟩ := h'
    exact (show PSs ((cxE X g cdg s H).tr pn xe) bodyE (tDrop _) from pss_one (ps_expr (act W pn xe Ech _ _ tk hW))).run pins s' σ H' D I ⟨h1, h2, h3⟩
  · refine ⟨EErr X.K CI CT Q, fun cls d σ' H' hE => ?_, ⟨_, rfl, rfl⟩, hc, ?_⟩
    · refine ⟨true, ?_, fun _ a ha => ⟨⟨σ', rfl⟩, hE⟩, fun z => nomatch z⟩
      rcases hE with ⟨_, _, _, e, _⟩ | ⟨_, _, e, _⟩
      · rw [e]; exact EI.ex
      · rw [e]; exact ET.ex
    · exact h
end
end Dk

set_option Elab.async false
set_option linter.all false
set_option maxRecDepth 100000
set_option maxHeartbeats 1000000
namespace Dk
open PySem PySem.Spec PyProof.Rows L2 TL
/-! ### text * number -/
theorem op_mulStr {X : Cx} : OpR X (binaryOp .Mult) (fun x y H Q => ∃ z k, x = .str z ∧ y = .int k ∧ MulOk z k ∧ Q (.str (Txt.mul z k)) H) := by
  intro pins s σ H x y v u Q I rx ry h
  obtain ⟨z, k, rfl, rfl, hz, q⟩ := h
  obtain ⟨t, rfl⟩ := rx
  obtain ⟨t', rfl⟩ := ry
  exact SB.mul hz fun t' tk => ⟨.str (Txt.mul z k), H, I.tok _, ⟨_, rfl⟩, q⟩
/-! ### heaps with a table -/
/-- all is as it was but d and the tables -/
def KpN (d : Addr) (H H' : Hp) : Prop := ∀ b o, b ≠ d → H b = some o → (∀ ps, o ≠ .tbl ps) → H' b = some o
theorem KpN.of {d : Addr} {H H' : Hp} (k : Kp d H H') : KpN d H H' := fun b o n e _ => k b o n e
theorem KpN.same {d : Addr} {H H' : Hp} (s : Same H H') : KpN d H H' := fun b o _ e _ => s b o e
theorem KpN.ext {d : Addr} {H H' : Hp} (s : LamX.ExtN H H') : KpN d H H' := fun b o _ e n => s b o e n
theorem KpN.refl {d : Addr} {H : Hp} : KpN d H H := fun _ _ _ e _ => e
theorem KpN.trans {d : Addr} {H H1 H2 : Hp} (a : KpN d H H1) (b : KpN d H1 H2) : KpN d H H2 := fun c o n e q => b c o n (a c o n e q) q
theorem KpN.tup {d : Addr} {H H' : Hp} {xs : List V} (k : KpN d H H') (hd : H d = some (.lst xs)) : ∀ t ys, H t = some (.tup ys) → H' t = some (.tup ys) := fun t ys h => k t _ (fun e => by rw [e, hd] at h; cases h) h fun ps z => by cases z
theorem tabs_kp {T : List (Addr × Str)} {d : Addr} {H H' : Hp} {xs : List V} (t : LamX.Tabs T H) (k : Kp d H H') (hd : H d = some (.lst xs)) : LamX.Tabs T H' := fun p hp => by
  obtain ⟨ps, h1, h2, h3⟩ := t p hp
  refine ⟨ps, k _ _ (fun e => by rw [e, hd] at h1; cases h1) h1, h2, fun pos cv hc => ?_⟩
  obtain ⟨c, e1, e2⟩ := h3 pos cv hc
  exact ⟨c, e1, k _ _ (fun e => by rw [e, hd] at e2; unfold LamX.CodeO at e2; cases e2) e2⟩
theorem tabs_same {T : List (Addr × Str)} {H H' : Hp} (t : LamX.Tabs T H) (s : Same H H') : LamX.Tabs T H' := t.ext s
theorem extN_same {H H' : Hp} (s : Same H H') : LamX.ExtN H H' := fun b o e _ => s b o e
theorem ExtN_lst {H H' : Hp} {a : Addr} {xs : List V} (e : LamX.ExtN H H') (h : H a = some (.lst xs)) : H' a = some (.lst xs) := e _ _ h fun ps z => by cases z
theorem ExtN_tup {H H' : Hp} {a : Addr} {xs : List V} (e : LamX.ExtN H H') (h : H a = some (.tup xs)) : H' a = some (.tup xs) := e _ _ h fun ps z => by cases z
/-! ### if _law_error_of(..) != ("house", (part, i)): return False -/
def tPair (part : Str) (tI : TE) : TE := tTup (tCons (tC (.str (Str.ofString "house"))) (tCons (tTup (tCons (tC (.str part)) (tCons tI tNil))) tNil))
theorem eqv_house (part : Str) (i : Int) : PyData.eqv (.tuple [.str (Str.ofString "house"), .tuple [.str part, .int i]]) (.tuple [.str (Str.ofString "house"), .tuple [.str part, .int i]]) = true := by
  show ((Str.ofString "house" == Str.ofString "house") && (((part == part) && ((i == i) && true)) && true)) = true
  rw [beq_self_eq_true, beq_self_eq_true, beq_self_eq_true]; rfl
theorem pair_shaped {part : Str} {i : Int} (hs : PyData.strOk part = true) : SeqAt.shaped (.tuple [.str (Str.ofString "house"), .tuple [.str part, .int i]]) = true := by
  unfold SeqAt.shaped; simp [PyData.canLay0, PyData.canLayAll0, PyData.depth, PyData.depthAll]
  exact ⟨by decide +kernel, hs⟩
theorem chk_step {K : PySem.W.Frag} {T : List (Addr × Str)} {CI CT : Addr} {t : XK → TE} {tI : TE} {part : Str} {i : Int} {D : Ends} {σ : L2.St} {H : Hp} {tr : TS} (hs : PyData.strOk part = true) (hT : LamX.Tabs T H)
    (ht : ∀ (H1 : Hp) (E : XK) (Q0 : VK), LamX.ExtN H H1 → LamX.Tabs T H1 → (∀ H2, Same H1 H2 → Raised CI E H2 part i) → t E σ H1 Q0)
    (hI : ∀ (H1 : Hp) (Q : VK), Q (.int i) H1 → tI σ H1 Q) (k : ∀ H1, LamX.ExtN H H1 → LamX.Tabs T H1 → D.nx σ H1) :
    tIfS (tTest (tOp (rNeD K) (LamX.tLam T (TErr K CI CT) t) (tPair part tI))) tr tNext D σ H := by
  refine ⟨hT, fun H1 x1 T1 => ht H1 _ _ x1 T1 fun H2 s2 H3 dd s3 hdd edd => .inl ⟨part, i, dd, rfl, rfl, edd, fun H4 p t0 s4 et ep => ?_⟩⟩
  refine hI _ _ ⟨by show 2 ≤ sizeLine; decide, fun q1 hq1 => ⟨by show 2 ≤ sizeLine; decide, fun q2 hq2 => ?_⟩⟩
  have s14 : Same H1 H4 := (s2.trans s3).trans s4
  have s5 := same_upd (o := .tup [.str part, .int i]) hq1
  have s6 := same_upd (o := .tup [.str (Str.ofString "house"), .ref q1]) hq2
  have s16 := (s14.trans s5).trans s6
  refine ⟨.tuple [.str (Str.ofString "house"), .tuple [.str part, .int i]], .tuple [.str (Str.ofString "house"), .tuple [.str part, .int i]],
    .tup (SqT.of (s6 _ _ (s5 _ _ ep))) (.cons (.str _) (.cons (.tup (SqT.of (s6 _ _ (s5 _ _ et))) (.cons (.str _) (.cons (.int _) .nil))) .nil)),
    .tup (SqT.of upd_same) (.cons (.str _) (.cons (.tup (SqT.of (s6 _ _ upd_same)) (.cons (.str _) (.cons (.int _) .nil))) .nil)), ?_, ?_, _, rfl, ?_⟩
  · exact pair_shaped hs
  · exact pair_shaped hs
  rw [eqv_house]
  exact iteF (k _ (x1.trans (extN_same s16)) (tabs_same T1 s16))
/-! ### a def with a known code object -/
structure FunAt (K : PySem.W.Frag) (x qual : Str) (st : Stmt) (f c : Addr) (fd : FuncData) : Prop where
  ex : ∃ (oc : Value) (od : Option Addr) (kV doc pm : Value) (an : Option Addr) (ct : Value) (osl : Array (Option Value)),
    fd = PySem.W.fnOf x qual (defArgs st) (defBody st) (defScope st) .none kV doc pm an (.ref c) ct ∧ K.lookup f = some ⟨oc, od, .func fd, osl⟩ ∧ PySem.W.codeIn K (.ref c) qual = true
theorem FunAt.ok {P : Program} {w : World} {K : PySem.W.Frag} {mg : Str → Option Value} {base : Heap} {x qual : Str} {st : Stmt} {f c : Addr} {fd : FuncData} {N ps : List Str} {k : Nat} {sp : Sp} (F : FunAt K x qual st f c fd) (S : FnScope N ps (defScope st)) (len : ∀ vs H Q E, sp vs H Q E → vs.length = ps.length)
    (hbody : ∀ (A : Around) (outer : List Env) (s : Shared) (H : Hp) (vs : List V) (Q : VK) (E : XK), Room k (A.deeper (envOfC qual (defScope st) s.heap.objs.size f (.ref c))) → sp vs H Q E →
      ∃ t, PSs (cxOf CX0 P w K mg base N qual (defScope st) f (.ref c) A outer s H E).nox (defBody st) t ∧ t { nx := fun _ H' => Q .non H', rt := Q } (start N vs) H) : FnOk P w K mg base CX0 (k + 1) f fd ps sp := by
  obtain ⟨oc, od, kV, doc, pm, an, ct, osl, rfl, lk, hcd⟩ := F.ex
  refine fn_of lk hcd S len fun A outer s H vs Q E hr hsp => ?_
  obtain ⟨t, h, q⟩ := hbody A outer s H vs Q E hr hsp
  exact ⟨t, h.nox, q⟩
/-! ### _law_error_of(lambda: ..) -/
theorem pe_errof {X : Cx} {cs : Nat → Addr} {CE CI CT fE c P : Addr} {fdE : FuncData} {T : List (Addr × Str)} {params : Arguments} {body : Expr} {scope : Scope} {t : XK → TE} {p lpos pos : Pos} (N : TxtN X.mg cs CE) (EI : ErrKit X.K cs CE CI 8) (ET : ErrKit X.K cs CE CT 9) (XF : XFs X.K CI CT)
    (hg : Gl X "_law_error_of") (hm : X.mg "_law_error_of" = some (.ref fE)) (FE : Fun X.K "_law_error_of" "_law_error_of" sErr fE fdE) (bE : Binds X.K fdE ["_law_call"] [])
    (TB : LamX.TabB X.base X.mg c P) (hcode : X.env.code = .ref c) (hmT : (P, X.env.qual ++ "<lambda>") ∈ T) (hu : ∀ p ∈ T, p.1 = P → p.2 = X.env.qual ++ "<lambda>") (hr : Room 8 X.A) (L : LamX.LamS X.env.scope scope) (hdef : defaultsOf params X.env = ([], []))
    (hbind : ∀ (q : Str) (cl : List (Str × Addr)) (pm cv ctv : Value), bindArgs (PySem.W.kla_fn "<lambda>" q params body scope cl pm cv ctv) ⟨[], []⟩ = pure [])
    (hbody : ∀ (A : Around) (outer : List Env) (s : Shared) (H : Hp) (E : XK) (f c' : Addr), Room 6 (A.deeper (LamX.lamEnv X scope s.heap.objs.size f c')) → PE (LamX.lamCx X A outer s H E scope f c') body (t E)) :
    PE X (.Call (.Name "_law_error_of" p) [.Lambda params body scope lpos] [] pos) (LamX.tLam T (TErr X.K CI CT) t) := by
  obtain ⟨oc, od, kV, doc, pm, an, cdv, ct, osl, rfl, lk, hcd⟩ := FE.ex
  refine LamX.pe_lamcall (Ng := nErr) (a := "_law_call") (k := 6) hg hm FE.kp lk hcd bE scErr rfl (.inl rfl) (err_gives N EI ET XF ?_) TB hcode hmT hu hr L hdef hbind hbody
  have := hr.un
  omega
end Dk

set_option Elab.async false
set_option linter.all false
set_option maxRecDepth 100000
set_option maxHeartbeats 1000000
namespace Dk
open PySem PySem.Spec PyProof.Rows L2 TL
/-! ### the law's own checks of words -/
def offS (cs : Str) (l : List Nat) : List Str := (l.filter fun c => !decide (c ∈ tl cs)).map one
theorem offS_only (x cs : Str) : (offS cs (tl x)).isEmpty = only x cs := by
  unfold offS only
  generalize tl x = l
  induction l with
  | nil => rfl
  | cons a l ih =>
    rw [List.filter_cons, List.all_cons]
    by_cases h : a ∈ tl cs
    · rw [decide_eq_true h]; simpa using ih
    · rw [decide_eq_false h]; simp
theorem one_ok {c : Nat} (h : c < 128) : PyData.strOk (one c) = true := by
  have : ∀ n < 128, PyData.strOk (one n) = true := by decide +kernel
  exact this c h
theorem ones_shaped {l : List Nat} (h : ∀ c ∈ l, c < 128) : SeqAt.shaped (.list ((l.map one).map PyData.str)) = true := by
  have h1 : PyData.canLayAll0 ((l.map one).map PyData.str) = true ∧ PyData.depthAll ((l.map one).map PyData.str) = 0 := by
    induction l with
    | nil => exact ⟨rfl, rfl⟩
    | cons a l ih =>
      obtain ⟨i1, i2⟩ := ih fun c hc => h c (List.mem_cons_of_mem _ hc)
      refine ⟨?_, ?_⟩
      · show (PyData.strOk (one a) && PyData.canLayAll0 ((l.map one).map PyData.str)) = true
        rw [one_ok (h a (List.mem_cons_self ..)), i1]; rfl
      · show max 0 (PyData.depthAll ((l.map one).map PyData.str)) = 0
        rw [i2]; rfl
  unfold SeqAt.shaped
  rw [show PyData.canLay0 (.list ((l.map one).map PyData.str)) = true from h1.1, decide_eq_true (show PyData.depth (.list ((l.map one).map PyData.str)) ≤ 64 by show PyData.depthAll ((l.map one).map PyData.str) + 1 ≤ 64; rw [h1.2]; decide)]
  rfl
theorem off_take {cs : Str} {l : List Nat} {i c : Nat} (h : l[i]? = some c) : offS cs (l.take (i + 1)) = offS cs (l.take i) ++ (if c ∈ tl cs then [] else [one c]) := by
  unfold offS
  rw [take_more h, List.filter_append, List.map_append]
  congr 1
  by_cases q : c ∈ tl cs
  · rw [if_pos q, List.filter_cons, decide_eq_true q]; rfl
  · rw [if_neg q, List.filter_cons, decide_eq_false q]; rfl
theorem offS_len (cs : Str) (l : List Nat) : (offS cs l).length ≤ l.length := by unfold offS; rw [List.length_map]; exact List.length_filter_le ..
section
variable {P : Program} {w : World} {K : PySem.W.Frag} {mg : Str → Option Value} {base : Heap}
/-- a word whose signs are a text's own -/
def spWordA (g : Str → Bool) : Sp := fun vs H Q _ => ∃ x : Str, vs = [.str x] ∧ x.length ≤ 1000 ∧ (∀ c ∈ tl x, c < 128) ∧ ∀ H', Same H H' → Q (.bl (g x)) H'
theorem scLawTab : FnScope ["_law_word", "_law_sign"] ["_law_word"] (defScope sLawTab) := ⟨rfl, rfl, rfl, by decide +kernel, rfl, by decide +kernel, by decide +kernel⟩
theorem ok_lawtab {f : Addr} {fd : FuncData} (F : Fun K "_law_is_table" "_law_is_table" sLawTab f fd) : FnOk P w K mg base CX0 1 f fd ["_law_word"] (spWordA isTW) := by
  refine F.ok scLawTab (fun vs H Q E h => ?_) (fun cdv A outer s H vs Q E hr h => ?_)
  · obtain ⟨x, rfl, _⟩ := h
    rfl
  · obtain ⟨x, rfl, hz, hA, k⟩ := h
    have hu : (A.deeper (envOfC (Str.ofString "_law_is_table") (defScope sLawTab) s.heap.objs.size f cdv)).units + 64 < cLine := by have := hr.un; omega
    refine ⟨_, pss_one (ps_ret (pe_and (pe_cmpR op_ne (pv 0) pe_str (nomark _)) (pe_one (pe_cmpR (op_eqD hu)
      (pe_lc (own := [("_law_sign", 1)]) (g := gName 1) (by rfl) scLawTab.nd (pi_str (pv 0)) (blkOk_by (N := ["_law_word", "_law_sign"]) (sc := defScope sLawTab) (by decide +kernel))
          (fun _ _ _ _ _ => pg_name (i := 1) scLawTab.nd rfl (Or.inl rfl)) (fun _ _ _ _ _ => pts_one (pt_cmpR op_notIn_sign (pv 1) pe_str (by rfl))) (fun _ _ _ _ _ => pv 1)) (pe_lst pa_nil) (nomark _))))), ?_⟩
    refine ⟨_, rfl, rfl, _, rfl, ?_⟩
    by_cases hx : x = Str.ofString ""
    · have e1 : (!decide (V.str x = V.str (Str.ofString ""))) = false := by rw [hx]; rfl
      rw [e1]
      refine iteF ?_
      have e2 : isTW x = false := by rw [hx]; rfl
      have := k H (Same.refl H)
      rw [e2] at this; exact this
    · have e1 : (!decide (V.str x = V.str (Str.ofString ""))) = true := by rw [decide_eq_false (fun e => hx (V.str.inj e))]; rfl
      rw [e1]
      refine iteT ?_
      refine ⟨_, rfl, x, rfl, fun D hD => lc_it walk_str
        (fun i H3 => Same H H3 ∧ H3 D = some (.lst ((offS (Str.ofString "ho") ((tl x).take i)).map V.str)))
        ⟨same_upd hD, upd_same⟩ (fun _ _ _ _ => True.intro) ?_ ?_⟩
      · rintro i y H3 H4 hi ⟨s3, eD⟩ ⟨rfl, c, hc, rfl⟩
        have hc' : (tl x)[i]? = some c := by rw [← hc]; exact Array.getElem?_toList
        refine ⟨rfl, _, rfl, c, _, rfl, rfl, _, rfl, ?_⟩
        by_cases q : c ∈ tl (Str.ofString "ho")
        · rw [show (!decide (c ∈ (Str.ofString "ho").cps.toList)) = false by rw [decide_eq_true (show c ∈ (Str.ofString "ho").cps.toList from q)]; rfl]
          refine iteF ⟨s3, ?_⟩
          rw [off_take hc', if_pos q, List.append_nil]; exact eD
        · rw [show (!decide (c ∈ (Str.ofString "ho").cps.toList)) = true by rw [decide_eq_false (show ¬ c ∈ (Str.ofString "ho").cps.toList from q)]; rfl]
          refine iteT ⟨_, rfl, _, eD, ?_, fun b o eb => ?_, ?_⟩
          · rw [List.length_map]
            have := offS_len (Str.ofString "ho") ((tl x).take i)
            rw [List.length_take, ← len_tl] at this
            exact Nat.lt_of_le_of_lt (by omega : _ ≤ 1000) (by decide)
          · rw [upd_ne (ne_of_none eb hD)]; exact s3 _ _ eb
          · rw [upd_same, off_take hc', if_neg q, List.map_append]; rfl
      · rintro H3 ⟨s3, eD⟩
        rw [show (tl x).take x.cps.size = tl x from List.take_of_length_le (by simp)] at eD
        refine ⟨by show 0 ≤ sizeLine; decide, fun l hl => ?_⟩
        have sl := same_upd (o := .lst []) hl
        refine ⟨.list ((offS (Str.ofString "ho") (tl x)).map PyData.str), .list [], .lst (SqL.of (sl _ _ eD)) (dpAll_strs _), .lst (SqL.of upd_same) .nil, ?_, rfl, ?_⟩
        · unfold offS
          exact ones_shaped fun c hc => hA c (List.mem_filter.mp hc).1
        · have e3 : PyData.eqv (.list ((offS (Str.ofString "ho") (tl x)).map PyData.str)) (.list []) = isTW x := by
            rw [eqv_strs, offS_only]
            have : (tl x).isEmpty = false := by
              cases q : tl x with
              | nil => exact absurd (ext_tl (q.trans rfl)) hx
              | cons a b => rfl
            unfold isTW
            rw [this]; rfl
          rw [e3]
          exact k _ (s3.trans sl)
end
end Dk

set_option Elab.async false
set_option linter.all false
set_option maxRecDepth 100000
set_option maxHeartbeats 1000000
namespace Dk
open PySem PySem.Spec PyProof.Rows L2 TL
section
variable {P : Program} {w : World} {K : PySem.W.Frag} {mg : Str → Option Value} {base : Heap}
theorem scLawNum : FnScope ["_law_word", "_law_sign"] ["_law_word"] (defScope sLawNum) := ⟨rfl, rfl, rfl, by decide +kernel, rfl, by decide +kernel, by decide +kernel⟩
theorem ok_lawnum {f : Addr} {fd : FuncData} (F : Fun K "_law_is_number" "_law_is_number" sLawNum f fd) (T : TxtA mg) : FnOk P w K mg base CX0 1 f fd ["_law_word"] (spWordA isNW) := by
  refine F.ok scLawNum (fun vs H Q E h => ?_) (fun cdv A outer s H vs Q E hr h => ?_)
  · obtain ⟨x, rfl, _⟩ := h
    rfl
  · obtain ⟨x, rfl, hz, hA, k⟩ := h
    have hu : (A.deeper (envOfC (Str.ofString "_law_is_number") (defScope sLawNum) s.heap.objs.size f cdv)).units + 64 < cLine := by have := hr.un; omega
    have hz' : x.length ≤ sizeLine := Nat.le_trans hz (by decide)
    refine ⟨_, pss_cons (ps_if (PW.pt (pw_or (pt_not (pt_chain op_le op_le pe_int (pe_callB call_len_str (by rfl) T.len PySem.boot_len (pa_cons (pv 0) pa_nil)) pe_int)) (pw_or1 (pt_cmpR (op_neD hu)
      (pe_lc (own := [("_law_sign", 1)]) (g := gName 1) (by rfl) scLawNum.nd (pi_str (pv 0)) (blkOk_by (N := ["_law_word", "_law_sign"]) (sc := defScope sLawNum) (by decide +kernel))
          (fun _ _ _ _ _ => pg_name (i := 1) scLawNum.nd rfl (Or.inl rfl)) (fun _ _ _ _ _ => pts_one (pt_cmpR op_notIn_sign (pv 1) pe_str (by rfl))) (fun _ _ _ _ _ => pv 1)) (pe_lst pa_nil) (nomark _))))) (pss_one (ps_ret pe_bl)) pss_nil)
      (pss_one (ps_ret (pe_or (pe_cmpR op_eq (pv 0) pe_str (nomark _)) (pe_one (pe_cmpR op_ne (pe_item_str (pv 0) pe_int (fun _ _ => rfl)) pe_str (nomark _)))))), ?_⟩
    have hl := len_tl x
    refine ⟨_, rfl, x, rfl, hz', _, _, rfl, rfl, _, rfl, ?_⟩
    by_cases c1 : (1 : Int) ≤ (x.length : Int)
    · rw [decide_eq_true c1]
      refine iteT ⟨_, _, rfl, rfl, _, rfl, ?_⟩
      by_cases c2 : (x.length : Int) ≤ 2
      · rw [decide_eq_true c2]
        refine iteF ?_
        refine ⟨_, rfl, x, rfl, fun D hD => lc_it walk_str
          (fun i H3 => Same H H3 ∧ H3 D = some (.lst ((offS (Str.ofString "0123456789") ((tl x).take i)).map V.str)))
          ⟨same_upd hD, upd_same⟩ (fun _ _ _ _ => True.intro) ?_ ?_⟩
        · rintro i y H3 H4 hi ⟨s3, eD⟩ ⟨rfl, c, hc, rfl⟩
          have hc' : (tl x)[i]? = some c := by rw [← hc]; exact Array.getElem?_toList
          refine ⟨rfl, _, rfl, c, _, rfl, rfl, _, rfl, ?_⟩
          by_cases q : c ∈ tl (Str.ofString "0123456789")
          · rw [show (!decide (c ∈ (Str.ofString "0123456789").cps.toList)) = false by rw [decide_eq_true (show c ∈ (Str.ofString "0123456789").cps.toList from q)]; rfl]
            refine iteF ⟨s3, ?_⟩
            rw [off_take hc', if_pos q, List.append_nil]; exact eD
          · rw [show (!decide (c ∈ (Str.ofString "0123456789").cps.toList)) = true by rw [decide_eq_false (show ¬ c ∈ (Str.ofString "0123456789").cps.toList from q)]; rfl]
            refine iteT ⟨_, rfl, _, eD, ?_, fun b o eb => ?_, ?_⟩
            · rw [List.length_map]
              have := offS_len (Str.ofString "0123456789") ((tl x).take i)
              rw [List.length_take, ← len_tl] at this
              exact Nat.lt_of_le_of_lt (by omega : _ ≤ 1000) (by decide)
            · rw [upd_ne (ne_of_none eb hD)]; exact s3 _ _ eb
            · rw [upd_same, off_take hc', if_neg q, List.map_append]; rfl
        · rintro H3 ⟨s3, eD⟩
          rw [show (tl x).take x.cps.size = tl x from List.take_of_length_le (by simp)] at eD
          refine ⟨by show 0 ≤ sizeLine; decide, fun l hl' => ?_⟩
          have sl := same_upd (o := .lst []) hl'
          refine ⟨.list ((offS (Str.ofString "0123456789") (tl x)).map PyData.str), .list [], .lst (SqL.of (sl _ _ eD)) (dpAll_strs _), .lst (SqL.of upd_same) .nil, (by unfold offS; exact ones_shaped fun c hc => hA c (List.mem_filter.mp hc).1), rfl, _, rfl, ?_⟩
          have s4 := s3.trans sl
          rw [eqv_strs, offS_only]
          have cases2 : (∃ a, tl x = [a]) ∨ ∃ a b, tl x = [a, b] := by
            have h12 : (tl x).length = 1 ∨ (tl x).length = 2 := by omega
            rcases h12 with c | c
            · left
              match h : tl x, c with
              | [a], _ => exact ⟨a, rfl⟩
            · right
              match h : tl x, c with
              | [a, b], _ => exact ⟨a, b, rfl⟩
          have e48 : tl (Str.ofString "0") = [48] := by decide +kernel
          have fin : ∀ (a : Nat) (r : Bool), (tl x)[0]? = some a → (isNW x = r) → r = (decide (x = Str.ofString "0") || decide (a ≠ 48)) →
              (tOrV (tOp rEq (tVar 0) (tC (V.str (Str.ofString "0")))) (tOp rNe (tOp (fun x y H Q => ∃ (z : Str) (i : Int) (c : Nat), x = V.str z ∧ y = V.int i ∧ 0 ≤ i ∧ i < 2 ^ 63 ∧ i < (z.length : Int) ∧ z.cps[i.toNat]? = some c ∧ Q (V.str ⟨#[c]⟩) H) (tVar 0) (tC (V.int 0))) (tC (V.str (Str.ofString "0"))))) [some (.str x), none] (upd H3 l (.lst [])) Q := by
            intro a r ha hr' er
            refine ⟨_, rfl, rfl, _, rfl, ?_⟩
            have kk := k _ s4
            rw [hr', er] at kk
            by_cases q : x = Str.ofString "0"
            · rw [show decide (V.str x = V.str (Str.ofString "0")) = true from decide_eq_true (congrArg V.str q)]
              rw [decide_eq_true q] at kk
              exact iteT kk
            · rw [show decide (V.str x = V.str (Str.ofString "0")) = false from decide_eq_false fun e => q (V.str.inj e)]
              rw [decide_eq_false q] at kk
              have e0 : x.cps[(0 : Int).toNat]? = some a := by rw [← ha]; exact Array.getElem?_toList.symm
              refine iteF ⟨_, rfl, x, 0, a, rfl, rfl, by decide, by decide, by omega, e0, rfl, ?_⟩
              have c3 : (!decide (V.str (⟨#[a]⟩ : Str) = V.str (Str.ofString "0"))) = (false || decide (a ≠ 48)) := by
                by_cases h : a = 48
                · subst h
                  rw [decide_eq_true (congrArg V.str (ext_tl (by rw [e48])))]
                  simp
                · have hn : ¬ V.str (⟨#[a]⟩ : Str) = V.str (Str.ofString "0") := fun q' => by
                    have h1 : tl (⟨#[a]⟩ : Str) = tl (Str.ofString "0") := congrArg tl (V.str.inj q')
                    rw [e48] at h1
                    exact h (List.cons.inj h1).1
                  rw [decide_eq_false hn]; simp [h]
              rw [c3]; exact kk
          cases cd : only x (Str.ofString "0123456789") with
          | false =>
            refine iteT ?_
            have e : isNW x = false := by
              rcases cases2 with ⟨a, ea⟩ | ⟨a, b, ea⟩
              · have eo : only x digS = dig a := by unfold only dig; rw [ea]; simp
                have e2 : dig a = false := by rw [← eo]; exact cd
                unfold isNW; rw [ea]; exact e2
              · have eo : only x digS = (dig a && dig b) := by unfold only dig; rw [ea]; simp
                have e2 : (dig a && dig b) = false := by rw [← eo]; exact cd
                unfold isNW; rw [ea]; show (dig a && dig b && decide (a ≠ 48)) = false; rw [e2]; rfl
            have kk := k _ s4
            rw [e] at kk
            exact kk
          | true =>
            refine iteF ?_
            rcases cases2 with ⟨a, ea⟩ | ⟨a, b, ea⟩
            · have eo : only x digS = dig a := by unfold only dig; rw [ea]; simp
              have e2 : dig a = true := by rw [← eo]; exact cd
              refine fin a true (by rw [ea]; rfl) (by unfold isNW; rw [ea]; exact e2) ?_
              by_cases h : a = 48
              · have : x = Str.ofString "0" := ext_tl (by rw [ea, e48, h])
                rw [decide_eq_true this]; rfl
              · simp [h]
            · have eo : only x digS = (dig a && dig b) := by unfold only dig; rw [ea]; simp
              have e2 : (dig a && dig b) = true := by rw [← eo]; exact cd
              refine fin a (decide (a ≠ 48)) (by rw [ea]; rfl) (by unfold isNW; rw [ea]; show (dig a && dig b && decide (a ≠ 48)) = _; rw [e2]; rfl) ?_
              have hn : ¬ x = Str.ofString "0" := fun q => by
                have := congrArg tl q
                rw [ea, e48] at this
                cases this
              rw [decide_eq_false hn]; rfl
      · rw [decide_eq_false c2]
        refine iteT ?_
        have e : isNW x = false := by
          unfold isNW
          match h : tl x with
          | [] => rfl
          | [a] => rw [h] at hl; simp at hl; omega
          | [a, b] => rw [h] at hl; simp at hl; omega
          | a :: b :: c :: r => rfl
        have kk := k H (Same.refl H)
        rw [e] at kk
        exact kk
    · rw [decide_eq_false c1]
      refine iteF ⟨_, rfl, iteT ?_⟩
      have e : isNW x = false := by
        unfold isNW
        match h : tl x with
        | [] => rfl
        | a :: r => rw [h] at hl; simp at hl; omega
      have kk := k H (Same.refl H)
      rw [e] at kk
      exact kk
end
end Dk

set_option Elab.async false
set_option linter.all false
set_option maxRecDepth 100000
set_option maxHeartbeats 1000000
namespace Dk
open PySem PySem.Spec PyProof.Rows L2 TL
theorem spl_mem (S : List Nat) : ∀ (k : Nat) (acc L : List Nat), ∀ p ∈ spl S k acc L, ∀ c ∈ p, c ∈ acc ∨ c ∈ L
  | k, acc, [], p, h, c, hc => by
    rw [spl_nil] at h
    rw [List.mem_singleton.mp h] at hc; exact .inl hc
  | 0, acc, d :: r, p, h, c, hc => by
    unfold spl at h
    split at h
    · rcases List.mem_cons.mp h with rfl | h
      · exact .inl hc
      · rcases spl_mem S _ [] r p h c hc with q | q
        · cases q
        · exact .inr (List.mem_cons_of_mem _ q)
    · rcases spl_mem S 0 (acc ++ [d]) r p h c hc with q | q
      · rcases List.mem_append.mp q with q | q
        · exact .inl q
        · exact .inr (by rw [List.mem_singleton.mp q]; exact List.mem_cons_self ..)
      · exact .inr (List.mem_cons_of_mem _ q)
  | k + 1, acc, d :: r, p, h, c, hc => by
    rcases spl_mem S k acc r p h c hc with q | q
    · exact .inl q
    · exact .inr (List.mem_cons_of_mem _ q)
theorem split_mem {x y : Str} (hy : Sep y) : ∀ p ∈ Txt.split x y, ∀ c ∈ tl p, c ∈ tl x := fun p h c hc => by
  obtain ⟨d, ec⟩ := hy.ex
  have e := split_spl x y (by rw [ec]; simp) (kind_ok hy.k)
  have hm : tl p ∈ (Txt.split x y).map tl := List.mem_map.mpr ⟨p, h, rfl⟩
  rw [e] at hm
  rcases spl_mem _ _ _ _ _ hm c hc with q | q
  · cases q
  · exact q
/-- a text's own word -/
structure AscW (n : Nat) (x : Str) : Prop where
  z : x.length ≤ n
  a : ∀ c ∈ tl x, c < 128
theorem split_asc {n : Nat} {x y : Str} (hy : Sep y) (h : AscW n x) : ∀ p ∈ Txt.split x y, AscW n p := fun p hp => ⟨Nat.le_trans (split_bound hy p hp) h.z, fun c hc => h.a c (split_mem hy p hp c hc)⟩
structure TxtN3 (K : PySem.W.Frag) (mg : Str → Option Value) (fN : Addr) (fdN : FuncData) : Prop where
  gN : mg "_law_is_number" = some (.ref fN)
  FN : Fun K "_law_is_number" "_law_is_number" sLawNum fN fdN
  bN : Binds K fdN ["_law_word"] []
section
variable {P : Program} {w : World} {K : PySem.W.Frag} {mg : Str → Option Value} {base : Heap} {fN : Addr} {fdN : FuncData}
theorem scLawRem : FnScope ["_law_word", "_law_pair"] ["_law_word"] (defScope sLawRem) := ⟨rfl, rfl, rfl, by decide +kernel, rfl, by decide +kernel, by decide +kernel⟩
theorem ok_lawrem {f : Addr} {fd : FuncData} (F : Fun K "_law_is_reminder" "_law_is_reminder" sLawRem f fd) (T : TxtA mg) (TN : TxtN3 K mg fN fdN) : FnOk P w K mg base CX0 2 f fd ["_law_word"] (spWordA isRW) := by
  have GN : FnOk P w K mg base CX0 1 fN fdN ["_law_word"] (spWordA isNW) := ok_lawnum TN.FN T
  refine F.ok scLawRem (fun vs H Q E h => ?_) (fun cdv A outer s H vs Q E hr h => ?_)
  · obtain ⟨x, rfl, _⟩ := h
    rfl
  · obtain ⟨x, rfl, hz, hA, k⟩ := h
    refine ⟨_, pss_cons (ps_set (i := 1) scLawRem.nd rfl (.inl rfl) (pe_split (pv 0) pe_str))
      (pss_one (ps_ret (pe_and (pe_cmpR op_eq (pe_callB call_len_seq (by rfl) T.len PySem.boot_len (pa_cons (pv 1) pa_nil)) pe_int (nomark _)) (pe_and
        (pe_call GN hr rfl TN.gN TN.FN.kp TN.bN .nil pass0 (pa_cons (pe_ix ix_list (pv 1) pe_int (fun _ _ => rfl)) pa_nil))
        (pe_one (pe_call GN hr rfl TN.gN TN.FN.kp TN.bN .nil pass0 (pa_cons (pe_ix ix_list (pv 1) pe_int (fun _ _ => rfl)) pa_nil))))))), ?_⟩
    refine ⟨_, rfl, ⟨_, rfl⟩, x, colS, rfl, rfl, sepCol.z, Nat.le_trans (by omega : x.length + 2 ≤ 1002) (by decide), fun l hl => ?_⟩
    have s1 := same_upd (o := .lst ((Txt.split x colS).map V.str)) hl
    have eL : (upd H l (.lst ((Txt.split x colS).map V.str))) l = some (.lst ((Txt.split x colS).map V.str)) := upd_same
    have hb := split_asc sepCol (⟨hz, hA⟩ : AscW 1000 x)
    have er : isRW x = ((Txt.split x colS).length == 2 && (Txt.split x colS).all isNW) := rfl
    refine ⟨_, rfl, l, _, rfl, .inl (SqL.of eL), rfl, _, rfl, ?_⟩
    rw [List.length_map]
    by_cases c : (Txt.split x colS).length = 2
    · rw [show decide (V.int (((Txt.split x colS).length : Nat) : Int) = V.int 2) = true from decide_eq_true (by rw [c]; rfl)]
      obtain ⟨a, b, es⟩ : ∃ a b, Txt.split x colS = [a, b] := by
        match e : Txt.split x colS, c with
        | [a, b], _ => exact ⟨a, b, rfl⟩
      have er2 : isRW x = (isNW a && isNW b) := by rw [er, es]; simp
      have ha := hb a (by rw [es]; simp)
      have hb2 := hb b (by rw [es]; simp)
      rw [es] at eL s1 ⊢
      generalize upd H l (.lst ([a, b].map V.str)) = H1 at eL s1 ⊢
      refine iteT ⟨_, rfl, l, _, 0, .str a, rfl, rfl, SqL.of eL, at0, a, rfl, ha.z, ha.a, fun H2 s2 => ⟨_, rfl, ?_⟩⟩
      cases ca : isNW a with
      | false =>
        have := k _ (s1.trans s2)
        rw [er2, ca] at this
        exact iteF this
      | true =>
        refine iteT ⟨_, rfl, l, _, 1, .str b, rfl, rfl, SqL.of (s2 _ _ eL), at1, b, rfl, hb2.z, hb2.a, fun H3 s3 => ?_⟩
        have := k _ ((s1.trans s2).trans s3)
        rw [er2, ca] at this
        exact this
    · rw [show decide (V.int (((Txt.split x colS).length : Nat) : Int) = V.int 2) = false from decide_eq_false fun q => c (by have := V.int.inj q; omega)]
      have : isRW x = false := by rw [er]; simp [c]
      have kk := k _ s1
      rw [this] at kk
      exact iteF kk
end
end Dk

set_option Elab.async false
set_option linter.all false
set_option maxRecDepth 100000
set_option maxHeartbeats 1000000
namespace Dk
open PySem PySem.Spec PyProof.Rows L2 TL
/-! ### the words of a line that are not of a kind -/
def offW (g : Str → Bool) (ws : List Str) : List Str := ws.filter fun x => !g x
theorem offW_all (g : Str → Bool) (ws : List Str) : (offW g ws).isEmpty = ws.all g := by
  unfold offW
  induction ws with
  | nil => rfl
  | cons a l ih =>
    rw [List.filter_cons, List.all_cons]
    cases h : g a with
    | true => simpa using ih
    | false => simp
theorem off_w {g : Str → Bool} {ws : List Str} {i : Nat} {x : Str} (h : ws[i]? = some x) : offW g (ws.take (i + 1)) = offW g (ws.take i) ++ (if g x = true then [] else [x]) := by
  unfold offW
  rw [take_more h, List.filter_append]
  congr 1
  cases q : g x with
  | true => rw [List.filter_cons, q]; rfl
  | false => rw [List.filter_cons, q]; rfl
theorem offW_len (g : Str → Bool) (ws : List Str) : (offW g ws).length ≤ ws.length := List.length_filter_le ..
theorem asc_ok {n : Nat} {x : Str} (h : AscW n x) : PyData.strOk x = true := by
  show x.cps.all (· < 0x110000) = true
  rw [← Array.all_toList]
  exact List.all_eq_true.mpr fun c hc => decide_eq_true (Nat.lt_of_lt_of_le (h.a c hc) (by decide))
theorem words_shaped {n : Nat} {l : List Str} (h : ∀ c ∈ l, AscW n c) : SeqAt.shaped (.list (l.map PyData.str)) = true := by
  have h1 : PyData.canLayAll0 (l.map PyData.str) = true ∧ PyData.depthAll (l.map PyData.str) = 0 := by
    induction l with
    | nil => exact ⟨rfl, rfl⟩
    | cons a l ih =>
      obtain ⟨i1, i2⟩ := ih fun c hc => h c (List.mem_cons_of_mem _ hc)
      refine ⟨?_, ?_⟩
      · show (PyData.strOk a && PyData.canLayAll0 (l.map PyData.str)) = true
        rw [asc_ok (h a (List.mem_cons_self ..)), i1]; rfl
      · show max 0 (PyData.depthAll (l.map PyData.str)) = 0
        rw [i2]; rfl
  unfold SeqAt.shaped
  rw [show PyData.canLay0 (.list (l.map PyData.str)) = true from h1.1, decide_eq_true (show PyData.depth (.list (l.map PyData.str)) ≤ 64 by show PyData.depthAll (l.map PyData.str) + 1 ≤ 64; rw [h1.2]; decide)]
  rfl
theorem cut_dropN (xs : List V) (k : Nat) : cutV xs (some (k : Int)) none = xs.drop k := by
  unfold cutV
  rw [HT.sIx_none, HT.sIx_nat, List.take_of_length_le (by rw [List.length_drop]; omega)]
  by_cases h : k ≤ xs.length
  · rw [Nat.min_eq_left h]
  · rw [Nat.min_eq_right (by omega), List.drop_length, List.drop_eq_nil_of_le (by omega)]
theorem cut_takeN (xs : List V) (k : Nat) : cutV xs none (some (k : Int)) = xs.take k := by
  unfold cutV
  rw [HT.sIx_none, HT.sIx_nat, List.drop_zero, Nat.sub_zero]
  by_cases h : k ≤ xs.length
  · rw [Nat.min_eq_left h]
  · rw [Nat.min_eq_right (by omega), List.take_length, List.take_of_length_le (by omega)]
theorem cut_drop1 {xs : List V} {x : V} : cutV (x :: xs) (some 1) none = xs := cut_dropN (x :: xs) 1
section
variable {P : Program} {w : World} {K : PySem.W.Frag} {mg : Str → Option Value} {base : Heap}
theorem comp_off {l : Addr} {ws : List Str} {H1 : Hp} {D : Addr} {g : Str → Bool} {σ : L2.St} {i : Nat} {vs : List Nat} {tt : TT} {Qd : Hp → Prop} (hD : H1 D = none) (hl : SqL K H1 l (ws.map V.str)) (hz : ws.length ≤ 200000)
    (htt : ∀ (x : Str) (H2 : Hp) (Qb : Bool → Hp → Prop), x ∈ ws → (∀ H3, Same H2 H3 → Qb (!g x) H3) → tt ((wipe σ vs).set i (some (.str x))) H2 Qb)
    (hv : ∀ x : V, ((wipe σ vs).set i (some x))[i]? = some (some x)) (hw : ∀ x : V, wipe ((wipe σ vs).set i (some x)) vs = wipe σ vs)
    (hd : ∀ H2, Same H1 H2 → H2 D = some (.lst ((offW g ws).map V.str)) → Qd H2) :
    ∃ W : Nat → Nat → Hp → Prop, (∃ m, W 0 m (upd H1 D (.lst []))) ∧ ∀ i' m H, W i' m H →
      ((Itl K l).stop i' H ∧ Qd H) ∨ ((Itl K l).go i' H ∧ ∃ Nx : Hp → Prop, (∀ H', Nx H' → ∃ m', m' < m ∧ W (i' + 1) m' H') ∧ ∀ x H', (Itl K l).yld i' H x H' → gName i x (wipe σ vs) H' fun σ2 H2 => wipe σ2 vs = wipe σ vs ∧ tt σ2 H2 fun b H3 =>
        if b = true then tVar i σ2 H3 fun y H4 => ∃ acc, H4 D = some (.lst acc) ∧ acc.length < sizeLine ∧ Nx (upd H4 D (.lst (acc ++ [y]))) else Nx H3) := by
  refine lc_list (K := K) (a := l) (xs := ws.map V.str) (g := gName i) (tt := tt) (te := tVar i) (vs := vs) (σ := σ) (Qd := Qd)
    (fun i H3 => Same H1 H3 ∧ H3 D = some (.lst ((offW g (ws.take i)).map V.str)))
    ⟨same_upd hD, upd_same⟩ (fun i H3 _ ⟨e, _⟩ => e.seq hl) ?_ ?_
  · rintro j y H3 hi ⟨s3, eD⟩
    obtain ⟨t, ht, rfl⟩ := map_at hi
    have hj : j < ws.length := (List.getElem?_eq_some_iff.mp ht).1
    refine ⟨hw _, htt t H3 _ (List.mem_of_getElem? ht) fun H4 s4 => ?_⟩
    cases q : g t with
    | true =>
      refine iteF ⟨s3.trans s4, ?_⟩
      rw [off_w ht, if_pos q, List.append_nil]; exact s4 _ _ eD
    | false =>
      refine iteT ⟨_, hv _, _, s4 _ _ eD, ?_, fun b o eb => ?_, ?_⟩
      · rw [List.length_map]
        have := offW_len g (ws.take j)
        rw [List.length_take] at this
        exact Nat.lt_of_le_of_lt (by omega : _ ≤ 200000) (by decide)
      · rw [upd_ne (ne_of_none eb hD)]; exact s4 _ _ (s3 _ _ eb)
      · rw [upd_same, off_w ht, if_neg (by rw [q]; decide), List.map_append]; rfl
  · rintro H3 ⟨s3, eD⟩
    rw [List.length_map, List.take_length] at eD
    exact hd H3 s3 eD
end
/-! ### the first invalid line, by rows -/
def faultR : Nat → List Str → List (List Str) → Option Nat
  | _, [], [] => none
  | k, [], _ :: _ => some k
  | k, _ :: _, [] => some k
  | k, w :: ws, r :: rs => match r with
    | [] => some k
    | f :: t => if f = w ∧ areArgs w t = true then faultR (k + 1) ws rs else some k
theorem fault_rows : ∀ (k : Nat) (ws ls : List Str), faultL k ws ls = faultR k ws (ls.map fun l => Txt.split l spS)
  | _, [], [] => rfl
  | _, [], _ :: _ => rfl
  | _, _ :: _, [] => rfl
  | k, w :: ws, l :: ls => by
    show (match Txt.split l spS with | [] => some k | f :: r => if f = w ∧ areArgs w r = true then faultL (k + 1) ws ls else some k) = _
    rw [List.map_cons]
    unfold faultR
    cases e : Txt.split l spS with
    | nil => rfl
    | cons f r => dsimp only; rw [fault_rows (k + 1) ws ls]
def noneV : Option Nat → V
  | none => .non
  | some k => .int (k : Int)
def rowsOf (x : Str) : List (List Str) := (linesOf x).map fun l => Txt.split l spS
theorem fault_is (x : Str) : fault x = faultR 0 lineWords (rowsOf x) := fault_rows _ _ _
theorem faultR_row {n i : Nat} {w f : Str} {t : List Str} {rows : List (List Str)} (hw : lineWords[i]? = some w) (hr : rows[i]? = some (f :: t)) :
    faultR n (lineWords.drop i) (rows.drop i) = if f = w ∧ areArgs w t = true then faultR (n + 1) (lineWords.drop (i + 1)) (rows.drop (i + 1)) else some n := by
  have e1 : lineWords.drop i = w :: lineWords.drop (i + 1) := by
    obtain ⟨h1, h2⟩ := List.getElem?_eq_some_iff.mp hw
    rw [List.drop_eq_getElem_cons h1, h2]
  have e2 : rows.drop i = (f :: t) :: rows.drop (i + 1) := by
    obtain ⟨h1, h2⟩ := List.getElem?_eq_some_iff.mp hr
    rw [List.drop_eq_getElem_cons h1, h2]
  rw [e1, e2]
  rfl
theorem faultR_out {n i : Nat} {w : Str} {rows : List (List Str)} (hw : lineWords[i]? = some w) (hr : rows.length ≤ i) :
    faultR n (lineWords.drop i) (rows.drop i) = some n := by
  have e1 : lineWords.drop i = w :: lineWords.drop (i + 1) := by
    obtain ⟨h1, h2⟩ := List.getElem?_eq_some_iff.mp hw
    rw [List.drop_eq_getElem_cons h1, h2]
  rw [e1, List.drop_eq_nil_of_le hr]
  rfl
theorem aa0 (t : List Str) : areArgs wTab t = t.all isTW := if_pos rfl
theorem aa1 (t : List Str) : areArgs wKey t = (t.length == 1 && t.all isNW) := by
  unfold areArgs
  rw [if_neg (by decide +kernel : ¬ wKey = wTab), if_neg (by decide +kernel : ¬ wKey = wRem)]
  by_cases c : t.length = 1
  · rw [if_neg (fun q => q.2 c)]; simp [c]
  · rw [if_pos ⟨rfl, c⟩]; simp [c]
theorem aa2 (t : List Str) : areArgs wCar t = t.all isNW := by
  unfold areArgs
  rw [if_neg (by decide +kernel : ¬ wCar = wTab), if_neg (by decide +kernel : ¬ wCar = wRem), if_neg (fun q => (by decide +kernel : ¬ wCar = wKey) q.1)]
theorem aa3 (t : List Str) : areArgs wRem t = t.all isRW := by
  unfold areArgs
  rw [if_neg (by decide +kernel : ¬ wRem = wTab), if_pos rfl]
end Dk

set_option Elab.async false
set_option linter.all false
set_option maxRecDepth 100000
set_option maxHeartbeats 2000000
namespace Dk
open PySem PySem.Spec PyProof.Rows L2 TL
structure TxtL3 (K : PySem.W.Frag) (mg : Str → Option Value) (fT fR : Addr) (fdT fdR : FuncData) : Prop where
  gT : mg "_law_is_table" = some (.ref fT)
  FT : Fun K "_law_is_table" "_law_is_table" sLawTab fT fdT
  bT : Binds K fdT ["_law_word"] []
  gR : mg "_law_is_reminder" = some (.ref fR)
  FR : Fun K "_law_is_reminder" "_law_is_reminder" sLawRem fR fdR
  bR : Binds K fdR ["_law_word"] []
def RowsOk (rows : List (List Str)) : Prop := rows.length ≤ 1000 ∧ ∀ r ∈ rows, r ≠ [] ∧ r.length ≤ 1010 ∧ ∀ y ∈ r, AscW 1000 y
def spFault : Sp := fun vs H Q _ => ∃ (a : Addr) (as : List Addr) (rows : List (List Str)), vs = [.ref a] ∧ H a = some (.lst (as.map V.ref)) ∧ RowsAt H as rows ∧ RowsOk rows ∧
  ∀ H', Same H H' → Q (noneV (faultR 0 lineWords rows)) H'
theorem RowsAt.at {H : Hp} : ∀ {as : List Addr} {rows : List (List Str)} {i : Nat} {r : List Str}, RowsAt H as rows → rows[i]? = some r → ∃ b, as[i]? = some b ∧ H b = some (.lst (r.map V.str))
  | [], [], _, _, .nil, h => by simp at h
  | a :: as, r0 :: rows, 0, r, .cons h t, e => by
    simp at e; subst e
    exact ⟨a, rfl, h⟩
  | a :: as, r0 :: rows, i + 1, r, .cons h t, e => by
    obtain ⟨b, e1, e2⟩ := RowsAt.at (i := i) t (by simpa using e)
    exact ⟨b, by simpa using e1, e2⟩
abbrev nFault : List Str := ["_law_rows", "_law_k", "_law_row", "_law_word"]
theorem lw_at (i : Nat) (h : i < 4) : ∃ wd, lineWords[i]? = some wd ∧ (lineWords.map V.str)[i]? = some (.str wd) := by
  have hl : i < lineWords.length := h
  exact ⟨lineWords[i], List.getElem?_eq_getElem hl, by rw [List.getElem?_map, List.getElem?_eq_getElem hl]; rfl⟩
section
variable {P : Program} {w : World} {K : PySem.W.Frag} {mg : Str → Option Value} {base : Heap} {fN fT fR : Addr} {fdN fdT fdR : FuncData}
theorem scFault : FnScope nFault ["_law_rows"] (defScope sFault) := ⟨rfl, rfl, rfl, by decide +kernel, rfl, by decide +kernel, by decide +kernel⟩
theorem ok_fault {f : Addr} {fd : FuncData} (F : Fun K "_law_text_fault" "_law_text_fault" sFault f fd) (T : TxtA mg) (TN : TxtN3 K mg fN fdN) (TL3 : TxtL3 K mg fT fR fdT fdR) : FnOk P w K mg base CX0 3 f fd ["_law_rows"] spFault := by
  have GN : FnOk P w K mg base CX0 1 fN fdN ["_law_word"] (spWordA isNW) := ok_lawnum TN.FN T
  have GT : FnOk P w K mg base CX0 1 fT fdT ["_law_word"] (spWordA isTW) := ok_lawtab TL3.FT
  have GR : FnOk P w K mg base CX0 2 fR fdR ["_law_word"] (spWordA isRW) := ok_lawrem TL3.FR T TN
  refine F.ok scFault (fun vs H Q E h => ?_) (fun cdv A outer s H vs Q E hr h => ?_)
  · obtain ⟨a, as, rows, rfl, _⟩ := h
    rfl
  · obtain ⟨a, as, rows, rfl, eA, hR, hO, k⟩ := h
    have hr1 : Room 1 (A.deeper (envOfC (Str.ofString "_law_text_fault") (defScope sFault) s.heap.objs.size f cdv)) := hr.mono (by decide)
    have hu : (A.deeper (envOfC (Str.ofString "_law_text_fault") (defScope sFault) s.heap.objs.size f cdv)).units + 64 < cLine := by have := hr.un; omega
    refine ⟨_, pss_cons (ps_for PassesOwn.never rfl (pi_range1 rfl T.range (pa_cons pe_int pa_nil)) (pg_name (i := 1) scFault.nd rfl (.inl rfl))
        (pss_cons (ps_set (i := 2) scFault.nd rfl (.inl rfl) (pe_ifExp (pt_cmpR op_lt (pv 1) (pe_callB call_len_seq (by rfl) T.len PySem.boot_len (pa_cons (pv 0) pa_nil)) (nomark _)) (pe_ix ix_list (pv 0) (pv 1) (fun _ _ => rfl)) (pe_lst (pa_cons pe_str pa_nil))))
        (pss_cons (ps_if (PW.pt (pw_or (pt_cmpR op_ne (pe_ix ix_list (pv 2) pe_int (fun _ _ => rfl)) (pe_ix ix_list (pe_lst (pa_cons pe_str (pa_cons pe_str (pa_cons pe_str (pa_cons pe_str pa_nil))))) (pv 1) (fun _ _ => rfl)) (nomark _))
            (pw_or1 (PW.pt (pw_and (pt_cmpR op_eq (pv 1) pe_int (nomark _)) (pw_and1 (pt_cmpR op_ne (pe_callB call_len_seq (by rfl) T.len PySem.boot_len (pa_cons (pv 2) pa_nil)) pe_int (nomark _))))))))
          (pss_one (ps_ret (pv 1))) pss_nil)
        (pss_cons (ps_if (PW.pt (pw_and (pt_cmpR op_eq (pv 1) pe_int (nomark _)) (pw_and1 (pt_cmpR (op_neD hu)
            (pe_lc (own := [("_law_word", 3)]) (g := gName 3) (by rfl) scFault.nd (pi_list (pe_slice sl_list (pv 2) (po_some pe_int) po_none)) (blkOk_by (N := nFault) (sc := defScope sFault) (by decide +kernel))
              (fun _ _ _ _ _ => pg_name (i := 3) scFault.nd rfl (Or.inl rfl)) (fun _ _ _ _ _ => pts_one (pt_not (pt_val (pe_call GT hr1 rfl TL3.gT TL3.FT.kp TL3.bT .nil pass0 (pa_cons (pv 3) pa_nil))))) (fun _ _ _ _ _ => pv 3)) (pe_lst pa_nil) (nomark _)))))
          (pss_one (ps_ret (pv 1))) pss_nil)
        (pss_cons (ps_if (PW.pt (pw_and (pt_cmpR op_in_seq (pv 1) (pe_lst (pa_cons pe_int (pa_cons pe_int pa_nil))) (by rfl)) (pw_and1 (pt_cmpR (op_neD hu)
            (pe_lc (own := [("_law_word", 3)]) (g := gName 3) (by rfl) scFault.nd (pi_list (pe_slice sl_list (pv 2) (po_some pe_int) po_none)) (blkOk_by (N := nFault) (sc := defScope sFault) (by decide +kernel))
              (fun _ _ _ _ _ => pg_name (i := 3) scFault.nd rfl (Or.inl rfl)) (fun _ _ _ _ _ => pts_one (pt_not (pt_val (pe_call GN hr1 rfl TN.gN TN.FN.kp TN.bN .nil pass0 (pa_cons (pv 3) pa_nil))))) (fun _ _ _ _ _ => pv 3)) (pe_lst pa_nil) (nomark _)))))
          (pss_one (ps_ret (pv 1))) pss_nil)
        (pss_one (ps_if (PW.pt (pw_and (pt_cmpR op_eq (pv 1) pe_int (nomark _)) (pw_and1 (pt_cmpR (op_neD hu)
            (pe_lc (own := [("_law_word", 3)]) (g := gName 3) (by rfl) scFault.nd (pi_list (pe_slice sl_list (pv 2) (po_some pe_int) po_none)) (blkOk_by (N := nFault) (sc := defScope sFault) (by decide +kernel))
              (fun _ _ _ _ _ => pg_name (i := 3) scFault.nd rfl (Or.inl rfl)) (fun _ _ _ _ _ => pts_one (pt_not (pt_val (pe_call GR hr rfl TL3.gR TL3.FR.kp TL3.bR .nil pass0 (pa_cons (pv 3) pa_nil))))) (fun _ _ _ _ _ => pv 3)) (pe_lst pa_nil) (nomark _)))))
          (pss_one (ps_ret (pv 1))) pss_nil)))))))
      (pss_one (ps_ret (pe_ifExp (pt_cmpR op_gt (pe_callB call_len_seq (by rfl) T.len PySem.boot_len (pa_cons (pv 0) pa_nil)) pe_int (nomark _)) pe_int pe_non))), ?_⟩
    obtain ⟨hz, hrow⟩ := hO
    have hlen : as.length = rows.length := hR.len
    refine ⟨_, rfl, by decide, by decide, for_range (lo := 0) (n := 4)
      (fun i σ H' => ∃ (v1 v2 v3 : Option V), σ = [some (.ref a), v1, v2, v3] ∧ Same H H' ∧ faultR 0 lineWords rows = faultR i (lineWords.drop i) (rows.drop i) ∧ i ≤ rows.length)
      ⟨none, none, none, rfl, Same.refl H, rfl, Nat.zero_le _⟩ ?_ ?_⟩
    · rintro i σ H1 hi ⟨v1, v2, v3, rfl, s1, eF, hil⟩
      obtain ⟨wd, ew, ewv⟩ := lw_at i hi
      have eA1 := s1 _ _ eA
      have hR1 := hR.mono s1
      have fin : ∀ H', Same H H' → faultR 0 lineWords rows = some i → Q (.int (0 + (i : Nat))) H' := fun H' s e => by
        have := k H' s
        rw [e] at this
        rw [Int.zero_add]; exact this
      refine ⟨_, rfl, _, rfl, a, _, rfl, .inl (SqL.of eA1), _, _, rfl, rfl, _, rfl, ?_⟩
      rw [List.length_map, hlen]
      by_cases c : i < rows.length
      · rw [decide_eq_true (by omega : (0 : Int) + (i : Nat) < ((rows.length : Nat) : Int))]
        have er : rows[i]? = some rows[i] := List.getElem?_eq_getElem c
        obtain ⟨hne, hrl, hasc⟩ := hrow _ (List.mem_of_getElem? er)
        generalize rows[i] = r at er hne hrl hasc
        obtain ⟨f0, t, rfl⟩ : ∃ f t, r = f :: t := by
          cases r with
          | nil => exact absurd rfl hne
          | cons f t => exact ⟨f, t, rfl⟩
        obtain ⟨b, eb, eB⟩ := hR1.at er
        have st := faultR_row (n := i) ew er
        have ht : t.length ≤ 1010 := by rw [List.length_cons] at hrl; omega
        have hta : ∀ y ∈ t, AscW 1000 y := fun y hy => hasc y (List.mem_cons_of_mem _ hy)
        refine iteT ⟨_, rfl, _, rfl, a, _, _, .ref b, rfl, rfl, SqL.of eA1, (by rw [Int.zero_add]; exact atI_nat (by rw [List.getElem?_map, eb]; rfl)), ?_⟩
        refine ⟨_, rfl, b, _, 0, .str f0, rfl, rfl, SqL.of eB, at0, by show 4 ≤ sizeLine; decide, fun p hp => ?_⟩
        have sP := same_upd (o := .lst (lineWords.map V.str)) hp
        refine ⟨_, rfl, p, _, _, .str wd, rfl, rfl, SqL.of upd_same, (by rw [Int.zero_add]; exact atI_nat ewv), rfl, _, rfl, ?_⟩
        have s2 := s1.trans sP
        have eB2 := sP _ _ eB
        show (if (!decide (V.str f0 = V.str wd)) = true then _ else _)
        generalize hH2 : upd H1 p (.lst (lineWords.map V.str)) = H2 at sP s2 eB2
        have hH2' : upd H1 p (.lst [V.str (Str.ofString "tables"), V.str (Str.ofString "keys"), V.str (Str.ofString "careful"), V.str (Str.ofString "remind")]) = H2 := hH2
        rw [hH2']
        clear hH2 hH2'
        by_cases cf : f0 = wd
        · have ecf : (!decide (V.str f0 = V.str wd)) = false := by rw [decide_eq_true (by rw [cf])]; rfl
          rw [ecf]
          have hcut : cutV ((f0 :: t).map V.str) (some 1) none = t.map V.str := cut_drop1
          have nxt : ∀ H', Same H2 H' → areArgs wd t = true → Same H H' ∧ faultR 0 lineWords rows = faultR (i + 1) (lineWords.drop (i + 1)) (rows.drop (i + 1)) ∧ i + 1 ≤ rows.length := fun H' s ha =>
            ⟨s2.trans s, by rw [eF, st, if_pos ⟨cf, ha⟩], c⟩
          have bad : areArgs wd t = false → faultR 0 lineWords rows = some i := fun ha => by rw [eF, st, if_neg fun q => by rw [ha] at q; cases q.2]
          have h4 : i = 0 ∨ i = 1 ∨ i = 2 ∨ i = 3 := by omega
          rcases h4 with rfl | rfl | rfl | rfl
          · obtain rfl : wTab = wd := Option.some.inj ew
            refine iteF ⟨_, rfl, rfl, _, rfl, ite2 (fun c => absurd c (by decide)) (fun _ => iteF ?_)⟩
            refine ⟨_, rfl, rfl, _, rfl, ite2 (fun _ => ?_) (fun c => absurd (by decide) c)⟩
            refine ⟨_, rfl, _, rfl, b, _, rfl, SqL.of eB2, fun p2 hp2 => ?_⟩
            rw [hcut]
            have sP2 := same_upd (o := .lst (t.map V.str)) hp2
            refine ⟨p2, rfl, ⟨_, SqL.of upd_same⟩, fun D hD => comp_off (i := 3) (vs := [3]) (g := isTW) hD (SqL.of upd_same) (by omega)
              (fun y H3 Qb hm hq => ⟨_, rfl, y, rfl, (hta y hm).z, (hta y hm).a, fun H4 s4 => ⟨_, rfl, hq H4 s4⟩⟩) (fun _ => rfl) (fun _ => rfl) (fun H3 s3 eD => ?_)⟩
            refine ⟨by show 0 ≤ sizeLine; decide, fun l hl => ?_⟩
            have sl := same_upd (o := .lst []) hl
            refine ⟨.list ((offW isTW t).map PyData.str), .list [], .lst (SqL.of (sl _ _ eD)) (dpAll_strs _), .lst (SqL.of upd_same) .nil, words_shaped (n := 1000) (fun c hc => hta c (List.mem_filter.mp hc).1), rfl, _, rfl, ?_⟩
            rw [eqv_strs, offW_all]
            have sZ := ((sP2.trans s3).trans sl)
            cases ca : t.all isTW with
            | false => exact iteT ⟨_, rfl, fin _ (s2.trans sZ) (bad (by rw [aa0]; exact ca))⟩
            | true =>
              refine iteF ⟨_, rfl, by show 2 ≤ sizeLine; decide, fun q hq => ⟨q, _, rfl, .inl (SqL.of upd_same), rfl, rfl, _, rfl, ite2 (fun c => absurd c (by decide)) (fun _ => ?_)⟩⟩
              refine iteF ⟨_, rfl, rfl, _, rfl, ite2 (fun c => absurd c (by decide)) (fun _ => iteF ?_)⟩
              exact ⟨_, _, _, rfl, nxt _ (sZ.trans (same_upd hq)) (by rw [aa0]; exact ca)⟩
          · obtain rfl : wKey = wd := Option.some.inj ew
            refine iteF ⟨_, rfl, rfl, _, rfl, ite2 (fun _ => ?_) (fun c => absurd (by decide) c)⟩
            refine ⟨_, rfl, b, _, rfl, .inl (SqL.of eB2), rfl, _, rfl, ?_⟩
            have el : (!decide (V.int ((((f0 :: t).map V.str).length : Nat) : Int) = V.int 2)) = !(t.length == 1) := by
              rw [List.length_map, List.length_cons]
              by_cases q : t.length = 1
              · rw [decide_eq_true (congrArg V.int (by omega) : V.int (((t.length + 1 : Nat)) : Int) = V.int 2)]; simp [q]
              · rw [decide_eq_false (fun e => q (by have := V.int.inj e; omega) : ¬ V.int (((t.length + 1 : Nat)) : Int) = V.int 2)]; simp [q]
            rw [el]
            cases cl : t.length == 1 with
            | false => exact iteT ⟨_, rfl, fin _ s2 (bad (by rw [aa1, cl]; rfl))⟩
            | true =>
            refine iteF ?_
            refine ⟨_, rfl, rfl, _, rfl, ite2 (fun c => absurd c (by decide)) (fun _ => iteF ?_)⟩
            refine ⟨_, rfl, by show 2 ≤ sizeLine; decide, fun q hq => ⟨q, _, rfl, .inl (SqL.of upd_same), rfl, rfl, _, rfl, ite2 (fun _ => ?_) (fun c => absurd (by decide) c)⟩⟩
            have sQ := same_upd (o := .lst [V.int 1, V.int 2]) hq
            refine ⟨_, rfl, _, rfl, b, _, rfl, SqL.of (sQ _ _ eB2), fun p2 hp2 => ?_⟩
            rw [hcut]
            have sP2 := same_upd (o := .lst (t.map V.str)) hp2
            refine ⟨p2, rfl, ⟨_, SqL.of upd_same⟩, fun D hD => comp_off (i := 3) (vs := [3]) (g := isNW) hD (SqL.of upd_same) (by omega)
              (fun y H3 Qb hm hq => ⟨_, rfl, y, rfl, (hta y hm).z, (hta y hm).a, fun H4 s4 => ⟨_, rfl, hq H4 s4⟩⟩) (fun _ => rfl) (fun _ => rfl) (fun H3 s3 eD => ?_)⟩
            refine ⟨by show 0 ≤ sizeLine; decide, fun l hl => ?_⟩
            have sl := same_upd (o := .lst []) hl
            refine ⟨.list ((offW isNW t).map PyData.str), .list [], .lst (SqL.of (sl _ _ eD)) (dpAll_strs _), .lst (SqL.of upd_same) .nil, words_shaped (n := 1000) (fun c hc => hta c (List.mem_filter.mp hc).1), rfl, _, rfl, ?_⟩
            rw [eqv_strs, offW_all]
            have sZ := sQ.trans ((sP2.trans s3).trans sl)
            cases ca : t.all isNW with
            | false => exact iteT ⟨_, rfl, fin _ (s2.trans sZ) (bad (by rw [aa1]; rw [ca]; simp))⟩
            | true =>
              refine iteF ⟨_, rfl, rfl, _, rfl, ite2 (fun c => absurd c (by decide)) (fun _ => iteF ?_)⟩
              exact ⟨_, _, _, rfl, nxt _ sZ (by rw [aa1, cl, ca]; rfl)⟩
          · obtain rfl : wCar = wd := Option.some.inj ew
            refine iteF ⟨_, rfl, rfl, _, rfl, ite2 (fun c => absurd c (by decide)) (fun _ => iteF ?_)⟩
            refine ⟨_, rfl, rfl, _, rfl, ite2 (fun c => absurd c (by decide)) (fun _ => iteF ?_)⟩
            refine ⟨_, rfl, by show 2 ≤ sizeLine; decide, fun q hq => ⟨q, _, rfl, .inl (SqL.of upd_same), rfl, rfl, _, rfl, ite2 (fun _ => ?_) (fun c => absurd (by decide) c)⟩⟩
            have sQ := same_upd (o := .lst [V.int 1, V.int 2]) hq
            refine ⟨_, rfl, _, rfl, b, _, rfl, SqL.of (sQ _ _ eB2), fun p2 hp2 => ?_⟩
            rw [hcut]
            have sP2 := same_upd (o := .lst (t.map V.str)) hp2
            refine ⟨p2, rfl, ⟨_, SqL.of upd_same⟩, fun D hD => comp_off (i := 3) (vs := [3]) (g := isNW) hD (SqL.of upd_same) (by omega)
              (fun y H3 Qb hm hq => ⟨_, rfl, y, rfl, (hta y hm).z, (hta y hm).a, fun H4 s4 => ⟨_, rfl, hq H4 s4⟩⟩) (fun _ => rfl) (fun _ => rfl) (fun H3 s3 eD => ?_)⟩
            refine ⟨by show 0 ≤ sizeLine; decide, fun l hl => ?_⟩
            have sl := same_upd (o := .lst []) hl
            refine ⟨.list ((offW isNW t).map PyData.str), .list [], .lst (SqL.of (sl _ _ eD)) (dpAll_strs _), .lst (SqL.of upd_same) .nil, words_shaped (n := 1000) (fun c hc => hta c (List.mem_filter.mp hc).1), rfl, _, rfl, ?_⟩
            rw [eqv_strs, offW_all]
            have sZ := sQ.trans ((sP2.trans s3).trans sl)
            cases ca : t.all isNW with
            | false => exact iteT ⟨_, rfl, fin _ (s2.trans sZ) (bad (by rw [aa2]; exact ca))⟩
            | true =>
              refine iteF ⟨_, rfl, rfl, _, rfl, ite2 (fun c => absurd c (by decide)) (fun _ => iteF ?_)⟩
              exact ⟨_, _, _, rfl, nxt _ sZ (by rw [aa2]; exact ca)⟩
          · obtain rfl : wRem = wd := Option.some.inj ew
            refine iteF ⟨_, rfl, rfl, _, rfl, ite2 (fun c => absurd c (by decide)) (fun _ => iteF ?_)⟩
            refine ⟨_, rfl, rfl, _, rfl, ite2 (fun c => absurd c (by decide)) (fun _ => iteF ?_)⟩
            refine ⟨_, rfl, by show 2 ≤ sizeLine; decide, fun q hq => ⟨q, _, rfl, .inl (SqL.of upd_same), rfl, rfl, _, rfl, ite2 (fun c => absurd c (by decide)) (fun _ => iteF ?_)⟩⟩
            have sQ := same_upd (o := .lst [V.int 1, V.int 2]) hq
            refine ⟨_, rfl, rfl, _, rfl, ite2 (fun _ => ?_) (fun c => absurd (by decide) c)⟩
            refine ⟨_, rfl, _, rfl, b, _, rfl, SqL.of (sQ _ _ eB2), fun p2 hp2 => ?_⟩
            rw [hcut]
            have sP2 := same_upd (o := .lst (t.map V.str)) hp2
            refine ⟨p2, rfl, ⟨_, SqL.of upd_same⟩, fun D hD => comp_off (i := 3) (vs := [3]) (g := isRW) hD (SqL.of upd_same) (by omega)
              (fun y H3 Qb hm hq => ⟨_, rfl, y, rfl, (hta y hm).z, (hta y hm).a, fun H4 s4 => ⟨_, rfl, hq H4 s4⟩⟩) (fun _ => rfl) (fun _ => rfl) (fun H3 s3 eD => ?_)⟩
            refine ⟨by show 0 ≤ sizeLine; decide, fun l hl => ?_⟩
            have sl := same_upd (o := .lst []) hl
            refine ⟨.list ((offW isRW t).map PyData.str), .list [], .lst (SqL.of (sl _ _ eD)) (dpAll_strs _), .lst (SqL.of upd_same) .nil, words_shaped (n := 1000) (fun c hc => hta c (List.mem_filter.mp hc).1), rfl, _, rfl, ?_⟩
            rw [eqv_strs, offW_all]
            have sZ := sQ.trans ((sP2.trans s3).trans sl)
            cases ca : t.all isRW with
            | false => exact iteT ⟨_, rfl, fin _ (s2.trans sZ) (bad (by rw [aa3]; exact ca))⟩
            | true =>
              refine iteF ?_
              exact ⟨_, _, _, rfl, nxt _ sZ (by rw [aa3]; exact ca)⟩
        · have ecf : (!decide (V.str f0 = V.str wd)) = true := by rw [decide_eq_false fun q => cf (V.str.inj q)]; rfl
          rw [ecf]
          rw [if_neg (fun q => cf q.1)] at st
          exact iteT (iteT ⟨_, rfl, fin _ s2 (by rw [eF, st])⟩)
      · have hie : i = rows.length := by omega
        rw [decide_eq_false (by omega : ¬ (0 : Int) + (i : Nat) < ((rows.length : Nat) : Int))]
        refine iteF ⟨by show 1 ≤ sizeLine; decide, fun q hq => ?_⟩
        have sQ := same_upd (o := .lst [V.str (Str.ofString "")]) hq
        refine ⟨_, rfl, q, _, 0, .str (Str.ofString ""), rfl, rfl, SqL.of upd_same, at0, by show 4 ≤ sizeLine; decide, fun p hp => ?_⟩
        have sP := same_upd (o := .lst (lineWords.map V.str)) hp
        refine ⟨_, rfl, p, _, _, .str wd, rfl, rfl, SqL.of upd_same, (by rw [Int.zero_add]; exact atI_nat ewv), rfl, _, rfl, ?_⟩
        have cf : ¬ Str.ofString "" = wd := fun e => by
          have : wd ∈ lineWords := List.mem_of_getElem? ew
          rw [← e] at this
          exact absurd this (by decide +kernel)
        have ecf : (!decide (V.str (Str.ofString "") = V.str wd)) = true := by rw [decide_eq_false fun q => cf (V.str.inj q)]; rfl
        rw [ecf]
        exact iteT (iteT ⟨_, rfl, fin _ ((s1.trans sQ).trans sP) (by rw [eF, faultR_out ew (by omega)])⟩)
    · rintro σ H1 ⟨v1, v2, v3, rfl, s1, eF, hil⟩
      have eA1 := s1 _ _ eA
      refine ⟨_, rfl, a, _, rfl, .inl (SqL.of eA1), _, _, rfl, rfl, _, rfl, ?_⟩
      rw [List.length_map, hlen]
      by_cases c : 4 < rows.length
      · rw [decide_eq_true (by omega : (4 : Int) < ((rows.length : Nat) : Int))]
        refine iteT ?_
        have := k H1 s1
        have e4 : faultR 0 lineWords rows = some 4 := by
          rw [eF]
          cases hd : rows.drop 4 with
          | nil => exact absurd (List.drop_eq_nil_iff.mp hd) (by omega)
          | cons a b => rfl
        rw [e4] at this
        exact this
      · rw [decide_eq_false (by omega : ¬ (4 : Int) < ((rows.length : Nat) : Int))]
        refine iteF ?_
        have := k H1 s1
        have e4 : faultR 0 lineWords rows = none := by
          rw [eF, show rows.drop 4 = [] from List.drop_eq_nil_of_le (by omega)]; rfl
        rw [e4] at this
        exact this
end
end Dk

set_option Elab.async false
set_option linter.all false
set_option maxRecDepth 100000
set_option maxHeartbeats 1000000
namespace Dk
open PySem PySem.Spec PyProof.Rows L2 TL
theorem ix_listK {X : Cx} {K : PySem.W.Frag} (h : X.K = K) : IxR X (rIxL K) := by
  subst h; exact ix_list
def spRead (K : PySem.W.Frag) : Sp := fun vs H Q _ => ∃ (a : Addr) (ws : List Str), vs = [.ref a] ∧ SqL K H a (ws.map V.str) ∧ ws.length ≤ 1010 ∧ (∀ y ∈ ws, isRW y = true ∧ y.length ≤ 1000) ∧
  ∀ (H' : Hp) (p : Addr) (xs : List V), Same H H' → H' p = some (.tup xs) → Prs H' xs (ws.map remOf) → Q (.ref p) H'
def spHouseX (K : PySem.W.Frag) (CH CI : Addr) : Sp := fun vs H Q E => ∃ (a aT aC aR : Addr) (ts : List Str) (kk : Int) (cs : List Int) (rs : List Pr) (xs : List V), vs = [.ref a] ∧ H a = some (.tup [.ref aT, .int kk, .ref aC, .ref aR]) ∧ SqT K H aT (ts.map V.str) ∧ SqT K H aC (cs.map V.int) ∧ H aR = some (.tup xs) ∧ Prs H xs rs ∧ (∀ y ∈ ts, y.length ≤ 1000) ∧
  (chkHouse (dStrs ts) (.int kk) (dInts cs) (dPrs rs) = none → ∀ (H' : Hp) (p : Addr), Same H H' → Q (.ref p) H') ∧
  (∀ part i, chkHouse (dStrs ts) (.int kk) (dInts cs) (dPrs rs) = some (part, i) → Raised CI E H part (i : Int))
section
variable {P : Program} {w : World} {K : PySem.W.Frag} {mg : Str → Option Value} {base : Heap} {C fI : Addr} {fdI : FuncData} {fII fIB fHO : Addr} {fdII fdIB fdHO : FuncData} {fIT fIR fAs : Addr} {fdIT fdIR fdAs : FuncData}
  {CH fP fT fK fC fR : Addr} {fdP fdT fdK fdC fdR : FuncData} {fH : Addr} {fdH : FuncData} {dvs : List V}
theorem scRead : FnScope ["_law_words", "_law_word"] ["_law_words"] (defScope sRead) := ⟨rfl, rfl, rfl, by decide +kernel, rfl, by decide +kernel, by decide +kernel⟩
theorem ok_read {f : Addr} {fd : FuncData} (F : Fun K "_law_read" "_law_read" sRead f fd) (TF : TxtF K mg fII fIB fHO fdII fdIB fdHO) : FnOk P w K mg base CX0 1 f fd ["_law_words"] (spRead K) := by
  refine F.ok scRead (fun vs H Q E h => ?_) (fun cdv A outer s H vs Q E hr h => ?_)
  · obtain ⟨a, ws, rfl, _⟩ := h
    rfl
  · obtain ⟨a, ws, rfl, hS, hl, hw, k⟩ := h
    refine ⟨_, pss_one (ps_ret (pe_callTy call_tuple_of (by rfl) TF.tuple (by decide +kernel) (pa_cons (pe_lc (own := [("_law_word", 1)]) (g := gName 1) (by rfl) scRead.nd (pi_list (pv 0)) (blkOk_by (N := ["_law_words", "_law_word"]) (sc := defScope sRead) (by decide +kernel))
        (fun _ _ _ _ _ => pg_name (i := 1) scRead.nd rfl (Or.inl rfl)) (fun _ _ _ _ _ => pts_nil)
        (fun _ _ _ _ _ => pe_tup (pa_cons (pe_callTy call_int_str (by rfl) TF.int (by decide +kernel) (pa_cons (pe_ix (ix_listK (K := K) rfl) (pe_split (pv 1) pe_str) pe_int (fun _ _ => rfl)) pa_nil)) (pa_cons (pe_callTy call_int_str (by rfl) TF.int (by decide +kernel) (pa_cons (pe_ix (ix_listK (K := K) rfl) (pe_split (pv 1) pe_str) pe_int (fun _ _ => rfl)) pa_nil)) pa_nil)))) pa_nil))), ?_⟩
    refine ⟨_, rfl, a, rfl, ⟨_, hS⟩, fun D hD => lc_list (K := K) (a := a) (xs := ws.map V.str)
      (fun i H5 => ∃ xs, Same H H5 ∧ H5 D = some (.lst xs) ∧ Prs H5 xs ((ws.take i).map remOf)) ⟨[], same_upd hD, upd_same, .nil⟩ (fun i H5 _ ⟨_, e, _⟩ => e.seq hS) ?_ ?_⟩
    · rintro j y H5 hi ⟨xs, s5, eD, hP⟩
      obtain ⟨t, ht, rfl⟩ := map_at hi
      have hj : j < ws.length := (List.getElem?_eq_some_iff.mp ht).1
      obtain ⟨hrw, hz⟩ := hw t (List.mem_of_getElem? ht)
      obtain ⟨u, v, es, hu, hv, er⟩ := rw_parts hrw
      refine ⟨rfl, _, rfl, ⟨_, rfl⟩, t, colS, rfl, rfl, sepCol.z, Nat.le_trans (by omega : t.length + 2 ≤ 1002) (by decide), fun l hl => ?_⟩
      have s6 := same_upd (o := .lst ((Txt.split t colS).map V.str)) hl
      have eL : (upd H5 l (.lst ((Txt.split t colS).map V.str))) l = some (.lst [V.str u, V.str v]) := by rw [upd_same, es]; rfl
      generalize upd H5 l (.lst ((Txt.split t colS).map V.str)) = H6 at s6 eL
      refine ⟨l, _, 0, .str u, rfl, rfl, SqL.of eL, at0, u, numOf u, rfl, (nw_num hu).1, by have := nw_len hu; omega, ?_⟩
      refine ⟨_, rfl, ⟨_, rfl⟩, t, colS, rfl, rfl, sepCol.z, Nat.le_trans (by omega : t.length + 2 ≤ 1002) (by decide), fun l2 hl2 => ?_⟩
      have s7 := same_upd (o := .lst ((Txt.split t colS).map V.str)) hl2
      have eL2 : (upd H6 l2 (.lst ((Txt.split t colS).map V.str))) l2 = some (.lst [V.str u, V.str v]) := by rw [upd_same, es]; rfl
      generalize upd H6 l2 (.lst ((Txt.split t colS).map V.str)) = H7 at s7 eL2
      refine ⟨l2, _, 1, .str v, rfl, rfl, SqL.of eL2, at1, v, numOf v, rfl, (nw_num hv).1, by have := nw_len hv; omega, by show 2 ≤ sizeLine; decide, fun q hq => ?_⟩
      have s8 := same_upd (o := .tup [.int (numOf u), .int (numOf v)]) hq
      have s58 := (s6.trans s7).trans s8
      have eq : (upd H7 q (.tup [.int (numOf u), .int (numOf v)])) q = some (.tup [.int (remOf t).1, .int (remOf t).2]) := by rw [upd_same, er]
      have nq : H5 q = none := (s6.trans s7).free hq
      generalize upd H7 q (.tup [.int (numOf u), .int (numOf v)]) = H8 at s8 s58 eq
      refine ⟨_, s58 _ _ eD, ?_, xs ++ [.ref q], fun b o eb => ?_, upd_same, ?_⟩
      · rw [hP.len, List.length_map, List.length_take]
        exact Nat.lt_of_le_of_lt (Nat.le_trans (Nat.min_le_left _ _) (by omega : j ≤ 100000)) (by decide)
      · rw [upd_ne (ne_of_none eb hD)]; exact s58 _ _ (s5 _ _ eb)
      · have tK : ∀ t' ys, H8 t' = some (.tup ys) → (upd H8 D (.lst (xs ++ [V.ref q]))) t' = some (.tup ys) := fun t' ys h => by
          rw [upd_ne (fun e => by rw [e, s58 _ _ eD] at h; cases h)]; exact h
        rw [take_more ht, List.map_append]
        exact (hP.mono fun t' ys h => tK _ _ (s58 _ _ h)).app ⟨q, rfl, tK _ _ eq⟩
    · rintro H5 ⟨xs, s5, eD, hP⟩
      rw [List.length_map, List.take_length] at hP
      refine ⟨D, xs, rfl, .inl ⟨SqL.of eD, fun aR haR => ?_⟩⟩
      exact k _ aR xs (s5.trans (same_upd haR)) upd_same (hP.mono fun t ys h => same_upd haR _ _ h)
theorem scHouseX : FnScope ["_law_parts"] ["_law_parts"] (defScope sHouseF) := ⟨rfl, rfl, rfl, by decide +kernel, rfl, by decide +kernel, by decide +kernel⟩
theorem ok_housex {f : Addr} {fd : FuncData} (F : Fun K "_law_house" "_law_house" sHouseF f fd) (T : TxtA mg) (TC : TxtC mg) (TF : TxtF K mg fII fIB fHO fdII fdIB fdHO) (TI : TxtI K mg fIT fIR fAs fdIT fdIR fdAs) (TH : TxtIH K mg C fI fdI)
    (TL' : TxtL K mg CH fP fT fK fC fR fdP fdT fdK fdC fdR)
    (FH : FunD K "__init__" "House.__init__" (defArgs sInit) (defBody sInit) (defScope sInit) dvs [] fH fdH) (bH : Binds K fdH ["self", "tables", "keys", "careful", "reminders"] []) (M : Mk K CH fH) (gH : mg "House" = some (.ref CH)) :
    FnOk P w K mg base (L2.CX P w) 7 f fd ["_law_parts"] (spHouseX K CH C) := by
  have GH : FnOk P w K mg base (L2.CX P w) 5 fH fdH ["self", "tables", "keys", "careful", "reminders"] (spInit K CH C) := ok_init FH T TC TF TI TH TL'
  refine F.okX scHouseX (fun vs H Q E h => ?_) (fun cdv A outer s H vs Q E hr h => ?_)
  · obtain ⟨a, aT, aC, aR, ts, kk, cs, rs, xs, rfl, _⟩ := h
    rfl
  · obtain ⟨a, aT, aC, aR, ts, kk, cs, rs, xs, rfl, e1, e2, e3, e4, e5, hts, k, kx⟩ := h
    refine ⟨_, pss_one (ps_ret (pe_make M GH hr rfl gH bH .nil (passes_call (takes_of rfl rfl rfl rfl) (fun _ _ _ _ h => h)) (pa_cons (pe_ix ix_tup (pv 0) pe_int (fun _ _ => rfl)) (pa_cons (pe_ix ix_tup (pv 0) pe_int (fun _ _ => rfl)) (pa_cons (pe_ix ix_tup (pv 0) pe_int (fun _ _ => rfl)) (pa_cons (pe_ix ix_tup (pv 0) pe_int (fun _ _ => rfl)) pa_nil)))))), ?_⟩
    refine ⟨_, rfl, a, _, 0, _, rfl, rfl, SqT.of e1, at0, _, rfl, a, _, 1, _, rfl, rfl, SqT.of e1, at1, _, rfl, a, _, 2, _, rfl, rfl, SqT.of e1, at2, _, rfl, a, _, 3, _, rfl, rfl, SqT.of e1, at3, ?_⟩
    intro p dx hpn hdx npd
    have sN : Same H (upd (upd H dx (.own p)) p (.ins CH dx [])) := fun b o e => by
      rw [upd_ne (ne_of_none e hpn), upd_ne (ne_of_none e hdx)]; exact e
    refine ⟨p, dx, .ref aT, .int kk, .ref aC, .ref aR, dStrs ts, .int kk, dInts cs, dPrs rs, rfl,
      dpSame sN _ _ (.tup e2 (dpAll_strs ts)), .int _, dpSame sN _ _ (.tup e3 (dpAll_ints _)), dpSame sN _ _ (.tup (SqT.of e4) (dpAll_prs e5)), ?_, upd_same, fun hc H7 k7 e7 => ⟨rfl, ?_⟩, fun part i hc => Raised.mono (kx part i hc) sN⟩
    · intro ds hds y hy
      cases hds
      obtain ⟨t, ht, rfl⟩ := List.mem_map.mp hy
      exact Nat.le_trans (hts t ht) (by decide)
    · exact k hc H7 p fun b o e => k7 b o (ne_of_none e hpn) (sN _ _ e)
end
end Dk

set_option Elab.async false
set_option linter.all false
set_option maxRecDepth 100000
set_option maxHeartbeats 1000000
namespace Dk
open PySem PySem.Spec PyProof.Rows L2 TL
/-! ### a text that is accepted is the text of its house -/
theorem remS_back {x : Str} (h : isRW x = true) : remS (remOf x) = x := by
  obtain ⟨a, b, es, ha, hb, er⟩ := rw_parts h
  apply ext_tl
  rw [er]
  unfold remS
  have na : numS (numOf a) = a := (nw_num ha).2.1
  have nb : numS (numOf b) = b := (nw_num hb).2.1
  have ej := PySem.StrLaws.join_split x colS
  rw [es] at ej
  have e1 : tl x = tl a ++ (tl colS ++ tl b) := by
    conv => lhs; rw [← ej]
    rw [tl_join]
    rfl
  rw [e1]
  dsimp only
  rw [na, nb]
  simp only [tl_append]
  rw [show tl Str.empty = [] from rfl, List.nil_append, List.append_assoc]
theorem text_back {x : Str} {r0 r2 r3 : List Str} {wk : Str} (R : Rows4 x r0 wk r2 r3) : textOf r0 (numOf wk) (r2.map numOf) (r3.map remOf) = x := by
  have n2 : (r2.map numOf).map numS = r2 := by
    rw [List.map_map]
    conv => rhs; rw [← List.map_id r2]
    exact List.map_congr_left fun y hy => (nw_num (R.h2 y hy)).2.1
  have n3 : (r3.map remOf).map remS = r3 := by
    rw [List.map_map]
    conv => rhs; rw [← List.map_id r3]
    exact List.map_congr_left fun y hy => remS_back (R.h3 y hy)
  have nk : numS (numOf wk) = wk := (nw_num R.hk).2.1
  unfold textOf rowsT
  rw [n2, n3, nk, ← R.lines, List.map_map]
  have e1 : ((linesOf x).map (Txt.join spS ∘ fun l => Txt.split l spS)) = linesOf x := by
    conv => rhs; rw [← List.map_id (linesOf x)]
    exact List.map_congr_left fun y hy => by
      show Txt.join spS (Txt.split y spS) = y
      rw [join_eq, PySem.StrLaws.join_split]
  rw [e1, join_eq]
  exact PySem.StrLaws.join_split x nlS
theorem asc_len {cs : List Int} {n : Nat} (h : chkCareful (dInts cs) (n : Int) = none) : cs.length ≤ n := by
  have hb := bad1_none.mp (show bad1 (fun i x => !below x n || !ascI (cs.map PyData.int) i) 0 (cs.map PyData.int) = none from h)
  have at' : ∀ j, (hj : j < cs.length) → (cs.map PyData.int)[j]? = some (.int cs[j]) := fun j hj => by rw [List.getElem?_map, List.getElem?_eq_getElem hj]; rfl
  have both : ∀ j, (hj : j < cs.length) → below (.int cs[j]) (n : Int) = true ∧ ascI (cs.map PyData.int) j = true := fun j hj => by
    have := hb j _ (at' j hj)
    rw [Nat.zero_add] at this
    simpa using this
  have key : ∀ j, (hj : j < cs.length) → (j : Int) ≤ cs[j] := by
    intro j
    induction j with
    | zero =>
      intro hj
      have := (both 0 hj).1
      have : (decide ((0 : Int) ≤ cs[0]) && decide (cs[0] < (n : Int))) = true := this
      simp at this
      exact this.1
    | succ j ih =>
      intro hj
      have h1 := ih (by omega)
      have h2 : decide (intOf ((cs.map PyData.int).getD j .none) < intOf ((cs.map PyData.int).getD (j + 1) .none)) = true := (both (j + 1) hj).2
      rw [List.getD_eq_getElem?_getD, List.getD_eq_getElem?_getD, at' j (by omega), at' (j + 1) hj] at h2
      have h3 : cs[j] < cs[j + 1] := of_decide_eq_true h2
      omega
  cases hl : cs.length with
  | zero => exact Nat.zero_le _
  | succ m =>
    have hm : m < cs.length := by omega
    have h1 := key m hm
    have h2 := (both m hm).1
    have h2 : (decide ((0 : Int) ≤ cs[m]) && decide (cs[m] < (n : Int))) = true := h2
    simp at h2
    omega
theorem sizes_chk {ts : List Str} {wk : Str} {r2 r3 : List Str} (hk : isNW wk = true) (h2 : ∀ y ∈ r2, isNW y = true) (h3 : ∀ y ∈ r3, isRW y = true)
    (hc : chkHouse (dStrs ts) (.int (numOf wk)) (dInts (r2.map numOf)) (dPrs (r3.map remOf)) = none) : Sizes ts (numOf wk) (r2.map numOf) (r3.map remOf) := by
  unfold chkHouse at hc
  cases c1 : chkTabs (dStrs ts) with
  | some i => rw [c1] at hc; cases hc
  | none =>
  rw [c1] at hc; dsimp only at hc
  cases c2 : chkKeys (.int (numOf wk)) with
  | some i => rw [c2] at hc; cases hc
  | none =>
  rw [c2] at hc; dsimp only at hc
  cases c3 : chkCareful (dInts (r2.map numOf)) (lenD (dStrs ts) : Int) with
  | some i => rw [c3] at hc; cases hc
  | none =>
  rw [c3] at hc; dsimp only at hc
  cases c4 : chkRem (dPrs (r3.map remOf)) (perD (dStrs ts) : Int) (lenD (dStrs ts) : Int) with
  | some i => rw [c4] at hc; cases hc
  | none =>
  obtain ⟨ts', e, hT, n1, n6⟩ := tabs_of c1
  have et : ts = ts' := by
    have e0 : ts.map PyData.str = ts'.map PyData.str := by injection e
    have := congrArg (·.map strOf) e0
    simp only [strs_back] at this
    exact this
  subst et
  have hlen : lenD (dStrs ts) = ts.length := by show (ts.map PyData.str).length = _; rw [List.length_map]
  rw [hlen] at c3
  refine ⟨n6, fun t ht => ?_, (nw_num hk).2.2.1, (nw_num hk).2.2.2, Nat.le_trans (asc_len c3) n6, fun c hc => ?_, ?_, fun r hr => ?_⟩
  · have := (hT t ht).pos.2; rw [len_tl t]; omega
  · obtain ⟨y, hy, rfl⟩ := List.mem_map.mp hc
    exact (nw_num (h2 y hy)).2.2
  · have hb := bad1_none.mp (show bad1 _ 0 ((r3.map remOf).map prR) = none from c4)
    by_cases q : (r3.map remOf).length ≤ 10
    · exact q
    · have h10 : 10 < (r3.map remOf).length := by omega
      have := hb 10 _ (by rw [List.getElem?_map, List.getElem?_eq_getElem h10]; rfl)
      cases this
  · obtain ⟨y, hy, rfl⟩ := List.mem_map.mp hr
    obtain ⟨a, b, es, ha, hb, er⟩ := rw_parts (h3 y hy)
    rw [er]
    exact ⟨(nw_num ha).2.2.1, (nw_num ha).2.2.2, (nw_num hb).2.2.1, (nw_num hb).2.2.2⟩
/-! ### the text that the law has made -/
theorem mem_joinL {S : List Nat} : ∀ {ls : List (List Nat)} {c : Nat}, c ∈ joinL S ls → c ∈ S ∨ ∃ p ∈ ls, c ∈ p
  | [], _, h => by cases h
  | [a], c, h => .inr ⟨a, by simp, h⟩
  | a :: b :: r, c, h => by
    have h' : c ∈ a ++ (S ++ joinL S (b :: r)) := h
    rcases List.mem_append.mp h' with h | h
    · exact .inr ⟨a, by simp, h⟩
    · rcases List.mem_append.mp h with h | h
      · exact .inl h
      · rcases mem_joinL h with q | ⟨p, hp, hc⟩
        · exact .inl q
        · exact .inr ⟨p, List.mem_cons_of_mem _ hp, hc⟩
theorem mem_join {y : Str} {ps : List Str} {c : Nat} (h : c ∈ tl (Txt.join y ps)) : c ∈ tl y ∨ ∃ p ∈ ps, c ∈ tl p := by
  rw [join_eq, tl_join] at h
  rcases mem_joinL h with q | ⟨p, hp, hc⟩
  · exact .inl q
  · obtain ⟨t, ht, rfl⟩ := List.mem_map.mp hp
    exact .inr ⟨t, ht, hc⟩
structure RowsB (n m : Nat) (rows : List (List Str)) : Prop where
  p : 1 ≤ rows.length
  n : rows.length ≤ n
  m : ∀ r ∈ rows, r.length ≤ m ∧ ∀ y ∈ r, AscW 8 y
theorem rowB_len {n m : Nat} {rows : List (List Str)} (h : RowsB n m rows) (hm : m ≤ 12) : ∀ r ∈ rows, (r.map (·.length)).sum + r.length * spS.length ≤ 120 := fun r hr => by
  obtain ⟨h1, h2⟩ := h.m r hr
  have hs := sum_len (l := r) (n := 8) fun y hy => (h2 y hy).z
  have e1 : spS.length = 1 := by decide +kernel
  rw [e1]
  omega
theorem textB_len {n m : Nat} {rows : List (List Str)} (h : RowsB n m rows) (hm : m ≤ 12) (hn : n ≤ 7) : ((rows.map (Txt.join spS)).map (·.length)).sum + (rows.map (Txt.join spS)).length * nlS.length ≤ 900 := by
  have hs := sum_len (l := rows.map (Txt.join spS)) (n := 120) fun p hp => by
    obtain ⟨r, hr, rfl⟩ := List.mem_map.mp hp
    exact Nat.le_trans (join_len _ _) (rowB_len h hm r hr)
  have e1 : nlS.length = 1 := by decide +kernel
  have h1 := h.n
  rw [List.length_map] at hs ⊢
  rw [e1]
  omega
theorem text_asc {n m : Nat} {rows : List (List Str)} (h : RowsB n m rows) (hm : m ≤ 12) (hn : n ≤ 7) : AscW 900 (Txt.join nlS (rows.map (Txt.join spS))) := by
  refine ⟨Nat.le_trans (join_len _ _) (textB_len h hm hn), fun c hc => ?_⟩
  rcases mem_join hc with q | ⟨p, hp, q⟩
  · rw [tl_nl] at q
    rw [List.mem_singleton.mp q]; decide
  · obtain ⟨r, hr, rfl⟩ := List.mem_map.mp hp
    rcases mem_join q with q | ⟨y, hy, q⟩
    · rw [tl_sp] at q
      rw [List.mem_singleton.mp q]; decide
    · exact ((h.m r hr).2 y hy).a c q
theorem rows_ok {x : Str} (h : AscW 900 x) : RowsOk (rowsOf x) := by
  refine ⟨by show ((linesOf x).map _).length ≤ 1000; rw [List.length_map]; have := split_le x nlS; have := h.z; unfold linesOf; omega, fun r hr => ?_⟩
  obtain ⟨l, hl, rfl⟩ := List.mem_map.mp hr
  have hl' := split_asc sepNl h l hl
  refine ⟨split_ne sepSp, Nat.le_trans (split_le l spS) (by have := hl'.z; omega), fun y hy => ?_⟩
  have := split_asc sepSp hl' y hy
  exact ⟨Nat.le_trans this.z (by decide), this.a⟩
/-! ### the lines, as lists in the heap -/
structure LnAt (d : Addr) (H : Hp) (l : Addr) (rows : List (List Str)) : Prop where
  ex : ∃ as, H l = some (.lst (as.map V.ref)) ∧ RowsAt H as rows ∧ l ≠ d ∧ d ∉ as ∧ l ∉ as
theorem LnAt.kp {d : Addr} {H H' : Hp} {l : Addr} {rows : List (List Str)} (h : LnAt d H l rows) (k : Kp d H H') : LnAt d H' l rows := by
  obtain ⟨as, e, hR, n1, n2, n3⟩ := h
  exact ⟨as, k _ _ n1 e, hR.keep k n2, n1, n2, n3⟩
theorem LnAt.same {d : Addr} {H H' : Hp} {l : Addr} {rows : List (List Str)} (h : LnAt d H l rows) (k : Same H H') : LnAt d H' l rows := h.kp (sKp k)
theorem RowsAt.take {H : Hp} : ∀ {as : List Addr} {rows : List (List Str)} (n : Nat), RowsAt H as rows → RowsAt H (as.take n) (rows.take n)
  | _, _, 0, _ => .nil
  | [], [], _ + 1, .nil => .nil
  | _ :: _, _ :: _, n + 1, .cons h t => .cons h (RowsAt.take n t)
theorem RowsAt.drop {H : Hp} : ∀ {as : List Addr} {rows : List (List Str)} (n : Nat), RowsAt H as rows → RowsAt H (as.drop n) (rows.drop n)
  | _, _, 0, h => h
  | [], [], _ + 1, .nil => .nil
  | _ :: _, _ :: _, n + 1, .cons h t => RowsAt.drop n t
theorem RowsAt.cat {H : Hp} : ∀ {as bs : List Addr} {r1 r2 : List (List Str)}, RowsAt H as r1 → RowsAt H bs r2 → RowsAt H (as ++ bs) (r1 ++ r2)
  | [], _, [], _, .nil, h => h
  | _ :: _, _, _ :: _, _, .cons h t, q => .cons h (RowsAt.cat t q)
section
variable {cs : Nat → Addr}
/-- _law_error_of(lambda: ..) with more room -/
theorem pe_errof2 {X : Cx} {cs : Nat → Addr} {CE CI CT fE c P : Addr} {fdE : FuncData} {T : List (Addr × Str)} {params : Arguments} {body : Expr} {scope : Scope} {t : XK → TE} {p lpos pos : Pos} (N : TxtN X.mg cs CE) (EI : ErrKit X.K cs CE CI 8) (ET : ErrKit X.K cs CE CT 9) (XF : XFs X.K CI CT)
    (hg : Gl X "_law_error_of") (hm : X.mg "_law_error_of" = some (.ref fE)) (FE : Fun X.K "_law_error_of" "_law_error_of" sErr fE fdE) (bE : Binds X.K fdE ["_law_call"] [])
    (TB : LamX.TabB X.base X.mg c P) (hcode : X.env.code = .ref c) (hmT : (P, X.env.qual ++ "<lambda>") ∈ T) (hu : ∀ p ∈ T, p.1 = P → p.2 = X.env.qual ++ "<lambda>") (hr : Room 10 X.A) (L : LamX.LamS X.env.scope scope) (hdef : defaultsOf params X.env = ([], []))
    (hbind : ∀ (q : Str) (cl : List (Str × Addr)) (pm cv ctv : Value), bindArgs (PySem.W.kla_fn "<lambda>" q params body scope cl pm cv ctv) ⟨[], []⟩ = pure [])
    (hbody : ∀ (A : Around) (outer : List Env) (s : Shared) (H : Hp) (E : XK) (f c' : Addr), Room 8 (A.deeper (LamX.lamEnv X scope s.heap.objs.size f c')) → PE (LamX.lamCx X A outer s H E scope f c') body (t E)) :
    PE X (.Call (.Name "_law_error_of" p) [.Lambda params body scope lpos] [] pos) (LamX.tLam T (TErr X.K CI CT) t) := by
  obtain ⟨oc, od, kV, doc, pm, an, cdv, ct, osl, rfl, lk, hcd⟩ := FE.ex
  refine LamX.pe_lamcall (Ng := nErr) (a := "_law_call") (k := 8) hg hm FE.kp lk hcd bE scErr rfl (.inl rfl) (err_gives N EI ET XF ?_) TB hcode hmT hu hr L hdef hbind hbody
  have := hr.un
  omega
end
end Dk

set_option Elab.async false
set_option linter.all false
set_option maxRecDepth 100000
set_option maxHeartbeats 4000000
namespace Dk
open PySem PySem.Spec PyProof.Rows L2 TL
abbrev lamQ : Str := (envOfC (Str.ofString "law") (defScope sLaw) 0 0 .none).qual ++ Str.ofString "<lambda>"
def spLaw (K : PySem.W.Frag) (Pt : Addr) : Sp := fun vs H Q _ => ∃ (a : Addr) (ns : List Int), vs = [.ref a] ∧ SqL K H a (ns.map V.int) ∧ ns.length ≤ 63 ∧ LamX.Tabs [(Pt, lamQ)] H ∧ ∀ H', Q (.bl true) H'
abbrev nLaw15 : List Str := ["_law_script", "_law_d", "_law_lines", "_law_words", "_law_change", "_law_k", "_law_kind", "_law_word", "_law_at", "_law_rest", "_law_line", "_law_text", "_law_rows", "_law_expected", "_law_careful", "_law_parts", "_law_error"]
/-- a def that is called by its name -/
structure Cal (P : Program) (w : World) (K : PySem.W.Frag) (mg : Str → Option Value) (base : Heap) (CX : CXT) (k : Nat) (x : Str) (f : Addr) (fd : FuncData) (ps : List Str) (sp : Sp) : Prop where
  G : FnOk P w K mg base CX k f fd ps sp
  g : mg x = some (.ref f)
  kp : PySem.W.keepIn K (.ref f) = true
  b : Binds K fd ps []
structure Kit15 (P : Program) (w : World) (K : PySem.W.Frag) (mg : Str → Option Value) (base : Heap) (cL Pt CH CI CT CE : Addr) (mc : Value) (cs : Nat → Addr) (fRa fB fF fRd fHo fErr pP gP pT gT : Addr) (fdRa fdB fdF fdRd fdHo fdErr fdT : FuncData) : Prop where
  T : TxtA mg
  tuple : mg "tuple" = none
  int : mg "int" = none
  Ra : Cal P w K mg base CX0 1 "_law_random" fRa fdRa ["_law_script", "_law_salt"] (spRandom K)
  B : Cal P w K mg base CX0 1 "_law_below" fB fdB ["_law_d", "_law_limit"] spBelow
  F : Cal P w K mg base CX0 3 "_law_text_fault" fF fdF ["_law_rows"] spFault
  Rd : Cal P w K mg base CX0 1 "_law_read" fRd fdRd ["_law_words"] (spRead K)
  Ho : Cal P w K mg base (L2.CX P w) 7 "_law_house" fHo fdHo ["_law_parts"] (spHouseX K CH CI)
  gErr : mg "_law_error_of" = some (.ref fErr)
  FErr : Fun K "_law_error_of" "_law_error_of" sErr fErr fdErr
  bErr : Binds K fdErr ["_law_call"] []
  gH : mg "House" = some (.ref CH)
  cl : Cls K CH
  rd : ClX.CRead K CH mc
  cm : ClX.CMet K CH mc "parse" pP gP
  GP : FnR P w K mg base (L2.CX P w) 7 gP (spParse K CH CI CT)
  po : PropOf K CH "text" pT gT
  GT : FnOk P w K mg base CX0 2 gT fdT ["self"] (spText K CH)
  bT : Binds K fdT ["self"] []
  N : TxtN mg cs CE
  EI : ErrKit K cs CE CI 8
  ET : ErrKit K cs CE CT 9
  XF : XFs K CI CT
  TB : LamX.TabB base mg cL Pt
section
variable {P : Program} {w : World} {K : PySem.W.Frag} {mg : Str → Option Value} {base : Heap}
theorem scLaw15 : FnScope nLaw15 ["_law_script"] (defScope sLaw) := ⟨rfl, rfl, rfl, by decide +kernel, rfl, by decide +kernel, by decide +kernel⟩
end
theorem hmT15 (Pt : Addr) : (Pt, lamQ) ∈ [(Pt, lamQ)] := List.mem_singleton.mpr rfl
theorem hu15 (Pt : Addr) : ∀ p ∈ [(Pt, lamQ)], p.1 = Pt → p.2 = lamQ := fun p hp _ => by rw [List.mem_singleton.mp hp]
def wordsL : List Str := ["", "07", "5", "100", "99", "-1", "x", "hho", "h", "tables", "1:0", "1:2:3", ":1", "1:", "0", "01:0"].map Str.ofString
/-- the lines are changed -/
structure CondL (Pt : Addr) (n m : Nat) (D : Ends) (σ : L2.St) (H : Hp) : Prop where
  ex : ∃ (d l : Addr) (st : List Int) (rows : List (List Str)) (v0 v3 v4 v5 v6 v7 v8 v9 v10 v11 v12 v13 v14 v15 v16 : Option V), σ = [v0, some (.ref d), some (.ref l), v3, v4, v5, v6, v7, v8, v9, v10, v11, v12, v13, v14, v15, v16] ∧
    H d = some (.lst (st.map V.int)) ∧ Good st ∧ LnAt d H l rows ∧ RowsB n m rows ∧ LamX.Tabs [(Pt, lamQ)] H ∧ ∀ H', D.rt (.bl true) H'
/-- the text is known, and the first invalid line -/
structure CondX (Pt : Addr) (D : Ends) (σ : L2.St) (H : Hp) : Prop where
  ex : ∃ (x : Str) (a : Addr) (as : List Addr) (v0 v1 v2 v3 v4 v5 v6 v7 v8 v9 v10 v14 v15 v16 : Option V), σ = [v0, v1, v2, v3, v4, v5, v6, v7, v8, v9, v10, some (.str x), some (.ref a), some (noneV (fault x)), v14, v15, v16] ∧
    AscW 900 x ∧ H a = some (.lst (as.map V.ref)) ∧ RowsAt H as (rowsOf x) ∧ LamX.Tabs [(Pt, lamQ)] H ∧ ∀ H', D.rt (.bl true) H'
/-- the text is valid, and the parts are read -/
structure CondP (K : PySem.W.Frag) (Pt : Addr) (D : Ends) (σ : L2.St) (H : Hp) : Prop where
  ex : ∃ (x : Str) (r0 r2 r3 : List Str) (wk : Str) (p aT aC aR : Addr) (xs : List V) (v0 v1 v2 v3 v4 v5 v6 v7 v8 v9 v10 v12 v13 v14 v16 : Option V), σ = [v0, v1, v2, v3, v4, v5, v6, v7, v8, v9, v10, some (.str x), v12, v13, v14, some (.ref p), v16] ∧
    AscW 900 x ∧ fault x = none ∧ Rows4 x r0 wk r2 r3 ∧ (∀ y ∈ r0, y.length ≤ 1000) ∧ H p = some (.tup [.ref aT, .int (numOf wk), .ref aC, .ref aR]) ∧ H aT = some (.tup (r0.map V.str)) ∧ H aC = some (.tup ((r2.map numOf).map V.int)) ∧ H aR = some (.tup xs) ∧ Prs H xs (r3.map remOf) ∧
    LamX.Tabs [(Pt, lamQ)] H ∧ ∀ H', D.rt (.bl true) H'
end Dk

set_option Elab.async false
set_option linter.all false
set_option maxRecDepth 100000
set_option maxHeartbeats 8000000
namespace Dk
open PySem PySem.Spec PyProof.Rows L2 TL
section
variable {P : Program} {w : World} {K : PySem.W.Frag} {mg : Str → Option Value} {base : Heap} {cL Pt CH CI CT CE : Addr} {mc : Value} {cs : Nat → Addr} {fRa fB fF fRd fHo fErr pP gP pT gT : Addr} {fdRa fdB fdF fdRd fdHo fdErr fdT : FuncData}
def tHo15 (K : PySem.W.Frag) (CH CI : Addr) : XK → TE := fun E => tCall (spHouseX K CH CI) [] E (tCons (tVar 15) tNil)
def tPa15 (K : PySem.W.Frag) (CH CI CT : Addr) : XK → TE := fun E => ClX.tCMeth CH (spParse K CH CI CT) E (tC (.ref CH)) (tCons (tVar 11) tNil)
theorem chk_part {dT dK dC dR : PyData} {part : Str} {i : Nat} (h : chkHouse dT dK dC dR = some (part, i)) : PyData.strOk part = true := by
  unfold chkHouse at h
  cases c1 : chkTabs dT with
  | some i => rw [c1] at h; cases h; decide +kernel
  | none =>
  rw [c1] at h; dsimp only at h
  cases c2 : chkKeys dK with
  | some i => rw [c2] at h; cases h; decide +kernel
  | none =>
  rw [c2] at h; dsimp only at h
  cases c3 : chkCareful dC (lenD dT : Int) with
  | some i => rw [c3] at h; cases h; decide +kernel
  | none =>
  rw [c3] at h; dsimp only at h
  cases c4 : chkRem dR (perD dT : Int) (lenD dT : Int) with
  | some i => rw [c4] at h; cases h; decide +kernel
  | none => rw [c4] at h; cases h
theorem rows4_one {x : Str} {r0 r2 r3 r0' r2' r3' : List Str} {wk wk' : Str} (a : Rows4 x r0 wk r2 r3) (b : Rows4 x r0' wk' r2' r3') : r0' = r0 ∧ wk' = wk ∧ r2' = r2 ∧ r3' = r3 := by
  have hR := b.rows
  rw [a.rows] at hR
  injection hR with h0 hR
  injection hR with h1 hR
  injection h1 with h1 _
  injection hR with h2 hR
  injection hR with h3 _
  exact ⟨h0.symm, h1.symm, h2.symm, h3.symm⟩
theorem law_f {f : Addr} {A : Around} {outer : List Env} {s : Shared} {H : Hp} {E : XK} (hr : Room 10 (A.deeper (envOfC (Str.ofString "law") (defScope sLaw) s.heap.objs.size f (.ref cL))))
    (Z : Kit15 P w K mg base cL Pt CH CI CT CE mc cs fRa fB fF fRd fHo fErr pP gP pT gT fdRa fdB fdF fdRd fdHo fdErr fdT) :
    ∃ t, PSs (cxOf CX0 P w K mg base nLaw15 "law" (defScope sLaw) f (.ref cL) A outer s H E).nox ((defBody sLaw).drop 13) t ∧ ∀ D σ H2, CondP K Pt D σ H2 → t D σ H2 := by
  have hr7 : Room 7 (A.deeper (envOfC (Str.ofString "law") (defScope sLaw) s.heap.objs.size f (.ref cL))) := hr.mono (by decide)
  have hr3 : Room 3 (A.deeper (envOfC (Str.ofString "law") (defScope sLaw) s.heap.objs.size f (.ref cL))) := hr.mono (by decide)
  have hu64 : (A.deeper (envOfC (Str.ofString "law") (defScope sLaw) s.heap.objs.size f (.ref cL))).units + 64 < cLine := by have := hr.un; omega
  refine ⟨_, pss_cons (ps_set (i := 16) scLaw15.nd rfl (.inl rfl) (pe_errof2 (T := [(Pt, lamQ)]) (t := tHo15 K CH CI) Z.N Z.EI Z.ET Z.XF (by rfl) Z.gErr Z.FErr Z.bErr Z.TB rfl (hmT15 Pt) (hu15 Pt) hr (LamX.lamS_by (sc := defScope sLaw) (by decide +kernel)) rfl (fun _ _ _ _ _ => rfl)
        (fun A outer s H E f c' hr' => by exact pe_call Z.Ho.G (hr'.mono (by decide)) rfl Z.Ho.g Z.Ho.kp Z.Ho.b .nil (passes_call (takes_of rfl rfl rfl rfl) (fun _ _ _ _ h => h)) (pa_cons (pv 15) pa_nil))))
    (pss_cons (ps_if (pt_cmp (pc_notN (pv 16)) rfl) (pss_one (ps_ret (pe_cmpR (op_eqD hu64) (pe_errof2 (T := [(Pt, lamQ)]) (t := tPa15 K CH CI CT) Z.N Z.EI Z.ET Z.XF (by rfl) Z.gErr Z.FErr Z.bErr Z.TB rfl (hmT15 Pt) (hu15 Pt) hr (LamX.lamS_by (sc := defScope sLaw) (by decide +kernel)) rfl (fun _ _ _ _ _ => rfl)
        (fun A outer s H E f c' hr' => by exact ClX.pe_cmeth (pe_glob (v := .ref CH) (by rfl) Z.gH rfl) Z.rd Z.cm Z.GP (hr'.mono (by decide)) (passes_call (takes_of rfl rfl rfl rfl) (fun _ _ _ _ h => h)) (pa_cons (pv 11) pa_nil))) (pv 16) (nomark _)))) pss_nil)
    (pss_one (ps_ret (pe_cmpR op_eq (pe_prop (ClX.pe_cmeth (pe_glob (v := .ref CH) (by rfl) Z.gH rfl) Z.rd Z.cm Z.GP hr7 passL (pa_cons (pv 11) pa_nil)) Z.cl Z.po Z.GT hr3 Z.bT .nil pass0 rfl) (pv 11) (nomark _))))), fun D σ H2 hc => ?_⟩
  obtain ⟨⟨x, r0, r2, r3, wk, p, aT, aC, aR, xs, v0, v1, v2, v3, v4, v5, v6, v7, v8, v9, v10, v12, v13, v14, v16, rfl, hA, hF, R4, hz0, ep, eT, eC, eR, hP, hT, k⟩⟩ := hc
  have hx : x.length ≤ 10000 := Nat.le_trans hA.z (by decide)
  refine ⟨hT, fun H3 x3 T3 => ?_⟩
  refine ⟨_, rfl, p, aT, aC, aR, r0, numOf wk, r2.map numOf, r3.map remOf, xs, rfl, ExtN_tup x3 ep, SqT.of (ExtN_tup x3 eT), SqT.of (ExtN_tup x3 eC), ExtN_tup x3 eR, hP.mono fun t ys h => ExtN_tup x3 h, hz0, fun hc H4 q s4 => ?_, fun part i hc => ?_⟩
  · refine ⟨_, rfl, _, rfl, ?_⟩
    rw [show (!decide (V.non = V.non)) = false from by simp]
    refine iteF ⟨rfl, _, rfl, x, rfl, hx, fun i (hf : fault x = some i) => (by rw [hF] at hf; cases hf), fun r0' wk' r2' r3' R' => ?_⟩
    obtain ⟨rfl, rfl, rfl, rfl⟩ := rows4_one R4 R'
    refine ⟨fun _ H5 p5 s5 hp5 hA5 => ?_, fun part i hc' => by rw [hc] at hc'; cases hc'⟩
    obtain ⟨dx, bT, bC, bR, ys, g1, g2, g3, g4, g5⟩ := id hA5.ex
    refine ⟨p5, dx, _, rfl, g1, p5, _, _, _, _, rfl, hA5, sizes_chk R4.hk R4.h2 R4.h3 hc, fun H6 s6 => ?_⟩
    rw [text_back R4]
    refine ⟨_, rfl, rfl, ?_⟩
    rw [show decide (V.str x = V.str x) = true from decide_eq_true rfl]
    exact k _
  · have hs := chk_part hc
    intro H4 dd s4 hdd edd
    refine .inl ⟨part, i, dd, rfl, rfl, edd, fun H5 p5 t5 s5 et5 ep5 => ?_⟩
    refine ⟨_, rfl, _, rfl, ?_⟩
    rw [show (!decide (V.ref p5 = V.non)) = true from by simp]
    refine iteT ⟨tabs_same T3 (s4.trans s5), fun H6 x6 T6 => ?_⟩
    refine ⟨rfl, _, rfl, x, rfl, hx, fun i (hf : fault x = some i) => (by rw [hF] at hf; cases hf), fun r0' wk' r2' r3' R' => ?_⟩
    obtain ⟨rfl, rfl, rfl, rfl⟩ := rows4_one R4 R'
    refine ⟨fun hc' => (by rw [hc] at hc'; cases hc'), fun part' i' hc' H7 d7 s7 hd7 ed7 => ?_⟩
    rw [hc] at hc'
    injection hc' with hc'
    injection hc' with hp' hi'
    subst hp' hi'
    refine .inl ⟨part, i, d7, rfl, rfl, ed7, fun H8 p8 t8 s8 et8 ep8 => ?_⟩
    have s68 := s7.trans s8
    refine ⟨_, rfl, .tuple [.str (Str.ofString "house"), .tuple [.str part, .int (i : Int)]], .tuple [.str (Str.ofString "house"), .tuple [.str part, .int (i : Int)]],
      .tup (SqT.of ep8) (.cons (.str _) (.cons (.tup (SqT.of et8) (.cons (.str _) (.cons (.int _) .nil))) .nil)),
      .tup (SqT.of (s68 _ _ (ExtN_tup x6 ep5))) (.cons (.str _) (.cons (.tup (SqT.of (s68 _ _ (ExtN_tup x6 et5))) (.cons (.str _) (.cons (.int _) .nil))) .nil)), pair_shaped hs, pair_shaped hs, ?_⟩
    rw [eqv_house]
    exact k _
end
end Dk

set_option Elab.async false
set_option linter.all false
set_option maxRecDepth 100000
set_option maxHeartbeats 8000000
namespace Dk
open PySem PySem.Spec PyProof.Rows L2 TL
section
variable {P : Program} {w : World} {K : PySem.W.Frag} {mg : Str → Option Value} {base : Heap} {cL Pt CH CI CT CE : Addr} {mc : Value} {cs : Nat → Addr} {fRa fB fF fRd fHo fErr pP gP pT gT : Addr} {fdRa fdB fdF fdRd fdHo fdErr fdT : FuncData}
theorem fault_rows4 {x : Str} {r0 r2 r3 : List Str} {wk : Str} (R : Rows4 x r0 wk r2 r3) : fault x = none := by
  rw [fault_is]
  show faultR 0 lineWords ((linesOf x).map fun l => Txt.split l spS) = none
  rw [R.lines]
  have a0 : areArgs wTab r0 = true := by rw [aa0]; exact List.all_eq_true.mpr R.h0
  have a1 : areArgs wKey [wk] = true := by rw [aa1]; simp [R.hk]
  have a2 : areArgs wCar r2 = true := by rw [aa2]; exact List.all_eq_true.mpr R.h2
  have a3 : areArgs wRem r3 = true := by rw [aa3]; exact List.all_eq_true.mpr R.h3
  show (if wTab = wTab ∧ areArgs wTab r0 = true then (if wKey = wKey ∧ areArgs wKey [wk] = true then (if wCar = wCar ∧ areArgs wCar r2 = true then (if wRem = wRem ∧ areArgs wRem r3 = true then (none : Option Nat) else some 3) else some 2) else some 1) else some 0) = none
  rw [if_pos ⟨rfl, a0⟩, if_pos ⟨rfl, a1⟩, if_pos ⟨rfl, a2⟩, if_pos ⟨rfl, a3⟩]
theorem eqv_text (i : Int) : PyData.eqv (.tuple [.str (Str.ofString "text"), .int i]) (.tuple [.str (Str.ofString "text"), .int i]) = true := by
  show ((Str.ofString "text" == Str.ofString "text") && ((i == i) && true)) = true
  rw [beq_self_eq_true, beq_self_eq_true]; rfl
theorem text_shaped {i : Int} : SeqAt.shaped (.tuple [.str (Str.ofString "text"), .int i]) = true := by
  unfold SeqAt.shaped; simp [PyData.canLay0, PyData.canLayAll0, PyData.depth, PyData.depthAll]
  decide +kernel
theorem law_e {f : Addr} {A : Around} {outer : List Env} {s : Shared} {H : Hp} {E : XK} (hr : Room 10 (A.deeper (envOfC (Str.ofString "law") (defScope sLaw) s.heap.objs.size f (.ref cL))))
    (Z : Kit15 P w K mg base cL Pt CH CI CT CE mc cs fRa fB fF fRd fHo fErr pP gP pT gT fdRa fdB fdF fdRd fdHo fdErr fdT) :
    ∃ t, PSs (cxOf CX0 P w K mg base nLaw15 "law" (defScope sLaw) f (.ref cL) A outer s H E).nox ((defBody sLaw).drop 10) t ∧ ∀ D σ H2, CondX Pt D σ H2 → t D σ H2 := by
  have hr1 : Room 1 (A.deeper (envOfC (Str.ofString "law") (defScope sLaw) s.heap.objs.size f (.ref cL))) := hr.mono (by decide)
  have hu64 : (A.deeper (envOfC (Str.ofString "law") (defScope sLaw) s.heap.objs.size f (.ref cL))).units + 64 < cLine := by have := hr.un; omega
  obtain ⟨tn, htn, hnx⟩ := law_f hr Z (outer := outer) (H := H) (E := E)
  refine ⟨_, pss_cons (ps_if (pt_cmp (pc_notN (pv 13)) rfl) (pss_one (ps_ret (pe_cmpR (op_eqD hu64) (pe_errof2 (T := [(Pt, lamQ)]) (t := tPa15 K CH CI CT) Z.N Z.EI Z.ET Z.XF (by rfl) Z.gErr Z.FErr Z.bErr Z.TB rfl (hmT15 Pt) (hu15 Pt) hr (LamX.lamS_by (sc := defScope sLaw) (by decide +kernel)) rfl (fun _ _ _ _ _ => rfl)
        (fun A outer s H E f c' hr' => by exact ClX.pe_cmeth (pe_glob (v := .ref CH) (by rfl) Z.gH rfl) Z.rd Z.cm Z.GP (hr'.mono (by decide)) (passes_call (takes_of rfl rfl rfl rfl) (fun _ _ _ _ h => h)) (pa_cons (pv 11) pa_nil))) (pe_tup (pa_cons pe_str (pa_cons (pv 13) pa_nil))) (nomark _)))) pss_nil)
    (pss_cons (ps_set (i := 14) scLaw15.nd rfl (.inl rfl) (pe_callTy call_tuple_of (by rfl) Z.tuple (by decide +kernel) (pa_cons (pe_lc (own := [("_law_word", 7)]) (g := gName 7) (by rfl) scLaw15.nd (pi_list (pe_slice sl_list (pe_ix ix_list (pv 12) pe_int (fun _ _ => rfl)) (po_some pe_int) po_none)) (blkOk_by (N := nLaw15) (sc := defScope sLaw) (by decide +kernel))
            (fun _ _ _ _ _ => pg_name (i := 7) scLaw15.nd rfl (Or.inl rfl)) (fun _ _ _ _ _ => pts_nil) (fun _ _ _ _ _ => pe_callTy call_int_str (by rfl) Z.int (by decide +kernel) (pa_cons (pv 7) pa_nil))) pa_nil)))
    (pss_cons (ps_set (i := 15) scLaw15.nd rfl (.inr rfl) (pe_tup (pa_cons (pe_callTy call_tuple_of (by rfl) Z.tuple (by decide +kernel) (pa_cons (pe_slice sl_list (pe_ix ix_list (pv 12) pe_int (fun _ _ => rfl)) (po_some pe_int) po_none) pa_nil))
        (pa_cons (pe_callTy call_int_str (by rfl) Z.int (by decide +kernel) (pa_cons (pe_ix ix_list (pe_ix ix_list (pv 12) pe_int (fun _ _ => rfl)) pe_int (fun _ _ => rfl)) pa_nil))
        (pa_cons (pv 14) (pa_cons (pe_call Z.Rd.G hr1 rfl Z.Rd.g Z.Rd.kp Z.Rd.b .nil pass0 (pa_cons (pe_slice sl_list (pe_ix ix_list (pv 12) pe_int (fun _ _ => rfl)) (po_some pe_int) po_none) pa_nil)) pa_nil))))))
    htn)), fun D σ H2 hc => ?_⟩
  obtain ⟨⟨x, a, as, v0, v1, v2, v3, v4, v5, v6, v7, v8, v9, v10, v14, v15, v16, rfl, hA, ea, hR, hT, k⟩⟩ := hc
  have hx : x.length ≤ 10000 := Nat.le_trans hA.z (by decide)
  refine ⟨_, rfl, _, rfl, ?_⟩
  cases hF : fault x with
  | some kf =>
    rw [show (!decide (noneV (some kf) = V.non)) = true from by simp [noneV]]
    refine iteT ⟨hT, fun H3 x3 T3 => ⟨rfl, _, rfl, x, rfl, hx, fun i (hf : fault x = some i) => ?_, fun r0 wk r2 r3 R => by rw [fault_rows4 R] at hF; cases hF⟩⟩
    rw [hF] at hf
    cases hf
    intro H4 dd s4 hdd edd
    refine .inr ⟨_, dd, rfl, rfl, edd, fun H5 p5 s5 ep5 => ?_⟩
    refine ⟨_, rfl, by show 2 ≤ sizeLine; decide, fun q hq => ?_⟩
    refine ⟨.tuple [.str (Str.ofString "text"), .int ((kf : Nat) : Int)], .tuple [.str (Str.ofString "text"), .int ((kf : Nat) : Int)],
      .tup (SqT.of (same_upd hq _ _ ep5)) (.cons (.str _) (.cons (.int _) .nil)), .tup (SqT.of upd_same) (.cons (.str _) (.cons (.int _) .nil)), text_shaped, text_shaped, ?_⟩
    rw [eqv_text]
    exact k _
  | none =>
    rw [show (!decide (noneV none = V.non)) = false from by simp [noneV]]
    refine iteF ?_
    obtain ⟨r0, wk, r2, r3, R4⟩ := fault_none hF
    have eRows : rowsOf x = [wTab :: r0, [wKey, wk], wCar :: r2, wRem :: r3] := R4.lines
    have hOk := (rows_ok hA).2
    rw [eRows] at hR hOk
    have b0 := hOk (wTab :: r0) (by simp)
    have b2 := hOk (wCar :: r2) (by simp)
    have b3 := hOk (wRem :: r3) (by simp)
    cases hR with
    | cons h0 hR =>
    cases hR with
    | cons h1 hR =>
    cases hR with
    | cons h2 hR =>
    cases hR with
    | cons h3 hR =>
    cases hR
    rename_i a0 a1 a2 a3
    have l0 : r0.length ≤ 1010 := by have := b0.2.1; rw [List.length_cons] at this; omega
    have l2 : r2.length ≤ 1010 := by have := b2.2.1; rw [List.length_cons] at this; omega
    have l3 : r3.length ≤ 1010 := by have := b3.2.1; rw [List.length_cons] at this; omega
    -- the careful persons
    refine ⟨_, rfl, a, _, 2, .ref a2, rfl, rfl, SqL.of ea, at2, _, rfl, a2, _, rfl, SqL.of h2, fun p2 hp2 => ?_⟩
    rw [show cutV ((wCar :: r2).map V.str) (some 1) none = r2.map V.str from cut_drop1]
    have sP := same_upd (o := .lst (r2.map V.str)) hp2
    have eP : (upd H2 p2 (.lst (r2.map V.str))) p2 = some (.lst (r2.map V.str)) := upd_same
    have ea1 := sP _ _ ea
    have h01 := sP _ _ h0
    have h11 := sP _ _ h1
    have h31 := sP _ _ h3
    have T1 := tabs_same hT sP
    generalize upd H2 p2 (.lst (r2.map V.str)) = H3 at sP eP ea1 h01 h11 h31 T1
    refine ⟨p2, rfl, ⟨_, SqL.of eP⟩, fun D hD => lc_list (K := K) (a := p2) (xs := r2.map V.str)
      (fun i H4 => Same H3 H4 ∧ H4 D = some (.lst (((r2.take i).map numOf).map V.int))) ⟨same_upd hD, upd_same⟩ (fun i H4 _ ⟨e, _⟩ => e.seq (SqL.of eP)) ?_ ?_⟩
    · rintro j y H4 hi ⟨s4, eD⟩
      obtain ⟨t, ht, rfl⟩ := map_at hi
      have hj : j < r2.length := (List.getElem?_eq_some_iff.mp ht).1
      have hnw := R4.h2 t (List.mem_of_getElem? ht)
      refine ⟨rfl, _, rfl, t, numOf t, rfl, (nw_num hnw).1, by have := nw_len hnw; omega, _, eD, ?_, fun b o eb => ?_, ?_⟩
      · rw [List.length_map, List.length_map, List.length_take]
        exact Nat.lt_of_le_of_lt (Nat.le_trans (Nat.min_le_left _ _) (by omega : j ≤ 100000)) (by decide)
      · rw [upd_ne (ne_of_none eb hD)]; exact s4 _ _ eb
      · rw [upd_same, take_more ht, List.map_append, List.map_append]; rfl
    rintro H4 ⟨s4, eD⟩
    rw [List.length_map, List.take_length] at eD
    refine ⟨D, _, rfl, .inl ⟨SqL.of eD, fun aC haC => ?_⟩⟩
    have sC := same_upd (o := .tup ((r2.map numOf).map V.int)) haC
    have eC : (upd H4 aC (.tup ((r2.map numOf).map V.int))) aC = some (.tup ((r2.map numOf).map V.int)) := upd_same
    have s5 := s4.trans sC
    have ea2 := s5 _ _ ea1
    have h02 := s5 _ _ h01
    have h12 := s5 _ _ h11
    have h32 := s5 _ _ h31
    have T2 := tabs_same T1 s5
    generalize upd H4 aC (.tup ((r2.map numOf).map V.int)) = H5 at sC eC s5 ea2 h02 h12 h32 T2
    clear s4 sC s5 eD hD haC sP eP ea1 h01 h11 h31 T1
    -- the timetables
    refine ⟨_, rfl, a, _, 0, .ref a0, rfl, rfl, SqL.of ea2, at0, _, rfl, a0, _, rfl, SqL.of h02, fun p3 hp3 => ?_⟩
    rw [show cutV ((wTab :: r0).map V.str) (some 1) none = r0.map V.str from cut_drop1]
    have sP3 := same_upd (o := .lst (r0.map V.str)) hp3
    refine ⟨p3, _, rfl, .inl ⟨SqL.of upd_same, fun aT haT => ?_⟩⟩
    have sT := same_upd (o := .tup (r0.map V.str)) haT
    have eT : (upd (upd H5 p3 (.lst (r0.map V.str))) aT (.tup (r0.map V.str))) aT = some (.tup (r0.map V.str)) := upd_same
    have s6 := sP3.trans sT
    generalize upd (upd H5 p3 (.lst (r0.map V.str))) aT (.tup (r0.map V.str)) = H6 at sT eT s6
    -- the keys
    refine ⟨_, rfl, a, _, 1, .ref a1, rfl, rfl, SqL.of (s6 _ _ ea2), at1, a1, _, 1, .str wk, rfl, rfl, SqL.of (s6 _ _ h12), at1, wk, numOf wk, rfl, (nw_num R4.hk).1, by have := nw_len R4.hk; omega, ?_⟩
    -- the careful persons, the reminders
    refine ⟨_, rfl, _, rfl, a, _, 3, .ref a3, rfl, rfl, SqL.of (s6 _ _ ea2), at3, _, rfl, a3, _, rfl, SqL.of (s6 _ _ h32), fun p4 hp4 => ?_⟩
    rw [show cutV ((wRem :: r3).map V.str) (some 1) none = r3.map V.str from cut_drop1]
    have sP4 := same_upd (o := .lst (r3.map V.str)) hp4
    refine ⟨p4, r3, rfl, SqL.of upd_same, l3, fun y hy => ⟨R4.h3 y hy, (b3.2.2 y (List.mem_cons_of_mem _ hy)).z⟩, fun H7 aR xs s7 eR hP => ?_⟩
    have s8 := sP4.trans s7
    refine ⟨by show 4 ≤ sizeLine; decide, fun p hp => ?_⟩
    have s9 := same_upd (o := .tup [.ref aT, .int (numOf wk), .ref aC, .ref aR]) hp
    have s10 := s8.trans s9
    exact hnx _ _ _ ⟨⟨x, r0, r2, r3, wk, p, aT, aC, aR, xs, _, _, _, _, _, _, _, _, _, _, _, _, _, _, _, rfl, hA, hF, R4, fun y hy => (b0.2.2 y (List.mem_cons_of_mem _ hy)).z, upd_same, s10 _ _ eT, s10 _ _ (s6 _ _ eC), s9 _ _ eR, hP.mono fun t ys h => s9 _ _ h, tabs_same T2 (s6.trans s10), k⟩⟩
end
end Dk

set_option Elab.async false
set_option linter.all false
set_option maxRecDepth 100000
set_option maxHeartbeats 8000000
namespace Dk
open PySem PySem.Spec PyProof.Rows L2 TL
section
variable {P : Program} {w : World} {K : PySem.W.Frag} {mg : Str → Option Value} {base : Heap} {cL Pt CH CI CT CE : Addr} {mc : Value} {cs : Nat → Addr} {fRa fB fF fRd fHo fErr pP gP pT gT : Addr} {fdRa fdB fdF fdRd fdHo fdErr fdT : FuncData}
theorem law_d {f : Addr} {A : Around} {outer : List Env} {s : Shared} {H : Hp} {E : XK} (hr : Room 10 (A.deeper (envOfC (Str.ofString "law") (defScope sLaw) s.heap.objs.size f (.ref cL))))
    (Z : Kit15 P w K mg base cL Pt CH CI CT CE mc cs fRa fB fF fRd fHo fErr pP gP pT gT fdRa fdB fdF fdRd fdHo fdErr fdT) :
    ∃ t, PSs (cxOf CX0 P w K mg base nLaw15 "law" (defScope sLaw) f (.ref cL) A outer s H E).nox ((defBody sLaw).drop 7) t ∧ ∀ D σ H2, CondL Pt 7 7 D σ H2 → t D σ H2 := by
  have hr3 : Room 3 (A.deeper (envOfC (Str.ofString "law") (defScope sLaw) s.heap.objs.size f (.ref cL))) := hr.mono (by decide)
  obtain ⟨tn, htn, hnx⟩ := law_e hr Z (outer := outer) (H := H) (E := E)
  refine ⟨_, pss_cons (ps_set (i := 11) scLaw15.nd rfl (.inr rfl) (pe_join pe_str (pe_lc (own := [("_law_line", 10)]) (g := gName 10) (te := tM1 (rJoin K) (tC (.str spS)) (tVar 10)) (by rfl) scLaw15.nd (pi_list (pv 2)) (blkOk_by (N := nLaw15) (sc := defScope sLaw) (by decide +kernel))
          (fun _ _ _ _ _ => pg_name (i := 10) scLaw15.nd rfl (Or.inl rfl)) (fun _ _ _ _ _ => pts_nil) (fun _ _ _ _ _ => by exact pe_join pe_str (pv 10)))))
    (pss_cons (ps_setLc (own := [("_law_line", 10)]) (i := 12) (g := gName 10) (by rfl) scLaw15.nd rfl rfl (sw_true rfl rfl (by rfl) (by rfl)) (pi_list (pe_split (pv 11) pe_str)) (blkOk_by (N := nLaw15) (sc := defScope sLaw) (by decide +kernel))
          (fun _ _ _ _ _ => pg_name (i := 10) scLaw15.nd rfl (Or.inl rfl)) (fun _ _ _ _ _ => pts_nil) (fun _ _ _ _ _ => pe_split (pv 10) pe_str))
    (pss_cons (ps_set (i := 13) scLaw15.nd rfl (.inl rfl) (pe_call Z.F.G hr3 rfl Z.F.g Z.F.kp Z.F.b .nil pass0 (pa_cons (pv 12) pa_nil)))
    htn)), fun D σ H2 hc => ?_⟩
  obtain ⟨⟨d, l, st, rows, v0, v3, v4, v5, v6, v7, v8, v9, v10, v11, v12, v13, v14, v15, v16, rfl, hd, hg, hL, hB, hT, k⟩⟩ := hc
  obtain ⟨as, eL, hR, n1, n2, n3⟩ := hL
  have hA := text_asc hB (by decide) (by decide)
  -- the text
  refine ⟨⟨_, rfl⟩, _, rfl, l, rfl, ⟨_, SqL.of eL⟩, fun D hD => comp_join (i := 10) (vs := [10]) hD (SqL.of eL) hR (by have := hB.n; omega) (fun a ws H8 Q2 hw ea hq => ?_) (fun _ => rfl) (fun H3 s3 eD => ?_)⟩
  · refine ⟨⟨_, rfl⟩, _, rfl, spS, a, ws, rfl, rfl, .inl (SqL.of ea), ?_, hq⟩
    have := rowB_len hB (by decide) ws hw; omega
  refine ⟨nlS, D, _, rfl, rfl, .inl (SqL.of eD), Nat.le_trans (textB_len hB (by decide) (by decide)) (by decide), ?_⟩
  have T1 := tabs_same hT s3
  generalize Txt.join nlS (rows.map (Txt.join spS)) = x at hA
  clear hD eD
  -- its rows
  refine ⟨_, rfl, ⟨_, rfl⟩, x, nlS, rfl, rfl, sepNl.z, Nat.le_trans (by have := hA.z; omega : x.length + 2 ≤ 1002) (by decide), fun q hq => ?_⟩
  have sQ := same_upd (o := .lst ((Txt.split x nlS).map V.str)) hq
  have eQ : (upd H3 q (.lst ((Txt.split x nlS).map V.str))) q = some (.lst ((linesOf x).map V.str)) := upd_same
  have T2 := tabs_same T1 sQ
  generalize upd H3 q (.lst ((Txt.split x nlS).map V.str)) = H4 at sQ eQ T2
  have hlx : (linesOf x).length ≤ 1002 := Nat.le_trans (split_le x nlS) (by have := hA.z; omega)
  refine ⟨q, rfl, ⟨_, SqL.of eQ⟩, fun D hD => lc_list (K := K) (a := q) (xs := (linesOf x).map V.str)
    (fun i H5 => ∃ bs : List Addr, Same H4 H5 ∧ H5 D = some (.lst (bs.map V.ref)) ∧ RowsAt H5 bs (((linesOf x).take i).map fun l => Txt.split l spS) ∧ D ∉ bs) ⟨[], same_upd hD, upd_same, .nil, by simp⟩ (fun i H5 _ ⟨_, e, _⟩ => e.seq (SqL.of eQ)) ?_ ?_⟩
  · rintro j y H5 hi ⟨bs, s5, eD, hRb, nD⟩
    obtain ⟨t, ht, rfl⟩ := map_at hi
    have hj : j < (linesOf x).length := (List.getElem?_eq_some_iff.mp ht).1
    have hta := split_asc sepNl hA t (List.mem_of_getElem? ht)
    refine ⟨rfl, _, rfl, ⟨_, rfl⟩, t, spS, rfl, rfl, sepSp.z, Nat.le_trans (by have := hta.z; omega : t.length + 2 ≤ 1002) (by decide), fun u hu => ?_⟩
    have sU := same_upd (o := .lst ((Txt.split t spS).map V.str)) hu
    have eU : (upd H5 u (.lst ((Txt.split t spS).map V.str))) u = some (.lst ((Txt.split t spS).map V.str)) := upd_same
    have nuD : u ≠ D := (ne_of_none eD hu).symm
    have eD2 := sU _ _ eD
    have hRb2 := hRb.mono sU
    generalize upd H5 u (.lst ((Txt.split t spS).map V.str)) = H6 at sU eU eD2 hRb2
    have kD : ∀ b o, b ≠ D → H6 b = some o → (upd H6 D (.lst (bs.map V.ref ++ [V.ref u]))) b = some o := fun b o nb h => by rw [upd_ne nb]; exact h
    refine ⟨_, eD2, ?_, bs ++ [u], fun b o eb => ?_, by rw [upd_same]; simp, ?_, ?_⟩
    · rw [List.length_map, hRb.len, List.length_map, List.length_take]
      exact Nat.lt_of_le_of_lt (Nat.le_trans (Nat.min_le_left _ _) (by omega : j ≤ 100000)) (by decide)
    · rw [upd_ne (ne_of_none eb hD)]; exact sU _ _ (s5 _ _ eb)
    · rw [take_more ht, List.map_append]
      exact (hRb2.keep kD nD).app (kD _ _ nuD eU)
    · intro hm
      rcases List.mem_append.mp hm with hm | hm
      · exact nD hm
      · exact nuD (List.mem_singleton.mp hm).symm
  rintro H5 ⟨bs, s5, eD, hRb, nD⟩
  rw [List.length_map, List.take_length] at hRb
  have T3 := tabs_same T2 s5
  -- the first invalid line
  refine ⟨_, rfl, D, bs, rowsOf x, rfl, eD, hRb, rows_ok hA, fun H6 s6 => ?_⟩
  rw [← fault_is]
  exact hnx _ _ _ ⟨⟨x, D, bs, _, _, _, _, _, _, _, _, _, _, _, _, _, _, rfl, hA, s6 _ _ eD, hRb.mono s6, tabs_same T3 s6, k⟩⟩
end
end Dk

set_option Elab.async false
set_option linter.all false
set_option maxRecDepth 100000
set_option maxHeartbeats 8000000
namespace Dk
open PySem PySem.Spec PyProof.Rows L2 TL
section
variable {P : Program} {w : World} {K : PySem.W.Frag} {mg : Str → Option Value} {base : Heap} {cL Pt CH CI CT CE : Addr} {mc : Value} {cs : Nat → Addr} {fRa fB fF fRd fHo fErr pP gP pT gT : Addr} {fdRa fdB fdF fdRd fdHo fdErr fdT : FuncData}
theorem rows_notin {H : Hp} {p : Addr} (hp : H p = none) : ∀ {bs : List Addr} {rows : List (List Str)}, RowsAt H bs rows → p ∉ bs
  | [], [], .nil => by simp
  | b :: bs, _ :: _, .cons h t => fun hm => by
    rcases List.mem_cons.mp hm with rfl | hm
    · rw [hp] at h; cases h
    · exact rows_notin hp t hm
theorem ln_alloc {d p : Addr} {H : Hp} {o : HO} {bs : List Addr} {rows : List (List Str)} (hd : H d = some o) (hR : RowsAt H bs rows) (n : d ∉ bs) (hp : H p = none) : LnAt d (upd H p (.lst (bs.map V.ref))) p rows :=
  ⟨bs, upd_same, hR.mono (same_upd hp), (ne_of_none hd hp).symm, n, rows_notin hp hR⟩
/-- lines[:i] + [row] + lines[j:] with the row at q -/
theorem cat3 {K : PySem.W.Frag} {H : Hp} {d l q : Addr} {od : HO} {as : List Addr} {rows : List (List Str)} {ws : List Str} {i j : Nat} {Q : VK} {S : Hp → VK → Prop} (hS : ∀ H2 F, rSlL K (.ref l) (some (j : Int)) none H2 F → S H2 F) (eL : H l = some (.lst (as.map V.ref))) (hR : RowsAt H as rows) (hd : H d = some od) (nd : d ∉ as) (hz : as.length ≤ 100) (p1 u : Addr) (hp1 : H p1 = some (.lst ((as.take i).map V.ref)))
    (hu : H u = some (.lst [.ref q])) (hq : H q = some (.lst (ws.map V.str))) (nq : q ≠ d) (k : ∀ (H' : Hp) (p : Addr), Same H H' → LnAt d H' p (rows.take i ++ [ws] ++ rows.drop j) → Q (.ref p) H') :
    rCat (.ref p1) (.ref u) H fun x H2 => S H2 fun y H3 => rCat x y H3 Q := by
  refine ⟨p1, u, _, _, rfl, rfl, hp1, hu, ?_, fun p2 hp2 => ?_⟩
  · rw [List.length_map, List.length_take]
    exact Nat.le_trans (by show min i as.length + 1 ≤ 1000; omega) (by decide)
  have s2 := same_upd (o := .lst ((as.take i).map V.ref ++ [.ref q])) hp2
  have g2 : (upd H p2 (.lst ((as.take i).map V.ref ++ [.ref q]))) p2 = some (.lst ((as.take i).map V.ref ++ [.ref q])) := upd_same
  generalize upd H p2 (.lst ((as.take i).map V.ref ++ [.ref q])) = H2 at s2 g2
  refine hS _ _ ⟨l, _, rfl, SqL.of (s2 _ _ eL), fun p3 hp3 => ?_⟩
  rw [cut_dropN]
  have s3 := same_upd (o := .lst ((as.map V.ref).drop j)) hp3
  have g3 : (upd H2 p3 (.lst ((as.map V.ref).drop j))) p3 = some (.lst ((as.map V.ref).drop j)) := upd_same
  generalize upd H2 p3 (.lst ((as.map V.ref).drop j)) = H3 at s3 g3
  refine ⟨p2, p3, _, _, rfl, rfl, s3 _ _ g2, g3, ?_, fun p4 hp4 => ?_⟩
  · rw [List.length_append, List.length_map, List.length_take, List.length_drop, List.length_map]
    exact Nat.le_trans (by show min i as.length + 1 + (as.length - j) ≤ 1000; omega) (by decide)
  have s := s2.trans s3
  have e : (as.take i).map V.ref ++ [.ref q] ++ (as.map V.ref).drop j = (as.take i ++ [q] ++ as.drop j).map V.ref := by
    rw [List.map_append, List.map_append, List.map_drop]; rfl
  rw [e]
  refine k _ p4 (s.trans (same_upd hp4)) (ln_alloc (s _ _ hd) ?_ ?_ hp4)
  · have hR3 := hR.mono s
    exact ((hR3.take i).app (s _ _ hq)).cat (hR3.drop j)
  · intro hm
    rcases List.mem_append.mp hm with hm | hm
    · rcases List.mem_append.mp hm with hm | hm
      · exact nd (List.mem_of_mem_take hm)
      · exact nq (List.mem_singleton.mp hm).symm
    · exact nd (List.mem_of_mem_drop hm)
theorem rowsB_cat {n m n' m' : Nat} {rows : List (List Str)} {ws : List Str} {i j : Nat} (h : RowsB n m rows) (hm : m ≤ m') (hn : min i n + 1 + (n - j) ≤ n') (hij : i ≤ j + 1) (hw : ws.length ≤ m') (ha : ∀ y ∈ ws, AscW 8 y) (hn2 : i + 1 ≤ n' ∨ j = i) : RowsB n' m' (rows.take i ++ [ws] ++ rows.drop j) := by
  refine ⟨?_, ?_, fun r hr => ?_⟩
  · rw [List.length_append, List.length_append]; show 1 ≤ _ + 1 + _; omega
  · rw [List.length_append, List.length_append, List.length_take, List.length_drop]
    show min i rows.length + 1 + (rows.length - j) ≤ n'
    have := h.n
    omega
  · rcases List.mem_append.mp hr with hr | hr
    · rcases List.mem_append.mp hr with hr | hr
      · have := h.m r (List.mem_of_mem_take hr)
        exact ⟨Nat.le_trans this.1 hm, this.2⟩
      · rw [List.mem_singleton.mp hr]
        exact ⟨hw, ha⟩
    · have := h.m r (List.mem_of_mem_drop hr)
      exact ⟨Nat.le_trans this.1 hm, this.2⟩
theorem asc8 : ∀ y ∈ (wordsL ++ ["tables", "keys", "careful", "remind", "hho", "ooh", "2", "3", "0", "1", "0:1", "2:0", "undo", "", "1:2:3", "0:1:", "::"].map Str.ofString), y.length ≤ 8 ∧ ∀ c ∈ tl y, c < 128 := by decide +kernel
theorem asc8of {y : Str} (h : y ∈ (wordsL ++ ["tables", "keys", "careful", "remind", "hho", "ooh", "2", "3", "0", "1", "0:1", "2:0", "undo", "", "1:2:3", "0:1:", "::"].map Str.ofString)) : AscW 8 y := ⟨(asc8 y h).1, (asc8 y h).2⟩
theorem at_some2 {xs : List V} {r : Int} (h0 : 0 ≤ r) (h1 : r < (xs.length : Int)) : ∃ (j : Nat) (v : V), r = (j : Int) ∧ atI xs r = some v ∧ xs[j]? = some v := by
  obtain ⟨j, rfl⟩ := Int.eq_ofNat_of_zero_le h0
  have hj : j < xs.length := by omega
  exact ⟨j, xs[j], rfl, atI_nat (List.getElem?_eq_getElem hj), List.getElem?_eq_getElem hj⟩
end
end Dk

set_option Elab.async false
set_option linter.all false
set_option maxRecDepth 100000
set_option maxHeartbeats 8000000
namespace Dk
open PySem PySem.Spec PyProof.Rows L2 TL
section
variable {P : Program} {w : World} {K : PySem.W.Frag} {mg : Str → Option Value} {base : Heap} {cL Pt CH CI CT CE : Addr} {mc : Value} {cs : Nat → Addr} {fRa fB fF fRd fHo fErr pP gP pT gT : Addr} {fdRa fdB fdF fdRd fdHo fdErr fdT : FuncData}
theorem law_c3 {f : Addr} {A : Around} {outer : List Env} {s : Shared} {H : Hp} {E : XK} (hr : Room 10 (A.deeper (envOfC (Str.ofString "law") (defScope sLaw) s.heap.objs.size f (.ref cL))))
    (Z : Kit15 P w K mg base cL Pt CH CI CT CE mc cs fRa fB fF fRd fHo fErr pP gP pT gT fdRa fdB fdF fdRd fdHo fdErr fdT) :
    ∃ t, PSs (cxOf CX0 P w K mg base nLaw15 "law" (defScope sLaw) f (.ref cL) A outer s H E).nox ((defBody sLaw).drop 6) t ∧ ∀ D σ H2, CondL Pt 7 7 D σ H2 → t D σ H2 := by
  have hr1 : Room 1 (A.deeper (envOfC (Str.ofString "law") (defScope sLaw) s.heap.objs.size f (.ref cL))) := hr.mono (by decide)
  obtain ⟨tn, htn, hnx⟩ := law_d hr Z (outer := outer) (H := H) (E := E)
  refine ⟨_, pss_cons (ps_if (pt_cmpR op_eq (pe_call Z.B.G hr1 rfl Z.B.g Z.B.kp Z.B.b .nil pass0 (pa_cons (pv 1) (pa_cons pe_int pa_nil))) pe_int (nomark _)) (pss_one (ps_set (i := 2) scLaw15.nd rfl (.inl rfl) (pe_op op_cat (pe_op op_cat (pe_slice sl_list (pv 2) po_none (po_some pe_int)) (pe_lst (pa_cons (pe_lst (pa_cons pe_str (pa_cons (pe_ix ix_list (pe_lst (pa_cons pe_str (pa_cons pe_str (pa_cons pe_str (pa_cons pe_str pa_nil))))) (pe_call Z.B.G hr1 rfl Z.B.g Z.B.kp Z.B.b .nil pass0 (pa_cons (pv 1) (pa_cons pe_int pa_nil))) (fun _ _ => rfl)) pa_nil))) pa_nil))) (pe_slice sl_list (pv 2) (po_some pe_int) po_none)))) pss_nil) htn, fun D σ H2 hc => ?_⟩
  obtain ⟨⟨d, l, st, rows, v0, v3, v4, v5, v6, v7, v8, v9, v10, v11, v12, v13, v14, v15, v16, rfl, hd, hg, hL, hB, hT, k⟩⟩ := hc
  refine ⟨_, rfl, d, 5, st, rfl, hd, hg, by decide, by decide, fun H3 st3 r k3 hd3 hg3 r0 r1 => ⟨rfl, _, rfl, ite2 (fun c => ?_) (fun c => ?_)⟩⟩
  rotate_left
  · exact hnx _ _ _ ⟨⟨d, l, st3, rows, v0, v3, v4, v5, v6, v7, v8, v9, v10, v11, v12, v13, v14, v15, v16, rfl, hd3, hg3, hL.kp k3, hB, tabs_kp hT k3 hd, k⟩⟩
  have hT3 := tabs_kp hT k3 hd
  obtain ⟨as, eL, hR, n1, n2, n3⟩ := hL.kp k3
  have hlen : as.length = rows.length := hR.len
  have hz : as.length ≤ 100 := by have := hB.n; omega
  refine ⟨_, rfl, _, rfl, l, _, rfl, SqL.of eL, fun p1 hp1 => ?_⟩
  rw [show cutV (as.map V.ref) none (some 3) = (as.take 3).map V.ref from by rw [List.map_take]; exact cut_takeN _ 3]
  have c1 := same_upd (o := .lst ((as.take 3).map V.ref)) hp1
  have g1 : (upd H3 p1 (.lst ((as.take 3).map V.ref))) p1 = some (.lst ((as.take 3).map V.ref)) := upd_same
  have np1 : p1 ≠ d := (ne_of_none hd3 hp1).symm
  generalize upd H3 p1 (.lst ((as.take 3).map V.ref)) = G1 at c1 g1
  refine ⟨by show 4 ≤ sizeLine; decide, fun q1 hq1 => ?_⟩
  have c2 := same_upd (o := .lst ((["1:2:3", "1", "0:1:", "::"].map Str.ofString).map V.str)) hq1
  have g2 : (upd G1 q1 (.lst ((["1:2:3", "1", "0:1:", "::"].map Str.ofString).map V.str))) q1 = some (.lst ((["1:2:3", "1", "0:1:", "::"].map Str.ofString).map V.str)) := upd_same
  have nq1 : q1 ≠ d := (ne_of_none (c1 _ _ hd3) hq1).symm
  have c12 := c1.trans c2
  have g1' := c2 _ _ g1
  generalize hG2 : upd G1 q1 (.lst ((["1:2:3", "1", "0:1:", "::"].map Str.ofString).map V.str)) = G2 at c2 g2 c12 g1'
  have hG2' : upd G1 q1 (.lst [V.str (Str.ofString "1:2:3"), V.str (Str.ofString "1"), V.str (Str.ofString "0:1:"), V.str (Str.ofString "::")]) = G2 := hG2
  rw [hG2']
  clear hG2 hG2'
  refine ⟨_, rfl, d, 4, st3, rfl, c12 _ _ hd3, hg3, by decide, by decide, fun H4 st4 r4 k4 hd4 hg4 r40 r41 => ?_⟩
  obtain ⟨j4, v4', ej4, ea4, hv4⟩ := at_some2 (xs := (["1:2:3", "1", "0:1:", "::"].map Str.ofString).map V.str) r40 r41
  obtain ⟨w4, hw4, rfl⟩ := map_at hv4
  have aw4 : AscW 8 w4 := asc8of (by have := List.mem_of_getElem? hw4; revert this; generalize w4 = z; revert z; decide +kernel)
  refine ⟨q1, _, r4, _, rfl, rfl, SqL.of (k4 _ _ nq1 g2), ea4, ?_⟩
  have T4 := tabs_kp (tabs_same hT3 c12) k4 (c12 _ _ hd3)
  have hR4 := (hR.mono c12).keep k4 n2
  have eL4 := k4 _ _ n1 (c12 _ _ eL)
  have g14 := k4 _ _ np1 g1'
  refine ⟨by show 2 ≤ sizeLine; decide, fun q hq => ?_⟩
  have c5 := same_upd (o := .lst ([wRem, w4].map V.str)) hq
  have g5 : (upd H4 q (.lst ([wRem, w4].map V.str))) q = some (.lst ([wRem, w4].map V.str)) := upd_same
  have nq : q ≠ d := (ne_of_none hd4 hq).symm
  refine ⟨by show 1 ≤ sizeLine; decide, fun u hu => ?_⟩
  have c6 := same_upd (o := .lst [.ref q]) hu
  have c56 : Same H4 (upd (upd H4 q (.lst ([wRem, w4].map V.str))) u (.lst [.ref q])) := c5.trans c6
  refine cat3 (K := K) (S := fun H2 F => tSl (rSlL K) (tVar 2) (tPart (tC (V.int 4))) tNoPart _ H2 F) (d := d) (as := as) (rows := rows) (ws := [wRem, w4]) (i := 3) (j := 4) (fun H2 F h => ⟨_, rfl, _, rfl, h⟩) (c56 _ _ eL4) (hR4.mono c56) (c56 _ _ hd4) n2 hz p1 u (c56 _ _ g14) upd_same (c6 _ _ g5) nq fun H5 p s5 hLn => ?_
  exact hnx _ _ _ ⟨⟨d, p, st4, _, _, _, _, _, _, _, _, _, _, _, _, _, _, _, _, rfl, s5 _ _ (c56 _ _ hd4), hg4, hLn, rowsB_cat hB (by decide) (by decide) (by decide) (by show 2 ≤ 7; decide) (fun y hy => by
    rcases List.mem_cons.mp hy with rfl | hy
    · exact asc8of (by decide +kernel)
    · rw [List.mem_singleton.mp hy]; exact aw4) (.inl (by decide)), tabs_same T4 (c56.trans s5), k⟩⟩
end
end Dk

set_option Elab.async false
set_option linter.all false
set_option maxRecDepth 100000
set_option maxHeartbeats 8000000
namespace Dk
open PySem PySem.Spec PyProof.Rows L2 TL
section
variable {P : Program} {w : World} {K : PySem.W.Frag} {mg : Str → Option Value} {base : Heap} {cL Pt CH CI CT CE : Addr} {mc : Value} {cs : Nat → Addr} {fRa fB fF fRd fHo fErr pP gP pT gT : Addr} {fdRa fdB fdF fdRd fdHo fdErr fdT : FuncData}
theorem law_c2 {f : Addr} {A : Around} {outer : List Env} {s : Shared} {H : Hp} {E : XK} (hr : Room 10 (A.deeper (envOfC (Str.ofString "law") (defScope sLaw) s.heap.objs.size f (.ref cL))))
    (Z : Kit15 P w K mg base cL Pt CH CI CT CE mc cs fRa fB fF fRd fHo fErr pP gP pT gT fdRa fdB fdF fdRd fdHo fdErr fdT) :
    ∃ t, PSs (cxOf CX0 P w K mg base nLaw15 "law" (defScope sLaw) f (.ref cL) A outer s H E).nox ((defBody sLaw).drop 5) t ∧ ∀ D σ H2, CondL Pt 6 7 D σ H2 → t D σ H2 := by
  have hr1 : Room 1 (A.deeper (envOfC (Str.ofString "law") (defScope sLaw) s.heap.objs.size f (.ref cL))) := hr.mono (by decide)
  obtain ⟨tn, htn, hnx⟩ := law_c3 hr Z (outer := outer) (H := H) (E := E)
  refine ⟨_, pss_cons (ps_if (pt_cmpR op_eq (pe_call Z.B.G hr1 rfl Z.B.g Z.B.kp Z.B.b .nil pass0 (pa_cons (pv 1) (pa_cons pe_int pa_nil))) pe_int (nomark _)) (pss_one (ps_expr (pe_bm PySem.F.plainAttrs_list PySem.F.slot_list_append PySem.F.type_list_append mt_append (pv 2) (pa_cons (pe_ix ix_list (pe_lst (pa_cons (pe_lst (pa_cons pe_str pa_nil)) (pa_cons (pe_lst (pa_cons pe_str (pa_cons pe_str pa_nil))) (pa_cons (pe_lst (pa_cons pe_str pa_nil)) pa_nil)))) (pe_call Z.B.G hr1 rfl Z.B.g Z.B.kp Z.B.b .nil pass0 (pa_cons (pv 1) (pa_cons pe_int pa_nil))) (fun _ _ => rfl)) pa_nil)))) pss_nil) htn, fun D σ H2 hc => ?_⟩
  obtain ⟨⟨d, l, st, rows, v0, v3, v4, v5, v6, v7, v8, v9, v10, v11, v12, v13, v14, v15, v16, rfl, hd, hg, hL, hB, hT, k⟩⟩ := hc
  refine ⟨_, rfl, d, 4, st, rfl, hd, hg, by decide, by decide, fun H3 st3 r k3 hd3 hg3 r0 r1 => ⟨rfl, _, rfl, ite2 (fun c => ?_) (fun c => ?_)⟩⟩
  rotate_left
  · exact hnx _ _ _ ⟨⟨d, l, st3, rows, v0, v3, v4, v5, v6, v7, v8, v9, v10, v11, v12, v13, v14, v15, v16, rfl, hd3, hg3, hL.kp k3, ⟨hB.p, Nat.le_trans hB.n (by decide), hB.m⟩, tabs_kp hT k3 hd, k⟩⟩
  have hT3 := tabs_kp hT k3 hd
  obtain ⟨as, eL, hR, n1, n2, n3⟩ := hL.kp k3
  have hlen : as.length = rows.length := hR.len
  have hz : as.length ≤ 100 := by have := hB.n; omega
  refine ⟨_, rfl, .inl ⟨rfl, _, SqL.of eL⟩, ?_⟩
  refine ⟨by show 1 ≤ sizeLine; decide, fun q1 hq1 => ⟨by show 2 ≤ sizeLine; decide, fun q2 hq2 => ⟨by show 1 ≤ sizeLine; decide, fun q3 hq3 => ⟨by show 3 ≤ sizeLine; decide, fun u hu => ?_⟩⟩⟩⟩
  have c1 := same_upd (o := .lst [V.str (Str.ofString "undo")]) hq1
  have c2 := same_upd (o := .lst [V.str (Str.ofString "remind"), V.str (Str.ofString "0:1")]) hq2
  have c3 := same_upd (o := .lst [V.str (Str.ofString "")]) hq3
  have c4 := same_upd (o := .lst [.ref q1, .ref q2, .ref q3]) hu
  have g1 := c4 _ _ (c3 _ _ (c2 _ _ (upd_same (H := H3) (a := q1) (o := .lst [V.str (Str.ofString "undo")]))))
  have g2 := c4 _ _ (c3 _ _ (upd_same (H := (upd H3 q1 (.lst [V.str (Str.ofString "undo")]))) (a := q2) (o := .lst [V.str (Str.ofString "remind"), V.str (Str.ofString "0:1")])))
  have g3 := c4 _ _ (upd_same (H := upd (upd H3 q1 (.lst [V.str (Str.ofString "undo")])) q2 (.lst [V.str (Str.ofString "remind"), V.str (Str.ofString "0:1")])) (a := q3) (o := .lst [V.str (Str.ofString "")]))
  have g4 := upd_same (H := upd (upd (upd H3 q1 (.lst [V.str (Str.ofString "undo")])) q2 (.lst [V.str (Str.ofString "remind"), V.str (Str.ofString "0:1")])) q3 (.lst [V.str (Str.ofString "")])) (a := u) (o := .lst [.ref q1, .ref q2, .ref q3])
  have cc := ((c1.trans c2).trans c3).trans c4
  have nl1 : q1 ≠ l := (ne_of_none eL hq1).symm
  have nl2 : q2 ≠ l := (ne_of_none (c1 _ _ eL) hq2).symm
  have nl3 : q3 ≠ l := (ne_of_none (c2 _ _ (c1 _ _ eL)) hq3).symm
  have nd1 : q1 ≠ d := (ne_of_none hd3 hq1).symm
  have nd2 : q2 ≠ d := (ne_of_none (c1 _ _ hd3) hq2).symm
  have nd3 : q3 ≠ d := (ne_of_none (c2 _ _ (c1 _ _ hd3)) hq3).symm
  have ndu : u ≠ d := (ne_of_none (c3 _ _ (c2 _ _ (c1 _ _ hd3))) hu).symm
  generalize upd (upd (upd (upd H3 q1 (.lst [V.str (Str.ofString "undo")])) q2 (.lst [V.str (Str.ofString "remind"), V.str (Str.ofString "0:1")])) q3 (.lst [V.str (Str.ofString "")])) u (.lst [.ref q1, .ref q2, .ref q3]) = G at g1 g2 g3 g4 cc ⊢
  clear c1 c2 c3 c4
  refine ⟨_, rfl, d, 3, st3, rfl, cc _ _ hd3, hg3, by decide, by decide, fun H4 st4 r4 k4 hd4 hg4 r40 r41 => ?_⟩
  have T4 := tabs_kp (tabs_same hT3 cc) k4 (cc _ _ hd3)
  have hR4 := (hR.mono cc).keep k4 n2
  have eL4 := k4 _ _ n1 (cc _ _ eL)
  obtain ⟨j4, v4', ej4, ea4, hv4⟩ := at_some2 (xs := [V.ref q1, V.ref q2, V.ref q3]) r40 r41
  refine ⟨u, _, r4, _, rfl, rfl, SqL.of (k4 _ _ ndu g4), ea4, ?_⟩
  have key : ∃ (q : Addr) (ws : List Str), v4' = .ref q ∧ q ≠ l ∧ q ≠ d ∧ H4 q = some (.lst (ws.map V.str)) ∧ ws.length ≤ 7 ∧ ∀ y ∈ ws, AscW 8 y := by
    have hm := List.mem_of_getElem? hv4
    simp only [List.mem_cons, List.not_mem_nil, or_false] at hm
    rcases hm with rfl | rfl | rfl
    · exact ⟨q1, [Str.ofString "undo"], rfl, nl1, nd1, k4 _ _ nd1 g1, by decide, fun y hy => by rw [List.mem_singleton.mp hy]; exact asc8of (by decide +kernel)⟩
    · exact ⟨q2, [wRem, Str.ofString "0:1"], rfl, nl2, nd2, k4 _ _ nd2 g2, by decide, fun y hy => by
        rcases List.mem_cons.mp hy with rfl | hy
        · exact asc8of (by decide +kernel)
        · rw [List.mem_singleton.mp hy]; exact asc8of (by decide +kernel)⟩
    · exact ⟨q3, [Str.ofString ""], rfl, nl3, nd3, k4 _ _ nd3 g3, by decide, fun y hy => by rw [List.mem_singleton.mp hy]; exact asc8of (by decide +kernel)⟩
  obtain ⟨q, ws, rfl, nql, nqd, gq, hwl, hwa⟩ := key
  refine ⟨l, _, _, rfl, rfl, eL4, ?_, ?_⟩
  · rw [List.length_map]; exact Nat.lt_of_le_of_lt hz (by decide)
  have kL : Kp l H4 (upd H4 l (.lst (as.map V.ref ++ [.ref q]))) := fun b o nb e => by rw [upd_ne nb]; exact e
  have e : as.map V.ref ++ [.ref q] = (as ++ [q]).map V.ref := by rw [List.map_append]; rfl
  rw [e] at kL ⊢
  refine hnx _ _ _ ⟨⟨d, l, st4, rows ++ [ws], _, _, _, _, _, _, _, _, _, _, _, _, _, _, _, rfl, kL _ _ n1.symm hd4, hg4, ⟨as ++ [q], upd_same, (hR4.keep kL n3).app (kL _ _ nql gq), n1, ?_, ?_⟩, ⟨by rw [List.length_append]; show 1 ≤ _ + 1; omega, by rw [List.length_append]; exact Nat.succ_le_succ hB.n, fun r hr => ?_⟩, tabs_kp T4 kL eL4, k⟩⟩
  · intro hm
    rcases List.mem_append.mp hm with hm | hm
    · exact n2 hm
    · exact nqd (List.mem_singleton.mp hm).symm
  · intro hm
    rcases List.mem_append.mp hm with hm | hm
    · exact n3 hm
    · exact nql (List.mem_singleton.mp hm).symm
  · rcases List.mem_append.mp hr with hr | hr
    · exact hB.m r hr
    · rw [List.mem_singleton.mp hr]; exact ⟨hwl, hwa⟩
end
end Dk

set_option Elab.async false
set_option linter.all false
set_option maxRecDepth 100000
set_option maxHeartbeats 8000000
namespace Dk
open PySem PySem.Spec PyProof.Rows L2 TL
section
variable {P : Program} {w : World} {K : PySem.W.Frag} {mg : Str → Option Value} {base : Heap} {cL Pt CH CI CT CE : Addr} {mc : Value} {cs : Nat → Addr} {fRa fB fF fRd fHo fErr pP gP pT gT : Addr} {fdRa fdB fdF fdRd fdHo fdErr fdT : FuncData}
theorem law_c {f : Addr} {A : Around} {outer : List Env} {s : Shared} {H : Hp} {E : XK} (hr : Room 10 (A.deeper (envOfC (Str.ofString "law") (defScope sLaw) s.heap.objs.size f (.ref cL))))
    (Z : Kit15 P w K mg base cL Pt CH CI CT CE mc cs fRa fB fF fRd fHo fErr pP gP pT gT fdRa fdB fdF fdRd fdHo fdErr fdT) :
    ∃ t, PSs (cxOf CX0 P w K mg base nLaw15 "law" (defScope sLaw) f (.ref cL) A outer s H E).nox ((defBody sLaw).drop 4) t ∧ ∀ D σ H2, CondL Pt 6 7 D σ H2 → t D σ H2 := by
  have hr1 : Room 1 (A.deeper (envOfC (Str.ofString "law") (defScope sLaw) s.heap.objs.size f (.ref cL))) := hr.mono (by decide)
  obtain ⟨tn, htn, hnx⟩ := law_c2 hr Z (outer := outer) (H := H) (E := E)
  refine ⟨_, pss_cons (ps_if (pt_cmpR op_eq (pe_call Z.B.G hr1 rfl Z.B.g Z.B.kp Z.B.b .nil pass0 (pa_cons (pv 1) (pa_cons pe_int pa_nil))) pe_int (nomark _)) (pss_one (ps_set (i := 2) scLaw15.nd rfl (.inl rfl) (pe_op op_cat (pe_op op_cat (pe_slice sl_list (pv 2) po_none (po_some pe_int)) (pe_lst (pa_cons (pe_lst (pa_cons pe_str (pa_cons pe_str (pa_cons pe_str pa_nil)))) pa_nil))) (pe_slice sl_list (pv 2) (po_some pe_int) po_none)))) pss_nil) htn, fun D σ H2 hc => ?_⟩
  obtain ⟨⟨d, l, st, rows, v0, v3, v4, v5, v6, v7, v8, v9, v10, v11, v12, v13, v14, v15, v16, rfl, hd, hg, hL, hB, hT, k⟩⟩ := hc
  refine ⟨_, rfl, d, 6, st, rfl, hd, hg, by decide, by decide, fun H3 st3 r k3 hd3 hg3 r0 r1 => ⟨rfl, _, rfl, ite2 (fun c => ?_) (fun c => ?_)⟩⟩
  rotate_left
  · exact hnx _ _ _ ⟨⟨d, l, st3, rows, v0, v3, v4, v5, v6, v7, v8, v9, v10, v11, v12, v13, v14, v15, v16, rfl, hd3, hg3, hL.kp k3, hB, tabs_kp hT k3 hd, k⟩⟩
  have hT3 := tabs_kp hT k3 hd
  obtain ⟨as, eL, hR, n1, n2, n3⟩ := hL.kp k3
  have hlen : as.length = rows.length := hR.len
  have hz : as.length ≤ 100 := by have := hB.n; omega
  refine ⟨_, rfl, _, rfl, l, _, rfl, SqL.of eL, fun p1 hp1 => ?_⟩
  rw [show cutV (as.map V.ref) none (some 1) = (as.take 1).map V.ref from by rw [List.map_take]; exact cut_takeN _ 1]
  have c1 := same_upd (o := .lst ((as.take 1).map V.ref)) hp1
  have g1 : (upd H3 p1 (.lst ((as.take 1).map V.ref))) p1 = some (.lst ((as.take 1).map V.ref)) := upd_same
  generalize upd H3 p1 (.lst ((as.take 1).map V.ref)) = G1 at c1 g1
  refine ⟨by show 3 ≤ sizeLine; decide, fun q hq => ?_⟩
  have c5 := same_upd (o := .lst ([wKey, Str.ofString "2", Str.ofString "3"].map V.str)) hq
  have g5 : (upd G1 q (.lst ([wKey, Str.ofString "2", Str.ofString "3"].map V.str))) q = some (.lst ([wKey, Str.ofString "2", Str.ofString "3"].map V.str)) := upd_same
  have nq : q ≠ d := (ne_of_none (c1 _ _ hd3) hq).symm
  refine ⟨by show 1 ≤ sizeLine; decide, fun u hu => ?_⟩
  have c6 := same_upd (o := .lst [.ref q]) hu
  have c56 : Same G1 (upd (upd G1 q (.lst ([wKey, Str.ofString "2", Str.ofString "3"].map V.str))) u (.lst [.ref q])) := c5.trans c6
  have cc := c1.trans c56
  refine cat3 (K := K) (S := fun H2 F => tSl (rSlL K) (tVar 2) (tPart (tC (V.int 2))) tNoPart _ H2 F) (d := d) (as := as) (rows := rows) (ws := [wKey, Str.ofString "2", Str.ofString "3"]) (i := 1) (j := 2) (fun H2 F h => ⟨_, rfl, _, rfl, h⟩) (cc _ _ eL) (hR.mono cc) (cc _ _ hd3) n2 hz p1 u (c56 _ _ g1) upd_same (c6 _ _ g5) nq fun H5 p s5 hLn => ?_
  exact hnx _ _ _ ⟨⟨d, p, st3, _, _, _, _, _, _, _, _, _, _, _, _, _, _, _, _, rfl, s5 _ _ (cc _ _ hd3), hg3, hLn, rowsB_cat hB (by decide) (by decide) (by decide) (by decide) (fun y hy => by
    rcases List.mem_cons.mp hy with rfl | hy
    · exact asc8of (by decide +kernel)
    rcases List.mem_cons.mp hy with rfl | hy
    · exact asc8of (by decide +kernel)
    · rw [List.mem_singleton.mp hy]; exact asc8of (by decide +kernel)) (.inl (by decide)), tabs_same hT3 (cc.trans s5), k⟩⟩
end
end Dk

set_option Elab.async false
set_option linter.all false
set_option maxRecDepth 100000
set_option maxHeartbeats 8000000
namespace Dk
open PySem PySem.Spec PyProof.Rows L2 TL
section
variable {P : Program} {w : World} {K : PySem.W.Frag} {mg : Str → Option Value} {base : Heap} {cL Pt CH CI CT CE : Addr} {mc : Value} {cs : Nat → Addr} {fRa fB fF fRd fHo fErr pP gP pT gT : Addr} {fdRa fdB fdF fdRd fdHo fdErr fdT : FuncData}
structure CondB (Pt : Addr) (D : Ends) (σ : L2.St) (H : Hp) : Prop where
  ex : ∃ (d l wl : Addr) (st : List Int) (rows : List (List Str)) (v0 v4 v5 v6 v7 v8 v9 v10 v11 v12 v13 v14 v15 v16 : Option V), σ = [v0, some (.ref d), some (.ref l), some (.ref wl), v4, v5, v6, v7, v8, v9, v10, v11, v12, v13, v14, v15, v16] ∧
    H d = some (.lst (st.map V.int)) ∧ Good st ∧ H wl = some (.lst (wordsL.map V.str)) ∧ wl ≠ d ∧ LnAt d H l rows ∧ RowsB 4 3 rows ∧ LamX.Tabs [(Pt, lamQ)] H ∧ ∀ H', D.rt (.bl true) H'
theorem rep_flat (n : Nat) (x : Str) : (List.replicate n [V.str x]).flatten = (List.replicate n x).map V.str := by
  induction n with
  | zero => rfl
  | succ n ih => rw [List.replicate_succ, List.flatten_cons, ih, List.replicate_succ]; rfl
theorem cat2 {K : PySem.W.Frag} {H : Hp} {d l : Addr} {od : HO} {as : List Addr} {rows : List (List Str)} {i j : Nat} {Q : VK} {S : Hp → VK → Prop} (hS : ∀ H2 F, rSlL K (.ref l) (some (j : Int)) none H2 F → S H2 F) (eL : H l = some (.lst (as.map V.ref))) (hR : RowsAt H as rows) (hd : H d = some od) (nd : d ∉ as) (hz : as.length ≤ 100) (p1 : Addr) (hp1 : H p1 = some (.lst ((as.take i).map V.ref)))
    (k : ∀ (H' : Hp) (p : Addr), Same H H' → LnAt d H' p (rows.take i ++ rows.drop j) → Q (.ref p) H') :
    S H fun y H3 => rCat (.ref p1) y H3 Q := by
  refine hS _ _ ⟨l, _, rfl, SqL.of eL, fun p3 hp3 => ?_⟩
  rw [cut_dropN]
  have s3 := same_upd (o := .lst ((as.map V.ref).drop j)) hp3
  have g3 : (upd H p3 (.lst ((as.map V.ref).drop j))) p3 = some (.lst ((as.map V.ref).drop j)) := upd_same
  generalize upd H p3 (.lst ((as.map V.ref).drop j)) = H3 at s3 g3
  refine ⟨p1, p3, _, _, rfl, rfl, s3 _ _ hp1, g3, ?_, fun p4 hp4 => ?_⟩
  · rw [List.length_map, List.length_take, List.length_drop, List.length_map]
    exact Nat.le_trans (by omega : min i as.length + (as.length - j) ≤ 1000) (by decide)
  have e : (as.take i).map V.ref ++ (as.map V.ref).drop j = (as.take i ++ as.drop j).map V.ref := by
    rw [List.map_append, List.map_drop]
  rw [e]
  refine k _ p4 (s3.trans (same_upd hp4)) (ln_alloc (s3 _ _ hd) ?_ ?_ hp4)
  · have hR3 := hR.mono s3
    exact (hR3.take i).cat (hR3.drop j)
  · intro hm
    rcases List.mem_append.mp hm with hm | hm
    · exact nd (List.mem_of_mem_take hm)
    · exact nd (List.mem_of_mem_drop hm)
theorem rowsB_cut {n m n' m' : Nat} {rows : List (List Str)} {i : Nat} (h : RowsB n m rows) (h1 : 2 ≤ rows.length) (hm : m ≤ m') (hn : n ≤ n') (hi : i < rows.length) : RowsB n' m' (rows.take i ++ rows.drop (i + 1)) := by
  refine ⟨?_, ?_, fun r hr => ?_⟩
  · rw [List.length_append, List.length_take, List.length_drop]; omega
  · rw [List.length_append, List.length_take, List.length_drop]
    have := h.n
    omega
  · rcases List.mem_append.mp hr with hr | hr
    · have := h.m r (List.mem_of_mem_take hr)
      exact ⟨Nat.le_trans this.1 hm, this.2⟩
    · have := h.m r (List.mem_of_mem_drop hr)
      exact ⟨Nat.le_trans this.1 hm, this.2⟩
theorem law_b {f : Addr} {A : Around} {outer : List Env} {s : Shared} {H : Hp} {E : XK} (hr : Room 10 (A.deeper (envOfC (Str.ofString "law") (defScope sLaw) s.heap.objs.size f (.ref cL))))
    (Z : Kit15 P w K mg base cL Pt CH CI CT CE mc cs fRa fB fF fRd fHo fErr pP gP pT gT fdRa fdB fdF fdRd fdHo fdErr fdT) :
    ∃ t, PSs (cxOf CX0 P w K mg base nLaw15 "law" (defScope sLaw) f (.ref cL) A outer s H E).nox ((defBody sLaw).drop 3) t ∧ ∀ D σ H2, CondB Pt D σ H2 → t D σ H2 := by
  have hr1 : Room 1 (A.deeper (envOfC (Str.ofString "law") (defScope sLaw) s.heap.objs.size f (.ref cL))) := hr.mono (by decide)
  obtain ⟨tn, htn, hnx⟩ := law_c hr Z (outer := outer) (H := H) (E := E)
  refine ⟨_, pss_cons (ps_for PassesOwn.never rfl (pi_range1 rfl Z.T.range (pa_cons (pe_call Z.B.G hr1 rfl Z.B.g Z.B.kp Z.B.b .nil pass0 (pa_cons (pv 1) (pa_cons pe_int pa_nil))) pa_nil)) (pg_name (i := 4) scLaw15.nd rfl (.inl rfl))
      (pss_cons (ps_par3 (by rfl) scLaw15.nd (i := 5) (j := 6) (l := 7) rfl rfl rfl (by decide) (by decide) (by decide) rfl rfl rfl (pa_cons (pe_call Z.B.G hr1 rfl Z.B.g Z.B.kp Z.B.b .nil pass0 (pa_cons (pv 1) (pa_cons (pe_callB call_len_seq (by rfl) Z.T.len PySem.boot_len (pa_cons (pv 2) pa_nil)) pa_nil))) (pa_cons (pe_call Z.B.G hr1 rfl Z.B.g Z.B.kp Z.B.b .nil pass0 (pa_cons (pv 1) (pa_cons pe_int pa_nil))) (pa_cons (pe_ix ix_list (pv 3) (pe_call Z.B.G hr1 rfl Z.B.g Z.B.kp Z.B.b .nil pass0 (pa_cons (pv 1) (pa_cons pe_int pa_nil))) (fun _ _ => rfl)) pa_nil))) (by rfl))
      (pss_cons (ps_set (i := 8) scLaw15.nd rfl (.inl rfl) (pe_call Z.B.G hr1 rfl Z.B.g Z.B.kp Z.B.b .nil pass0 (pa_cons (pv 1) (pa_cons (pe_op op_add (pe_callB call_len_seq (by rfl) Z.T.len PySem.boot_len (pa_cons (pe_ix ix_list (pv 2) (pv 5) (fun _ _ => rfl)) pa_nil)) pe_int) pa_nil))))
      (pss_one (ps_if (PW.pt (pw_and (pt_cmpR op_eq (pv 6) pe_int (nomark _)) (pw_and1 (pt_cmpR op_gt (pe_callB call_len_seq (by rfl) Z.T.len PySem.boot_len (pa_cons (pv 2) pa_nil)) pe_int (nomark _))))) (pss_one (ps_set (i := 2) scLaw15.nd rfl (.inl rfl) (pe_op op_cat (pe_slice sl_list (pv 2) po_none (po_some (pv 5))) (pe_slice sl_list (pv 2) (po_some (pe_op op_add (pv 5) pe_int)) po_none))))
        (pss_one (ps_if (pt_cmpR op_eq (pv 6) pe_int (nomark _)) (pss_one (ps_set (i := 2) scLaw15.nd rfl (.inl rfl) (pe_op op_cat (pe_op op_cat (pe_slice sl_list (pv 2) po_none (po_some (pv 5))) (pe_lst (pa_cons (pe_lst (pa_cons (pv 7) pa_nil)) pa_nil))) (pe_slice sl_list (pv 2) (po_some (pv 5)) po_none)))) (pss_cons (ps_set (i := 9) scLaw15.nd rfl (.inl rfl) (pe_slice sl_list (pe_ix ix_list (pv 2) (pv 5) (fun _ _ => rfl)) (po_some (pe_op op_add (pv 8) (pe_op op_mod (pv 6) pe_int))) po_none)) (pss_cons (ps_set (i := 10) scLaw15.nd rfl (.inl rfl) (pe_op op_cat (pe_op op_cat (pe_slice sl_list (pe_ix ix_list (pv 2) (pv 5) (fun _ _ => rfl)) po_none (po_some (pv 8))) (pe_op op_rep (pe_lst (pa_cons (pv 7) pa_nil)) (pe_op op_fdiv (pv 6) pe_int))) (pv 9))) (pss_one (ps_set (i := 2) scLaw15.nd rfl (.inl rfl) (pe_op op_cat (pe_op op_cat (pe_slice sl_list (pv 2) po_none (po_some (pv 5))) (pe_lst (pa_cons (pv 10) pa_nil))) (pe_slice sl_list (pv 2) (po_some (pe_op op_add (pv 5) pe_int)) po_none))))))))))))) htn, fun D σ H2 hc => ?_⟩
  obtain ⟨⟨d, l, wl, st, rows, v0, v4, v5, v6, v7, v8, v9, v10, v11, v12, v13, v14, v15, v16, rfl, hd, hg, hw, nw, hL, hB, hT, k⟩⟩ := hc
  refine ⟨_, rfl, d, 3, st, rfl, hd, hg, by decide, by decide, fun H3 st3 r k3 hd3 hg3 r0 r1 => ?_⟩
  refine ⟨_, rfl, by omega, by omega, for_range (lo := 0) (n := r.toNat)
    (fun i σ H4 => ∃ (l : Addr) (st : List Int) (rows : List (List Str)) (v4 v5 v6 v7 v8 v9 v10 v11 v12 v13 v14 v15 v16 : Option V), σ = [v0, some (.ref d), some (.ref l), some (.ref wl), v4, v5, v6, v7, v8, v9, v10, v11, v12, v13, v14, v15, v16] ∧
      H4 d = some (.lst (st.map V.int)) ∧ Good st ∧ H4 wl = some (.lst (wordsL.map V.str)) ∧ LnAt d H4 l rows ∧ RowsB (4 + i) (3 + 2 * i) rows ∧ LamX.Tabs [(Pt, lamQ)] H4)
    ⟨l, st3, rows, _, _, _, _, _, _, _, _, _, _, _, _, _, rfl, hd3, hg3, k3 _ _ nw hw, hL.kp k3, hB, tabs_kp hT k3 hd⟩ ?_ ?_⟩
  · clear hd hg hw hL hB hT hd3 hg3 k3
    rintro i σ H4 hi ⟨l, st4, rows, v4, v5, v6, v7, v8, v9, v10, v11, v12, v13, v14, v15, v16, rfl, hd4, hg4, hw4, hL, hB, hT4⟩
    have hi2 : i < 2 := by omega
    have hpn := hB.p
    have hnn := hB.n
    obtain ⟨as0, eL0, hR0, _, _, _⟩ := id hL
    have hl0 : as0.length = rows.length := hR0.len
    refine ⟨_, rfl, _, rfl, l, _, rfl, .inl (SqL.of eL0), d, _, st4, rfl, hd4, hg4, ?_, ?_, fun H5 st5 kk k5 hd5 hg5 kk0 kk1 => ?_⟩
    · rw [List.length_map]; omega
    · rw [List.length_map]; omega
    rw [List.length_map, hl0] at kk1
    refine ⟨_, rfl, d, 7, st5, rfl, hd5, hg5, by decide, by decide, fun H6 st6 kd k6 hd6 hg6 kd0 kd1 => ?_⟩
    refine ⟨_, rfl, _, rfl, d, 16, st6, rfl, hd6, hg6, by decide, by decide, fun H7 st7 wi k7 hd7 hg7 wi0 wi1 => ?_⟩
    have k47 := (k5.trans k6).trans k7
    have hw7 := k47 _ _ nw hw4
    obtain ⟨jw, vw, ejw, eaw, hvw⟩ := at_some2 (xs := wordsL.map V.str) wi0 wi1
    obtain ⟨wd, hwd, rfl⟩ := map_at hvw
    have awd : AscW 8 wd := asc8of (List.mem_append_left _ (List.mem_of_getElem? hwd))
    refine ⟨wl, _, wi, _, rfl, rfl, SqL.of hw7, eaw, _, _, _, rfl, ?_⟩
    obtain ⟨as, eL, hR, n1, n2, n3⟩ := hL.kp k47
    have hT7 := tabs_kp hT4 k47 hd4
    have hlen : as.length = rows.length := hR.len
    obtain ⟨kn, rfl⟩ := Int.eq_ofNat_of_zero_le kk0
    have hkn : kn < rows.length := by omega
    have er : rows[kn]? = some rows[kn] := List.getElem?_eq_getElem hkn
    obtain ⟨hrl, hra⟩ := hB.m _ (List.mem_of_getElem? er)
    generalize rows[kn] = row at er hrl hra
    obtain ⟨b, eb, eB⟩ := hR.at er
    have eat : atI (as.map V.ref) (kn : Int) = some (.ref b) := atI_nat (by rw [List.getElem?_map, eb]; rfl)
    have nbd : b ≠ d := fun e => n2 (by rw [← e]; exact List.mem_of_getElem? eb)
    refine ⟨_, rfl, _, rfl, _, rfl, l, _, _, .ref b, rfl, rfl, SqL.of eL, eat, b, _, rfl, .inl (SqL.of eB), _, _, rfl, rfl, d, _, st7, rfl, hd7, hg7, ?_, ?_, fun H8 st8 at' k8 hd8 hg8 at0 at1 => ?_⟩
    · rw [List.length_map]; omega
    · rw [List.length_map]; omega
    rw [List.length_map] at at1
    obtain ⟨an, rfl⟩ := Int.eq_ofNat_of_zero_le at0
    have eL8 := k8 _ _ n1 eL
    have hR8 := hR.keep k8 n2
    have eB8 := k8 _ _ nbd eB
    have hw8 := k8 _ _ nw hw7
    have hT8 := tabs_kp hT7 k8 hd7
    have hz : as.length ≤ 100 := by omega
    clear k8 eB eL hR hw7 hT7 hd7 hg7 k47 k7 hd6 hg6 k6 hd5 hg5 k5 hT4 hL hw4 hg4 hd4 eL0 hR0 hl0
    have cutT : cutV (as.map V.ref) none (some (kn : Int)) = (as.take kn).map V.ref := by rw [List.map_take]; exact cut_takeN _ kn
    refine ⟨_, rfl, rfl, _, rfl, ite2 (fun c0 => ?_) (fun c0 => iteF ?_)⟩
    · refine ⟨_, rfl, l, _, rfl, .inl (SqL.of eL8), _, _, rfl, rfl, _, rfl, ite2 (fun c1 => ?_) (fun c1 => ?_)⟩
      · -- a line less
        have h1 : 1 < rows.length := by
          have := of_decide_eq_true c1
          rw [List.length_map] at this
          omega
        refine ⟨_, rfl, _, rfl, _, rfl, l, _, rfl, SqL.of eL8, fun p1 hp1 => ?_⟩
        rw [cutT]
        have c1 := same_upd (o := .lst ((as.take kn).map V.ref)) hp1
        refine cat2 (K := K) (S := fun H2 F => tSl (rSlL K) (tVar 2) (tPart (tOp (rI0 fun i j => .int (i + j)) (tVar 5) (tC (V.int 1)))) tNoPart _ H2 F) (d := d) (as := as) (rows := rows) (i := kn) (j := kn + 1) ?_ (c1 _ _ eL8) (hR8.mono c1) (c1 _ _ hd8) n2 hz p1 upd_same fun H9 p s9 hLn => ?_
        · intro H2 F h; exact ⟨_, rfl, _, rfl, _, _, rfl, rfl, _, rfl, h⟩
        exact ⟨p, st8, _, _, _, _, _, _, _, _, _, _, _, _, _, _, rfl, s9 _ _ (c1 _ _ hd8), hg8, s9 _ _ (c1 _ _ hw8), hLn, rowsB_cut hB (by omega) (by omega) (by omega) hkn, tabs_same hT8 (c1.trans s9)⟩
      · refine ⟨_, rfl, rfl, _, rfl, ite2 (fun c2 => ?_) (fun c2 => ?_)⟩
        · refine ⟨_, rfl, _, rfl, _, rfl, l, _, rfl, SqL.of eL8, fun p1 hp1 => ?_⟩
          rw [cutT]
          have c1 := same_upd (o := .lst ((as.take kn).map V.ref)) hp1
          have g1 : (upd H8 p1 (.lst ((as.take kn).map V.ref))) p1 = some (.lst ((as.take kn).map V.ref)) := upd_same
          generalize upd H8 p1 (.lst ((as.take kn).map V.ref)) = G1 at c1 g1
          refine ⟨_, rfl, by show 1 ≤ sizeLine; decide, fun q hq => ?_⟩
          have c5 := same_upd (o := .lst [V.str wd]) hq
          have g5 : (upd G1 q (.lst [V.str wd])) q = some (.lst ([wd].map V.str)) := upd_same
          have nq : q ≠ d := (ne_of_none (c1 _ _ hd8) hq).symm
          refine ⟨by show 1 ≤ sizeLine; decide, fun u hu => ?_⟩
          have c6 := same_upd (o := .lst [.ref q]) hu
          have c56 := c5.trans c6
          have cc := c1.trans c56
          refine cat3 (K := K) (S := fun H2 F => tSl (rSlL K) (tVar 2) (tPart (tVar 5)) tNoPart _ H2 F) (d := d) (as := as) (rows := rows) (ws := [wd]) (i := kn) (j := kn) (fun H2 F h => ⟨_, rfl, _, rfl, _, rfl, h⟩) (cc _ _ eL8) (hR8.mono cc) (cc _ _ hd8) n2 hz p1 u (c56 _ _ g1) upd_same (c6 _ _ g5) nq fun H9 p s9 hLn => ?_
          exact ⟨p, st8, _, _, _, _, _, _, _, _, _, _, _, _, _, _, rfl, s9 _ _ (cc _ _ hd8), hg8, s9 _ _ (cc _ _ hw8), hLn, rowsB_cat hB (by omega) (by omega) (by omega) (by show 1 ≤ _; omega) (fun y hy => by rw [List.mem_singleton.mp hy]; exact awd) (.inr rfl), tabs_same hT8 (cc.trans s9)⟩
        · obtain ⟨m, hm⟩ := Int.eq_ofNat_of_zero_le (show (0 : Int) ≤ (an : Int) + kd % 2 by omega)
          refine ⟨_, rfl, _, rfl, l, _, _, .ref b, rfl, rfl, SqL.of eL8, eat, _, rfl, _, rfl, _, _, rfl, rfl, by show (0 : Int) < 2; decide, _, _, rfl, rfl, _, rfl, b, _, rfl, SqL.of eB8, fun p3 hp3 => ?_⟩
          rw [hm, cut_dropN]
          have c3 := same_upd (o := .lst ((row.map V.str).drop m)) hp3
          have g3 : (upd H8 p3 (.lst ((row.map V.str).drop m))) p3 = some (.lst ((row.map V.str).drop m)) := upd_same
          generalize upd H8 p3 (.lst ((row.map V.str).drop m)) = G3 at c3 g3
          refine ⟨_, rfl, _, rfl, l, _, _, .ref b, rfl, rfl, SqL.of (c3 _ _ eL8), eat, _, rfl, _, rfl, b, _, rfl, SqL.of (c3 _ _ eB8), fun p4 hp4 => ?_⟩
          rw [cut_takeN]
          have c4 := same_upd (o := .lst ((row.map V.str).take an)) hp4
          have g4 : (upd G3 p4 (.lst ((row.map V.str).take an))) p4 = some (.lst ((row.map V.str).take an)) := upd_same
          generalize upd G3 p4 (.lst ((row.map V.str).take an)) = G4 at c4 g4
          refine ⟨_, rfl, by show 1 ≤ sizeLine; decide, fun p5 hp5 => ?_⟩
          have c5 := same_upd (o := .lst [V.str wd]) hp5
          have g5 : (upd G4 p5 (.lst [V.str wd])) p5 = some (.lst [V.str wd]) := upd_same
          generalize upd G4 p5 (.lst [V.str wd]) = G5 at c5 g5
          obtain ⟨n, hn⟩ := Int.eq_ofNat_of_zero_le (show (0 : Int) ≤ kd / 3 by omega)
          have hn2 : n ≤ 2 := by omega
          refine ⟨_, rfl, _, _, rfl, rfl, ⟨by decide, by decide⟩, p5, _, _, rfl, rfl, g5, by omega, by omega, ?_, fun p6 hp6 => ?_⟩
          · rw [hn]; exact Nat.le_trans (by show 1 * n ≤ 1000; omega) (by decide)
          rw [hn, Int.toNat_natCast, rep_flat]
          have c6 := same_upd (o := .lst ((List.replicate n wd).map V.str)) hp6
          have g6 : (upd G5 p6 (.lst ((List.replicate n wd).map V.str))) p6 = some (.lst ((List.replicate n wd).map V.str)) := upd_same
          have g46 := c6 _ _ (c5 _ _ g4)
          have c456 := (c4.trans c5).trans c6
          generalize upd G5 p6 (.lst ((List.replicate n wd).map V.str)) = G6 at c6 g6 g46 c456
          refine ⟨p4, p6, _, _, rfl, rfl, g46, g6, ?_, fun p7 hp7 => ?_⟩
          · rw [List.length_take, List.length_map, List.length_map, List.length_replicate]; exact Nat.le_trans (by omega : _ ≤ 1000) (by decide)
          have c7 := same_upd (o := .lst ((row.map V.str).take an ++ (List.replicate n wd).map V.str)) hp7
          have g7 : (upd G6 p7 (.lst ((row.map V.str).take an ++ (List.replicate n wd).map V.str))) p7 = some (.lst ((row.map V.str).take an ++ (List.replicate n wd).map V.str)) := upd_same
          have c47 := c456.trans c7
          have g37 := c47 _ _ g3
          generalize upd G6 p7 (.lst ((row.map V.str).take an ++ (List.replicate n wd).map V.str)) = G7 at c7 g7 c47 g37
          refine ⟨_, rfl, p7, p3, _, _, rfl, rfl, g7, g37, ?_, fun p8 hp8 => ?_⟩
          · rw [List.length_append, List.length_take, List.length_map, List.length_map, List.length_replicate, List.length_drop, List.length_map]; exact Nat.le_trans (by omega : _ ≤ 1000) (by decide)
          have c38 := (c3.trans c47)
          have np8 : p8 ≠ d := (ne_of_none (c38 _ _ hd8) hp8).symm
          have eline : (row.map V.str).take an ++ (List.replicate n wd).map V.str ++ (row.map V.str).drop m = (row.take an ++ List.replicate n wd ++ row.drop m).map V.str := by
            rw [List.map_append, List.map_append, List.map_take, List.map_drop]
          rw [eline]
          have c8 := same_upd (o := .lst ((row.take an ++ List.replicate n wd ++ row.drop m).map V.str)) hp8
          have g8 : (upd G7 p8 (.lst ((row.take an ++ List.replicate n wd ++ row.drop m).map V.str))) p8 = some (.lst ((row.take an ++ List.replicate n wd ++ row.drop m).map V.str)) := upd_same
          have cA := c38.trans c8
          generalize upd G7 p8 (.lst ((row.take an ++ List.replicate n wd ++ row.drop m).map V.str)) = G8 at c8 g8 cA
          refine ⟨_, rfl, _, rfl, _, rfl, l, _, rfl, SqL.of (cA _ _ eL8), fun p1 hp1 => ?_⟩
          rw [cutT]
          have c9 := same_upd (o := .lst ((as.take kn).map V.ref)) hp1
          have g9 : (upd G8 p1 (.lst ((as.take kn).map V.ref))) p1 = some (.lst ((as.take kn).map V.ref)) := upd_same
          generalize upd G8 p1 (.lst ((as.take kn).map V.ref)) = G9 at c9 g9
          refine ⟨_, rfl, by show 1 ≤ sizeLine; decide, fun u hu => ?_⟩
          have cu := same_upd (o := .lst [.ref p8]) hu
          have cc := (cA.trans c9).trans cu
          have hll : (row.take an ++ List.replicate n wd ++ row.drop m).length ≤ row.length + 2 := by
            rw [List.length_append, List.length_append, List.length_take, List.length_replicate, List.length_drop]; omega
          refine cat3 (K := K) (S := fun H2 F => tSl (rSlL K) (tVar 2) (tPart (tOp (rI0 fun i j => .int (i + j)) (tVar 5) (tC (V.int 1)))) tNoPart _ H2 F) (d := d) (as := as) (rows := rows) (ws := row.take an ++ List.replicate n wd ++ row.drop m) (i := kn) (j := kn + 1) ?_ (cc _ _ eL8) (hR8.mono cc) (cc _ _ hd8) n2 hz p1 u (cu _ _ g9) upd_same (cu _ _ (c9 _ _ g8)) np8 fun H9 p s9 hLn => ?_
          · intro H2 F h; exact ⟨_, rfl, _, rfl, _, _, rfl, rfl, _, rfl, h⟩
          refine ⟨p, st8, _, _, _, _, _, _, _, _, _, _, _, _, _, _, rfl, s9 _ _ (cc _ _ hd8), hg8, s9 _ _ (cc _ _ hw8), hLn, rowsB_cat hB (by omega) (by omega) (by omega) (by omega) (fun y hy => ?_) (.inl (by omega)), tabs_same hT8 (cc.trans s9)⟩
          rcases List.mem_append.mp hy with hy | hy
          · rcases List.mem_append.mp hy with hy | hy
            · exact hra y (List.mem_of_mem_take hy)
            · rw [List.eq_of_mem_replicate hy]; exact awd
          · exact hra y (List.mem_of_mem_drop hy)
    · refine ⟨_, rfl, rfl, _, rfl, ite2 (fun c2 => ?_) (fun c2 => ?_)⟩
      · refine ⟨_, rfl, _, rfl, _, rfl, l, _, rfl, SqL.of eL8, fun p1 hp1 => ?_⟩
        rw [cutT]
        have c1 := same_upd (o := .lst ((as.take kn).map V.ref)) hp1
        have g1 : (upd H8 p1 (.lst ((as.take kn).map V.ref))) p1 = some (.lst ((as.take kn).map V.ref)) := upd_same
        generalize upd H8 p1 (.lst ((as.take kn).map V.ref)) = G1 at c1 g1
        refine ⟨_, rfl, by show 1 ≤ sizeLine; decide, fun q hq => ?_⟩
        have c5 := same_upd (o := .lst [V.str wd]) hq
        have g5 : (upd G1 q (.lst [V.str wd])) q = some (.lst ([wd].map V.str)) := upd_same
        have nq : q ≠ d := (ne_of_none (c1 _ _ hd8) hq).symm
        refine ⟨by show 1 ≤ sizeLine; decide, fun u hu => ?_⟩
        have c6 := same_upd (o := .lst [.ref q]) hu
        have c56 := c5.trans c6
        have cc := c1.trans c56
        refine cat3 (K := K) (S := fun H2 F => tSl (rSlL K) (tVar 2) (tPart (tVar 5)) tNoPart _ H2 F) (d := d) (as := as) (rows := rows) (ws := [wd]) (i := kn) (j := kn) (fun H2 F h => ⟨_, rfl, _, rfl, _, rfl, h⟩) (cc _ _ eL8) (hR8.mono cc) (cc _ _ hd8) n2 hz p1 u (c56 _ _ g1) upd_same (c6 _ _ g5) nq fun H9 p s9 hLn => ?_
        exact ⟨p, st8, _, _, _, _, _, _, _, _, _, _, _, _, _, _, rfl, s9 _ _ (cc _ _ hd8), hg8, s9 _ _ (cc _ _ hw8), hLn, rowsB_cat hB (by omega) (by omega) (by omega) (by show 1 ≤ _; omega) (fun y hy => by rw [List.mem_singleton.mp hy]; exact awd) (.inr rfl), tabs_same hT8 (cc.trans s9)⟩
      · obtain ⟨m, hm⟩ := Int.eq_ofNat_of_zero_le (show (0 : Int) ≤ (an : Int) + kd % 2 by omega)
        refine ⟨_, rfl, _, rfl, l, _, _, .ref b, rfl, rfl, SqL.of eL8, eat, _, rfl, _, rfl, _, _, rfl, rfl, by show (0 : Int) < 2; decide, _, _, rfl, rfl, _, rfl, b, _, rfl, SqL.of eB8, fun p3 hp3 => ?_⟩
        rw [hm, cut_dropN]
        have c3 := same_upd (o := .lst ((row.map V.str).drop m)) hp3
        have g3 : (upd H8 p3 (.lst ((row.map V.str).drop m))) p3 = some (.lst ((row.map V.str).drop m)) := upd_same
        generalize upd H8 p3 (.lst ((row.map V.str).drop m)) = G3 at c3 g3
        refine ⟨_, rfl, _, rfl, l, _, _, .ref b, rfl, rfl, SqL.of (c3 _ _ eL8), eat, _, rfl, _, rfl, b, _, rfl, SqL.of (c3 _ _ eB8), fun p4 hp4 => ?_⟩
        rw [cut_takeN]
        have c4 := same_upd (o := .lst ((row.map V.str).take an)) hp4
        have g4 : (upd G3 p4 (.lst ((row.map V.str).take an))) p4 = some (.lst ((row.map V.str).take an)) := upd_same
        generalize upd G3 p4 (.lst ((row.map V.str).take an)) = G4 at c4 g4
        refine ⟨_, rfl, by show 1 ≤ sizeLine; decide, fun p5 hp5 => ?_⟩
        have c5 := same_upd (o := .lst [V.str wd]) hp5
        have g5 : (upd G4 p5 (.lst [V.str wd])) p5 = some (.lst [V.str wd]) := upd_same
        generalize upd G4 p5 (.lst [V.str wd]) = G5 at c5 g5
        obtain ⟨n, hn⟩ := Int.eq_ofNat_of_zero_le (show (0 : Int) ≤ kd / 3 by omega)
        have hn2 : n ≤ 2 := by omega
        refine ⟨_, rfl, _, _, rfl, rfl, ⟨by decide, by decide⟩, p5, _, _, rfl, rfl, g5, by omega, by omega, ?_, fun p6 hp6 => ?_⟩
        · rw [hn]; exact Nat.le_trans (by show 1 * n ≤ 1000; omega) (by decide)
        rw [hn, Int.toNat_natCast, rep_flat]
        have c6 := same_upd (o := .lst ((List.replicate n wd).map V.str)) hp6
        have g6 : (upd G5 p6 (.lst ((List.replicate n wd).map V.str))) p6 = some (.lst ((List.replicate n wd).map V.str)) := upd_same
        have g46 := c6 _ _ (c5 _ _ g4)
        have c456 := (c4.trans c5).trans c6
        generalize upd G5 p6 (.lst ((List.replicate n wd).map V.str)) = G6 at c6 g6 g46 c456
        refine ⟨p4, p6, _, _, rfl, rfl, g46, g6, ?_, fun p7 hp7 => ?_⟩
        · rw [List.length_take, List.length_map, List.length_map, List.length_replicate]; exact Nat.le_trans (by omega : _ ≤ 1000) (by decide)
        have c7 := same_upd (o := .lst ((row.map V.str).take an ++ (List.replicate n wd).map V.str)) hp7
        have g7 : (upd G6 p7 (.lst ((row.map V.str).take an ++ (List.replicate n wd).map V.str))) p7 = some (.lst ((row.map V.str).take an ++ (List.replicate n wd).map V.str)) := upd_same
        have c47 := c456.trans c7
        have g37 := c47 _ _ g3
        generalize upd G6 p7 (.lst ((row.map V.str).take an ++ (List.replicate n wd).map V.str)) = G7 at c7 g7 c47 g37
        refine ⟨_, rfl, p7, p3, _, _, rfl, rfl, g7, g37, ?_, fun p8 hp8 => ?_⟩
        · rw [List.length_append, List.length_take, List.length_map, List.length_map, List.length_replicate, List.length_drop, List.length_map]; exact Nat.le_trans (by omega : _ ≤ 1000) (by decide)
        have c38 := (c3.trans c47)
        have np8 : p8 ≠ d := (ne_of_none (c38 _ _ hd8) hp8).symm
        have eline : (row.map V.str).take an ++ (List.replicate n wd).map V.str ++ (row.map V.str).drop m = (row.take an ++ List.replicate n wd ++ row.drop m).map V.str := by
          rw [List.map_append, List.map_append, List.map_take, List.map_drop]
        rw [eline]
        have c8 := same_upd (o := .lst ((row.take an ++ List.replicate n wd ++ row.drop m).map V.str)) hp8
        have g8 : (upd G7 p8 (.lst ((row.take an ++ List.replicate n wd ++ row.drop m).map V.str))) p8 = some (.lst ((row.take an ++ List.replicate n wd ++ row.drop m).map V.str)) := upd_same
        have cA := c38.trans c8
        generalize upd G7 p8 (.lst ((row.take an ++ List.replicate n wd ++ row.drop m).map V.str)) = G8 at c8 g8 cA
        refine ⟨_, rfl, _, rfl, _, rfl, l, _, rfl, SqL.of (cA _ _ eL8), fun p1 hp1 => ?_⟩
        rw [cutT]
        have c9 := same_upd (o := .lst ((as.take kn).map V.ref)) hp1
        have g9 : (upd G8 p1 (.lst ((as.take kn).map V.ref))) p1 = some (.lst ((as.take kn).map V.ref)) := upd_same
        generalize upd G8 p1 (.lst ((as.take kn).map V.ref)) = G9 at c9 g9
        refine ⟨_, rfl, by show 1 ≤ sizeLine; decide, fun u hu => ?_⟩
        have cu := same_upd (o := .lst [.ref p8]) hu
        have cc := (cA.trans c9).trans cu
        have hll : (row.take an ++ List.replicate n wd ++ row.drop m).length ≤ row.length + 2 := by
          rw [List.length_append, List.length_append, List.length_take, List.length_replicate, List.length_drop]; omega
        refine cat3 (K := K) (S := fun H2 F => tSl (rSlL K) (tVar 2) (tPart (tOp (rI0 fun i j => .int (i + j)) (tVar 5) (tC (V.int 1)))) tNoPart _ H2 F) (d := d) (as := as) (rows := rows) (ws := row.take an ++ List.replicate n wd ++ row.drop m) (i := kn) (j := kn + 1) ?_ (cc _ _ eL8) (hR8.mono cc) (cc _ _ hd8) n2 hz p1 u (cu _ _ g9) upd_same (cu _ _ (c9 _ _ g8)) np8 fun H9 p s9 hLn => ?_
        · intro H2 F h; exact ⟨_, rfl, _, rfl, _, _, rfl, rfl, _, rfl, h⟩
        refine ⟨p, st8, _, _, _, _, _, _, _, _, _, _, _, _, _, _, rfl, s9 _ _ (cc _ _ hd8), hg8, s9 _ _ (cc _ _ hw8), hLn, rowsB_cat hB (by omega) (by omega) (by omega) (by omega) (fun y hy => ?_) (.inl (by omega)), tabs_same hT8 (cc.trans s9)⟩
        rcases List.mem_append.mp hy with hy | hy
        · rcases List.mem_append.mp hy with hy | hy
          · exact hra y (List.mem_of_mem_take hy)
          · rw [List.eq_of_mem_replicate hy]; exact awd
        · exact hra y (List.mem_of_mem_drop hy)
  · rintro σ H4 ⟨l, st4, rows, v4, v5, v6, v7, v8, v9, v10, v11, v12, v13, v14, v15, v16, rfl, hd4, hg4, hw4, hL, hB, hT4⟩
    exact hnx _ _ _ ⟨⟨d, l, st4, rows, _, _, _, _, _, _, _, _, _, _, _, _, _, _, _, rfl, hd4, hg4, hL, ⟨hB.p, Nat.le_trans hB.n (by omega), fun r hr => ⟨Nat.le_trans (hB.m r hr).1 (by omega), (hB.m r hr).2⟩⟩, hT4, k⟩⟩
end
end Dk

set_option Elab.async false
set_option linter.all false
set_option maxRecDepth 100000
set_option maxHeartbeats 8000000
namespace Dk
open PySem PySem.Spec PyProof.Rows L2 TL
section
variable {P : Program} {w : World} {K : PySem.W.Frag} {mg : Str → Option Value} {base : Heap} {cL Pt CH CI CT CE : Addr} {mc : Value} {cs : Nat → Addr} {fRa fB fF fRd fHo fErr pP gP pT gT : Addr} {fdRa fdB fdF fdRd fdHo fdErr fdT : FuncData}
def rows0 : List (List Str) := [[wTab, Str.ofString "hho", Str.ofString "ooh"], [wKey, Str.ofString "2"], [wCar, Str.ofString "0", Str.ofString "1"], [wRem, Str.ofString "0:1", Str.ofString "2:0"]]
theorem rows0_ok : RowsB 4 3 rows0 := by
  refine ⟨by decide, by decide, fun r hr => ?_⟩
  have h1 : ∀ r ∈ rows0, r.length ≤ 3 ∧ ∀ y ∈ r, y.length ≤ 8 ∧ ∀ c ∈ tl y, c < 128 := by decide +kernel
  exact ⟨(h1 r hr).1, fun y hy => ⟨((h1 r hr).2 y hy).1, ((h1 r hr).2 y hy).2⟩⟩
theorem ok_law15 {f : Addr} {fd : FuncData} (F : FunAt K "law" "law" sLaw f cL fd) (Z : Kit15 P w K mg base cL Pt CH CI CT CE mc cs fRa fB fF fRd fHo fErr pP gP pT gT fdRa fdB fdF fdRd fdHo fdErr fdT) : FnOk P w K mg base CX0 11 f fd ["_law_script"] (spLaw K Pt) := by
  refine F.ok scLaw15 (fun vs H Q E h => ?_) (fun A outer s H vs Q E hr h => ?_)
  · obtain ⟨a, ns, rfl, _⟩ := h
    rfl
  · obtain ⟨a, ns, rfl, hS, hlen, hTab, k⟩ := h
    have hr1 : Room 1 (A.deeper (envOfC (Str.ofString "law") (defScope sLaw) s.heap.objs.size f (.ref cL))) := hr.mono (by decide)
    obtain ⟨tn, htn, hnx⟩ := law_b hr Z (outer := outer) (H := H) (E := E)
    refine ⟨_, pss_cons (ps_set (i := 1) scLaw15.nd rfl (.inl rfl) (pe_call Z.Ra.G hr1 rfl Z.Ra.g Z.Ra.kp Z.Ra.b .nil pass0 (pa_cons (pv 0) (pa_cons pe_int pa_nil))))
      (pss_cons (ps_set (i := 2) scLaw15.nd rfl (.inl rfl) (pe_lst (pa_cons (pe_lst (pa_cons pe_str (pa_cons pe_str (pa_cons pe_str pa_nil)))) (pa_cons (pe_lst (pa_cons pe_str (pa_cons pe_str pa_nil))) (pa_cons (pe_lst (pa_cons pe_str (pa_cons pe_str (pa_cons pe_str pa_nil)))) (pa_cons (pe_lst (pa_cons pe_str (pa_cons pe_str (pa_cons pe_str pa_nil)))) pa_nil))))))
      (pss_cons (ps_set (i := 3) scLaw15.nd rfl (.inl rfl) (pe_lst (pa_cons pe_str (pa_cons pe_str (pa_cons pe_str (pa_cons pe_str (pa_cons pe_str (pa_cons pe_str (pa_cons pe_str (pa_cons pe_str (pa_cons pe_str (pa_cons pe_str (pa_cons pe_str (pa_cons pe_str (pa_cons pe_str (pa_cons pe_str (pa_cons pe_str (pa_cons pe_str pa_nil)))))))))))))))))) htn)), ?_⟩
    refine ⟨_, rfl, a, ns, 15, rfl, hS, hlen, by decide, by decide, fun H1 d st s1 _ hd hg => ?_⟩
    have T1 := tabs_same hTab s1
    refine ⟨by show 3 ≤ sizeLine; decide, fun q0 h0 => ⟨by show 2 ≤ sizeLine; decide, fun q1 h1 => ⟨by show 3 ≤ sizeLine; decide, fun q2 h2 => ⟨by show 3 ≤ sizeLine; decide, fun q3 h3 => ⟨by show 4 ≤ sizeLine; decide, fun l hl => ?_⟩⟩⟩⟩⟩
    have c0 := same_upd (o := .lst [V.str (Str.ofString "tables"), V.str (Str.ofString "hho"), V.str (Str.ofString "ooh")]) h0
    have c1 := same_upd (o := .lst [V.str (Str.ofString "keys"), V.str (Str.ofString "2")]) h1
    have c2 := same_upd (o := .lst [V.str (Str.ofString "careful"), V.str (Str.ofString "0"), V.str (Str.ofString "1")]) h2
    have c3 := same_upd (o := .lst [V.str (Str.ofString "remind"), V.str (Str.ofString "0:1"), V.str (Str.ofString "2:0")]) h3
    have c4 := same_upd (o := .lst [.ref q0, .ref q1, .ref q2, .ref q3]) hl
    have n0 : q0 ≠ d := (ne_of_none hd h0).symm
    have n1 : q1 ≠ d := (ne_of_none (c0 _ _ hd) h1).symm
    have n2 : q2 ≠ d := (ne_of_none (c1 _ _ (c0 _ _ hd)) h2).symm
    have n3 : q3 ≠ d := (ne_of_none (c2 _ _ (c1 _ _ (c0 _ _ hd))) h3).symm
    have cc := ((c0.trans c1).trans c2).trans c3
    have hd3 := cc _ _ hd
    have g0 : (upd (upd (upd (upd H1 q0 (.lst [V.str (Str.ofString "tables"), V.str (Str.ofString "hho"), V.str (Str.ofString "ooh")])) q1 (.lst [V.str (Str.ofString "keys"), V.str (Str.ofString "2")])) q2 (.lst [V.str (Str.ofString "careful"), V.str (Str.ofString "0"), V.str (Str.ofString "1")])) q3 (.lst [V.str (Str.ofString "remind"), V.str (Str.ofString "0:1"), V.str (Str.ofString "2:0")])) q0 = _ := c3 _ _ (c2 _ _ (c1 _ _ upd_same))
    have g1 : (upd (upd (upd (upd H1 q0 (.lst [V.str (Str.ofString "tables"), V.str (Str.ofString "hho"), V.str (Str.ofString "ooh")])) q1 (.lst [V.str (Str.ofString "keys"), V.str (Str.ofString "2")])) q2 (.lst [V.str (Str.ofString "careful"), V.str (Str.ofString "0"), V.str (Str.ofString "1")])) q3 (.lst [V.str (Str.ofString "remind"), V.str (Str.ofString "0:1"), V.str (Str.ofString "2:0")])) q1 = _ := c3 _ _ (c2 _ _ upd_same)
    have g2 : (upd (upd (upd (upd H1 q0 (.lst [V.str (Str.ofString "tables"), V.str (Str.ofString "hho"), V.str (Str.ofString "ooh")])) q1 (.lst [V.str (Str.ofString "keys"), V.str (Str.ofString "2")])) q2 (.lst [V.str (Str.ofString "careful"), V.str (Str.ofString "0"), V.str (Str.ofString "1")])) q3 (.lst [V.str (Str.ofString "remind"), V.str (Str.ofString "0:1"), V.str (Str.ofString "2:0")])) q2 = _ := c3 _ _ upd_same
    have g3 : (upd (upd (upd (upd H1 q0 (.lst [V.str (Str.ofString "tables"), V.str (Str.ofString "hho"), V.str (Str.ofString "ooh")])) q1 (.lst [V.str (Str.ofString "keys"), V.str (Str.ofString "2")])) q2 (.lst [V.str (Str.ofString "careful"), V.str (Str.ofString "0"), V.str (Str.ofString "1")])) q3 (.lst [V.str (Str.ofString "remind"), V.str (Str.ofString "0:1"), V.str (Str.ofString "2:0")])) q3 = _ := upd_same
    have hl' : (upd (upd (upd (upd H1 q0 (.lst [V.str (Str.ofString "tables"), V.str (Str.ofString "hho"), V.str (Str.ofString "ooh")])) q1 (.lst [V.str (Str.ofString "keys"), V.str (Str.ofString "2")])) q2 (.lst [V.str (Str.ofString "careful"), V.str (Str.ofString "0"), V.str (Str.ofString "1")])) q3 (.lst [V.str (Str.ofString "remind"), V.str (Str.ofString "0:1"), V.str (Str.ofString "2:0")])) l = none := hl
    clear c0 c1 c2 c3 c4 hl h0 h1 h2 h3
    generalize upd (upd (upd (upd H1 q0 (.lst [V.str (Str.ofString "tables"), V.str (Str.ofString "hho"), V.str (Str.ofString "ooh")])) q1 (.lst [V.str (Str.ofString "keys"), V.str (Str.ofString "2")])) q2 (.lst [V.str (Str.ofString "careful"), V.str (Str.ofString "0"), V.str (Str.ofString "1")])) q3 (.lst [V.str (Str.ofString "remind"), V.str (Str.ofString "0:1"), V.str (Str.ofString "2:0")]) = G at *
    have hR : RowsAt G [q0, q1, q2, q3] rows0 := .cons g0 (.cons g1 (.cons g2 (.cons g3 .nil)))
    have hL : LnAt d (upd G l (.lst ([q0, q1, q2, q3].map V.ref))) l rows0 := ln_alloc hd3 hR (fun hm => by
      simp only [List.mem_cons, List.not_mem_nil, or_false] at hm
      rcases hm with e | e | e | e
      · exact n0 e.symm
      · exact n1 e.symm
      · exact n2 e.symm
      · exact n3 e.symm) hl'
    have c4 := same_upd (o := .lst ([q0, q1, q2, q3].map V.ref)) hl'
    refine ⟨by show 16 ≤ sizeLine; decide, fun wl hwl => ?_⟩
    have hwl' : (upd G l (.lst ([q0, q1, q2, q3].map V.ref))) wl = none := hwl
    have c5 := same_upd (o := .lst (wordsL.map V.str)) hwl'
    exact hnx _ _ _ ⟨⟨d, l, wl, st, rows0, _, _, _, _, _, _, _, _, _, _, _, _, _, _, rfl, c5 _ _ (c4 _ _ hd3), hg, upd_same, (ne_of_none (c4 _ _ hd3) hwl').symm, hL.same c5, rows0_ok, tabs_same T1 ((cc.trans c4).trans c5), fun H' => k H'⟩⟩
end
end Dk

set_option Elab.async false
set_option linter.all false
set_option maxRecDepth 100000
set_option maxHeartbeats 4000000
namespace Dk
open PySem PySem.Spec PyProof.Rows L2 TL
/-! ### what the top has written -/
structure FnAt (K : PySem.W.Frag) (x : Str) (st : Stmt) (f : Addr) (fd : FuncData) : Prop where
  g : PySem.W.nsIn K mainGlobals x = some (some (.ref f))
  F : Fun K x x st f fd
theorem fnAt_mk {K : PySem.W.Frag} {x : Str} {st : Stmt} {f : Addr} {oc : Value} {od an : Option Addr} {osl : Array (Option Value)} {kV doc pm cdv ct : Value} (a : PySem.W.nsIn K mainGlobals x = some (some (.ref f)))
    (l : K.lookup f = some ⟨oc, od, .func (PySem.W.fnOf x x (defArgs st) (defBody st) (defScope st) .none kV doc pm an cdv ct), osl⟩)
    (c : PySem.W.codeIn K cdv x = true) (k : PySem.W.keepIn K (.ref f) = true) : FnAt K x st f (PySem.W.fnOf x x (defArgs st) (defBody st) (defScope st) .none kV doc pm an cdv ct) := ⟨a, fun_mk l c k⟩
/-- an error of the program's own -/
structure ErrAt (K : PySem.W.Frag) (x q : Str) (st : Stmt) (C f : Addr) (fd : FuncData) : Prop where
  g : PySem.W.nsIn K mainGlobals x = some (some (.ref C))
  O : OexC K C
  i : PySem.W.findIn K (.ref C) "__init__" = some (some (.ref f))
  t : PySem.W.typeIn K (.ref f) = some (.type "function")
  F : Fun K "__init__" q st f fd
theorem errAt_mk {K : PySem.W.Frag} {x q : Str} {st : Stmt} {C C0 f : Addr} {nm qn : Str} {N : Addr} {bs : List Value} {sn : List Str} {sub : List Value} {ab : Bool} {col : Option Bool} {dd : Option Addr} {m0 m1 m2 m3 m5 : Option Value}
    {oc : Value} {od an : Option Addr} {osl : Array (Option Value)} {kV doc pm cdv ct : Value}
    (a : PySem.W.nsIn K mainGlobals x = some (some (.ref C)))
    (xL : K.lookup C = some (excClassObj nm qn C N bs [.ref C0, .type "ValueError", .type "Exception", .type "BaseException", .type "object"] true sn sub ab col dd m0 m1 m2 m3 m5 "ValueError.__new__"))
    (sa : PySem.W.findIn K (.ref C) "__setattr__" = some (some (.builtin "object.__setattr__"))) (eC : PySem.W.subIn K (.ref C) (.type "BaseException") = some true) (tC : PySem.W.typeIn K (.ref C) = some (.type "type")) (kC : PySem.W.keepIn K (.ref C) = true)
    (i : PySem.W.findIn K (.ref C) "__init__" = some (some (.ref f))) (t : PySem.W.typeIn K (.ref f) = some (.type "function"))
    (l : K.lookup f = some ⟨oc, od, .func (PySem.W.fnOf "__init__" q (defArgs st) (defBody st) (defScope st) .none kV doc pm an cdv ct), osl⟩)
    (c : PySem.W.codeIn K cdv q = true) (k : PySem.W.keepIn K (.ref f) = true) : ErrAt K x q st C f (PySem.W.fnOf "__init__" q (defArgs st) (defBody st) (defScope st) .none kV doc pm an cdv ct) :=
  ⟨a, ⟨⟨nm, qn, N, bs, _, sn, sub, ab, col, dd, m0, m1, m2, m3, m5, xL, (by decide +kernel : PySem.HandSPX.refsVE [.type "ValueError", .type "Exception", .type "BaseException", .type "object"] = true)⟩, sa, eC, tC, kC⟩, i, t, fun_mk l c k⟩
/-- a tuple of texts or numbers among the globals -/
def TupAt (K : PySem.W.Frag) (x : Str) (xs : List V) : Prop := ∃ a, PySem.W.nsIn K mainGlobals x = some (some (.ref a)) ∧ SqT K (fun _ => none) a xs
theorem tupAt_mk {K : PySem.W.Frag} {x : Str} {xs : List V} {a : Addr} {od : Option Addr} {osl : Array (Option Value)} {its : Array Value} {n : Nat} (g : PySem.W.nsIn K mainGlobals x = some (some (.ref a)))
    (l : K.lookup a = some ⟨.type "tuple", od, .seq its n, osl⟩) (z : its.size ≤ sizeLine) (v : Vals xs its.toList) : TupAt K x xs := ⟨a, g, .inr ⟨_, its, n, l, rfl, rfl, z, v⟩⟩
def IntAt (K : PySem.W.Frag) (x : Str) (i : Int) : Prop := ∃ t, PySem.W.nsIn K mainGlobals x = some (some (.int i t))
theorem intAt_mk {K : PySem.W.Frag} {x : Str} {i : Int} {t : Nat} (g : PySem.W.nsIn K mainGlobals x = some (some (.int i t))) : IntAt K x i := ⟨t, g⟩
def StrAt (K : PySem.W.Frag) (x : Str) (i : Str) : Prop := ∃ t, PySem.W.nsIn K mainGlobals x = some (some (.str i t))
theorem strAt_mk {K : PySem.W.Frag} {x : Str} {i : Str} {t : Nat} (g : PySem.W.nsIn K mainGlobals x = some (some (.str i t))) : StrAt K x i := ⟨t, g⟩
/-- the class of houses -/
structure HouAt (K : PySem.W.Frag) (CH : Addr) (mc : Value) (fH gP pP gT pT : Addr) (fdH fdP fdT : FuncData) (dvs : List V) : Prop where
  g : PySem.W.nsIn K mainGlobals "House" = some (some (.ref CH))
  cl : Cls K CH
  nT : NoAttr K CH "tables"
  nK : NoAttr K CH "key_count"
  nC : NoAttr K CH "careful"
  nR : NoAttr K CH "reminders"
  M : Mk K CH fH
  FH : FunD K "__init__" "House.__init__" (defArgs sInit) (defBody sInit) (defScope sInit) dvs [] fH fdH
  two : dvs.length = 2
  rd : ClX.CRead K CH mc
  cm : ClX.CMet K CH mc "parse" pP gP
  FP : Fun K "parse" "House.parse" sParse gP fdP
  po : PropOf K CH "text" pT gT
  FT : Fun K "text" "House.text" sText gT fdT
theorem houAt_mk {K : PySem.W.Frag} {CH : Addr} {fH gP pP gT pT T e1 e2 : Addr} {ocH dcH pmH cdH ctH kVH ocT ocP kVP dcP pmP cdP ctP ocX kVX dcX pmX cdX ctX : Value} {odH anH odT odP anP odX anX : Option Addr} {slH slT slP slX : Array (Option Value)} {nT : Nat} {rp rt : List Value}
    (g : PySem.W.nsIn K mainGlobals "House" = some (some (.ref CH)))
    (pg : PySem.W.plainGet K CH Str.empty = true) (hd : PySem.W.hasDictIn K CH = true) (po : PySem.W.plainOver K CH = true) (sa : PySem.W.findIn K (.ref CH) "__setattr__" = some (some (.builtin "object.__setattr__")))
    (n1 : PySem.W.findIn K (.ref CH) "tables" = some none) (n2 : PySem.W.findIn K (.ref CH) "key_count" = some none) (n3 : PySem.W.findIn K (.ref CH) "careful" = some none) (n4 : PySem.W.findIn K (.ref CH) "reminders" = some none)
    (mk : PySem.W.makesIn K CH = true) (i : PySem.W.findIn K (.ref CH) "__init__" = some (some (.ref fH))) (fn : PySem.W.isFn K (.ref fH) = true) (kc : PySem.W.keepIn K (.ref CH) = true)
    (lH : K.lookup fH = some ⟨ocH, odH, .func (PySem.W.fnOf "__init__" "House.__init__" (defArgs sInit) (defBody sInit) (defScope sInit) (.ref T) kVH dcH pmH anH cdH ctH), slH⟩) (cH : PySem.W.codeIn K cdH "House.__init__" = true) (kH : PySem.W.keepIn K (.ref fH) = true)
    (lT : K.lookup T = some ⟨ocT, odT, .seq #[.ref e1, .ref e2] nT, slT⟩)
    (rd : PySem.W.readsIn K CH (.type "type") = true) (ga : PySem.W.specialIn K (.ref CH) "__getattribute__" = some (some (.builtin "type.__getattribute__")))
    (cmA : PySem.W.findCls K (.ref CH) (.type "type") "parse" = some (.get (.builtin "classmethod.__get__") (.ref pP) .none (.ref CH))) (cmR : PySem.W.recIn K pP "classmethod" = some (.ref gP :: rp)) (cmF : PySem.W.fnIn K gP = true)
    (lP : K.lookup gP = some ⟨ocP, odP, .func (PySem.W.fnOf "parse" "House.parse" (defArgs sParse) (defBody sParse) (defScope sParse) .none kVP dcP pmP anP cdP ctP), slP⟩) (cP : PySem.W.codeIn K cdP "House.parse" = true) (kP : PySem.W.keepIn K (.ref gP) = true)
    (pA : PySem.W.findIn K (.ref CH) "text" = some (some (.ref pT))) (pG : PySem.W.specialIn K (.ref pT) "__get__" = some (some (.builtin "property.__get__"))) (pK : PySem.W.takesIn K (.ref pT) = some true) (pR : PySem.W.recIn K pT "property" = some (.ref gT :: rt))
    (lX : K.lookup gT = some ⟨ocX, odX, .func (PySem.W.fnOf "text" "House.text" (defArgs sText) (defBody sText) (defScope sText) .none kVX dcX pmX anX cdX ctX), slX⟩) (cX : PySem.W.codeIn K cdX "House.text" = true) (kX : PySem.W.keepIn K (.ref gT) = true) :
    HouAt K CH (.type "type") fH gP pP gT pT (PySem.W.fnOf "__init__" "House.__init__" (defArgs sInit) (defBody sInit) (defScope sInit) (.ref T) kVH dcH pmH anH cdH ctH) (PySem.W.fnOf "parse" "House.parse" (defArgs sParse) (defBody sParse) (defScope sParse) .none kVP dcP pmP anP cdP ctP) (PySem.W.fnOf "text" "House.text" (defArgs sText) (defBody sText) (defScope sText) .none kVX dcX pmX anX cdX ctX) [.ref e1, .ref e2] :=
  ⟨g, ⟨pg, hd, po, sa⟩, n1, n2, n3, n4, ⟨mk, i, fn, kc⟩, ⟨⟨ocH, odH, _, _, _, _, _, _, _, _, rfl, lH, cH, .inr ⟨by simp, T, _, [.ref e1, .ref e2], nT, rfl, lT, rfl, .cons rfl (.cons rfl .nil)⟩, .inl rfl⟩, kH⟩, rfl,
    ⟨rd, ga⟩, ⟨cmA, ⟨_, cmR⟩, cmF⟩, fun_mk lP cP kP, ⟨pA, pG, pK, ⟨_, pR⟩⟩, fun_mk lX cX kX⟩
/-- a class of errors: its name, and that it is a class -/
structure ClsAt (K : PySem.W.Frag) (x : Str) (c : Addr) : Prop where
  g : PySem.W.nsIn K mainGlobals x = some (some (.ref c))
  t : PySem.W.typeIn K (.ref c) = some (.type "type")
  i : PySem.W.isClsIn K c = true
theorem kit_no {K : PySem.W.Frag} {x : Str} {D c : Addr} (h : ClsAt K x c) (n : D ≠ c) (s : PySem.W.subIn K (.ref D) (.ref c) = some false) : PySem.W.kitOne K (.ref D) (.ref c) = some false := by
  unfold PySem.W.kitOne
  rw [if_neg (by intro q; exact n (Value.ref.inj (beq_iff_eq.mp q)))]
  show (if ((PySem.W.clsIn K c).isSome && PySem.W.typeIn K (.ref c) == some (.type "type")) = true then PySem.W.subIn K (.ref D) (.ref c) else none) = some false
  rw [show (PySem.W.clsIn K c).isSome = true from h.i, h.t]
  exact s
theorem kit_self {K : PySem.W.Frag} {c : Addr} : PySem.W.kitOne K (.ref c) (.ref c) = some true := by
  unfold PySem.W.kitOne
  rw [if_pos (beq_self_eq_true _)]
theorem kit_ve {K : PySem.W.Frag} {D : Addr} (s : PySem.W.subIn K (.ref D) (.type "ValueError") = some true) : PySem.W.kitOne K (.ref D) (.type "ValueError") = some true := by
  unfold PySem.W.kitOne
  rw [if_neg (by intro q; cases beq_iff_eq.mp q)]
  show (if PySem.W.kitMeta "ValueError" = true then PySem.W.subIn K (.ref D) (.type "ValueError") else none) = some true
  rw [if_pos (by decide +kernel)]
  exact s
structure SubAt (K : PySem.W.Frag) (CE D : Addr) : Prop where
  v : PySem.W.subIn K (.ref D) (.type "ValueError") = some true
  e : PySem.W.subIn K (.ref D) (.ref CE) = some true
  C : ExcC K D
theorem subAt_mk {K : PySem.W.Frag} {CE D : Addr} (v : PySem.W.subIn K (.ref D) (.type "ValueError") = some true) (e : PySem.W.subIn K (.ref D) (.ref CE) = some true)
    (hg : PySem.W.findIn K (.ref D) "__getattribute__" = some (some (.builtin "BaseException.__getattribute__"))) (hk : PySem.W.findIn K (.ref D) "__getattr__" = some none) (hs : PySem.W.subIn K (.ref D) (.type "BaseException") = some true) (hd : PySem.W.hasDictIn K D = true)
    (ha : PySem.W.findIn K (.ref D) "__class__" = some (some (.builtin "object.__class__"))) (hn : PySem.W.specialIn K (.builtin "object.__class__") "__get__" = some (some (.builtin "getset_descriptor.__get__"))) (ht : PySem.W.takesIn K (.builtin "object.__class__") = some true) (hm : PySem.W.mroIn K D (.type "object") = some true) : SubAt K CE D := ⟨v, e, ⟨hg, hk, hs, hd, ha, hn, ht, hm⟩⟩

theorem all_mk15 {l : PySem.W.OpenLaw} {w : World} {K : PySem.W.Frag} {h : Heap} {mg : Str → Option Value} {fa : Addr} (X : K.In h) (G : h.Ns mainGlobals mg) (hfa : mg "law" = some (.ref fa))
    {f_ii f_ib f_pe f_ct f_ck f_cc f_cr f_it f_ir f_as f_ho f_sp f_aa f_tw f_nw f_rw f_rn f_rr f_kl f_cl f_rl f_ra f_be f_lt f_ln f_lr f_tf f_er f_rd f_hs c0 c1 c2 c3 c4 c5 c6 c7 c10 c11 C_i f_i C_t f_t CH CE fH gP pP gT pT fl cL Pt : Addr} {d_ii d_ib d_pe d_ct d_ck d_cc d_cr d_it d_ir d_as d_ho d_sp d_aa d_tw d_nw d_rw d_rn d_rr d_kl d_cl d_rl d_ra d_be d_lt d_ln d_lr d_tf d_er d_rd d_hs d_i d_t d_h d_p d_x : FuncData} {mc : Value} {dvs : List V}
    {ocl : Value} {odl anl : Option Addr} {osl : Array (Option Value)} {kVl docl pml ctl : Value}
    (h_ii : FnAt K "is_integer" sIsInt f_ii d_ii) (h_ib : FnAt K "is_below" sIsBelow f_ib d_ib) (h_pe : FnAt K "common_period" sPeriod f_pe d_pe) (h_ct : FnAt K "check_tables" sChkTables f_ct d_ct) (h_ck : FnAt K "check_keys" sChkKeys f_ck d_ck) (h_cc : FnAt K "check_careful" sChkCareful f_cc d_cc) (h_cr : FnAt K "check_reminders" sChkRem f_cr d_cr) (h_it : FnAt K "is_table" sIsTable f_it d_it) (h_ir : FnAt K "is_reminder" sIsRem f_ir d_ir) (h_as : FnAt K "is_ascending_at" sAsc f_as d_as) (h_ho : FnAt K "has_only" sHasOnly f_ho d_ho) (h_sp : FnAt K "split_text" sSplit f_sp d_sp) (h_aa : FnAt K "are_arguments" sAreArgs f_aa d_aa) (h_tw : FnAt K "is_table_word" sIsTW f_tw d_tw) (h_nw : FnAt K "is_number_word" sIsNW f_nw d_nw) (h_rw : FnAt K "is_reminder_word" sIsRW f_rw d_rw) (h_rn : FnAt K "read_numbers" sReadNs f_rn d_rn) (h_rr : FnAt K "read_reminders" sReadRs f_rr d_rr) (h_kl : FnAt K "keys_line" sKeysL f_kl d_kl) (h_cl : FnAt K "careful_line" sCarL f_cl d_cl) (h_rl : FnAt K "remind_line" sRemL f_rl d_rl) (h_ra : FnAt K "_law_random" sRandom f_ra d_ra) (h_be : FnAt K "_law_below" sBelow f_be d_be) (h_lt : FnAt K "_law_is_table" sLawTab f_lt d_lt) (h_ln : FnAt K "_law_is_number" sLawNum f_ln d_ln) (h_lr : FnAt K "_law_is_reminder" sLawRem f_lr d_lr) (h_tf : FnAt K "_law_text_fault" sFault f_tf d_tf) (h_er : FnAt K "_law_error_of" sErr f_er d_er) (h_rd : FnAt K "_law_read" sRead f_rd d_rd) (h_hs : FnAt K "_law_house" sHouseF f_hs d_hs)
    (gl : PySem.W.nsIn K mainGlobals "law" = some (some (.ref fl))) (ll : K.lookup fl = some ⟨ocl, odl, .func (PySem.W.fnOf "law" "law" (defArgs sLaw) (defBody sLaw) (defScope sLaw) .none kVl docl pml anl (.ref cL) ctl), osl⟩) (lc : PySem.W.codeIn K (.ref cL) "law" = true)
    (tabE : h.get? Pt = some { cls := .none, data := .fields #[] }) (hC : PySem.W.codeHdIn K cL Pt = true) (nP' : K.lookup Pt = none)
    (e_i : ErrAt K "InvalidHouse" "InvalidHouse.__init__" sIHInit C_i f_i d_i) (np : PySem.W.findIn K (.ref C_i) "part" = some none) (ni : PySem.W.findIn K (.ref C_i) "index" = some none) (nc : PySem.W.findIn K (.ref C_i) "place" = some none)
    (e_t : ErrAt K "TextFault" "TextFault.__init__" sTFInit C_t f_t d_t) (nl : PySem.W.findIn K (.ref C_t) "line" = some none)
    (hE : PySem.W.nsIn K mainGlobals "HouseError" = some (some (.ref CE))) (x1 : PySem.W.subIn K (.ref CE) (.type "BaseException") = some true) (x2 : PySem.W.hasDictIn K CE = true) (x3 : PySem.W.typeIn K (.ref CE) = some (.type "type"))
    (k0 : ClsAt K "InvalidTick" c0) (k1 : ClsAt K "UnknownPerson" c1) (k2 : ClsAt K "InvalidLimit" c2) (k3 : ClsAt K "DifferentHouses" c3) (k4 : ClsAt K "InvalidWaiting" c4) (k5 : ClsAt K "Contradiction" c5) (k6 : ClsAt K "InvalidName" c6) (k7 : ClsAt K "UnknownName" c7) (k8 : ClsAt K "InvalidHouse" C_i) (k9 : ClsAt K "TextFault" C_t) (k10 : ClsAt K "InvalidCode" c10) (k11 : ClsAt K "InvalidOperation" c11)
    (si : SubAt K CE C_i) (st : SubAt K CE C_t)
    (a0 : PySem.W.subIn K (.ref C_i) (.ref c0) = some false) (a1 : PySem.W.subIn K (.ref C_i) (.ref c1) = some false) (a2 : PySem.W.subIn K (.ref C_i) (.ref c2) = some false) (a3 : PySem.W.subIn K (.ref C_i) (.ref c3) = some false) (a4 : PySem.W.subIn K (.ref C_i) (.ref c4) = some false) (a5 : PySem.W.subIn K (.ref C_i) (.ref c5) = some false) (a6 : PySem.W.subIn K (.ref C_i) (.ref c6) = some false) (a7 : PySem.W.subIn K (.ref C_i) (.ref c7) = some false) (a9 : PySem.W.subIn K (.ref C_i) (.ref C_t) = some false) (a10 : PySem.W.subIn K (.ref C_i) (.ref c10) = some false) (a11 : PySem.W.subIn K (.ref C_i) (.ref c11) = some false)
    (b0 : PySem.W.subIn K (.ref C_t) (.ref c0) = some false) (b1 : PySem.W.subIn K (.ref C_t) (.ref c1) = some false) (b2 : PySem.W.subIn K (.ref C_t) (.ref c2) = some false) (b3 : PySem.W.subIn K (.ref C_t) (.ref c3) = some false) (b4 : PySem.W.subIn K (.ref C_t) (.ref c4) = some false) (b5 : PySem.W.subIn K (.ref C_t) (.ref c5) = some false) (b6 : PySem.W.subIn K (.ref C_t) (.ref c6) = some false) (b7 : PySem.W.subIn K (.ref C_t) (.ref c7) = some false) (b8 : PySem.W.subIn K (.ref C_t) (.ref C_i) = some false) (b10 : PySem.W.subIn K (.ref C_t) (.ref c10) = some false) (b11 : PySem.W.subIn K (.ref C_t) (.ref c11) = some false)
    (m0 : C_i ≠ c0) (m1 : C_i ≠ c1) (m2 : C_i ≠ c2) (m3 : C_i ≠ c3) (m4 : C_i ≠ c4) (m5 : C_i ≠ c5) (m6 : C_i ≠ c6) (m7 : C_i ≠ c7) (m9 : C_i ≠ C_t) (m10 : C_i ≠ c10) (m11 : C_i ≠ c11)
    (o0 : C_t ≠ c0) (o1 : C_t ≠ c1) (o2 : C_t ≠ c2) (o3 : C_t ≠ c3) (o4 : C_t ≠ c4) (o5 : C_t ≠ c5) (o6 : C_t ≠ c6) (o7 : C_t ≠ c7) (o8 : C_t ≠ C_i) (o10 : C_t ≠ c10) (o11 : C_t ≠ c11)
    (hh : HouAt K CH mc fH gP pP gT pT d_h d_p d_x dvs)
    (q1 : TupAt K "TABLE_LENGTHS" (tabLens.map V.int)) (q2 : TupAt K "LINE_WORDS" (lineWords.map V.str)) (q3 : IntAt K "MOST_PERSONS" 6) (q4 : IntAt K "MOST_KEYS" 9) (q5 : IntAt K "MOST_REMINDERS" 10) (q6 : StrAt K "LETTERS" hoS) (q7 : StrAt K "DIGITS" digS)
    (zl : PySem.W.nsIn K mainGlobals "lcm" = some (some (.builtin "math.lcm")))
    (z_abs : PySem.W.nsIn K mainGlobals "abs" = some none) (z_len : PySem.W.nsIn K mainGlobals "len" = some none) (z_range : PySem.W.nsIn K mainGlobals "range" = some none) (z_tuple : PySem.W.nsIn K mainGlobals "tuple" = some none) (z_enumerate : PySem.W.nsIn K mainGlobals "enumerate" = some none) (z_isinstance : PySem.W.nsIn K mainGlobals "isinstance" = some none) (z_int : PySem.W.nsIn K mainGlobals "int" = some none) (z_bool : PySem.W.nsIn K mainGlobals "bool" = some none) (z_str : PySem.W.nsIn K mainGlobals "str" = some none) (z_all : PySem.W.nsIn K mainGlobals "all" = some none) (z_ValueError : PySem.W.nsIn K mainGlobals "ValueError" = some none) :
    LamX.LawAtS l w K CX0 11 63 "_law_script" mg fa h := by
  have e := hfa.symm.trans (PySem.W.mg_of X G gl)
  cases e
  have g_ii := PySem.W.mg_of X G h_ii.g
  have b_ii := h_ii.F.binds (ps := ["value"]) fun _ _ _ _ _ _ us hl => match us, hl with | [_], _ => rfl
  have g_ib := PySem.W.mg_of X G h_ib.g
  have b_ib := h_ib.F.binds (ps := ["value", "limit"]) fun _ _ _ _ _ _ us hl => match us, hl with | [_, _], _ => rfl
  have g_pe := PySem.W.mg_of X G h_pe.g
  have b_pe := h_pe.F.binds (ps := ["tables"]) fun _ _ _ _ _ _ us hl => match us, hl with | [_], _ => rfl
  have g_ct := PySem.W.mg_of X G h_ct.g
  have b_ct := h_ct.F.binds (ps := ["tables"]) fun _ _ _ _ _ _ us hl => match us, hl with | [_], _ => rfl
  have g_ck := PySem.W.mg_of X G h_ck.g
  have b_ck := h_ck.F.binds (ps := ["keys"]) fun _ _ _ _ _ _ us hl => match us, hl with | [_], _ => rfl
  have g_cc := PySem.W.mg_of X G h_cc.g
  have b_cc := h_cc.F.binds (ps := ["careful", "persons"]) fun _ _ _ _ _ _ us hl => match us, hl with | [_, _], _ => rfl
  have g_cr := PySem.W.mg_of X G h_cr.g
  have b_cr := h_cr.F.binds (ps := ["reminders", "period", "persons"]) fun _ _ _ _ _ _ us hl => match us, hl with | [_, _, _], _ => rfl
  have g_it := PySem.W.mg_of X G h_it.g
  have b_it := h_it.F.binds (ps := ["table"]) fun _ _ _ _ _ _ us hl => match us, hl with | [_], _ => rfl
  have g_ir := PySem.W.mg_of X G h_ir.g
  have b_ir := h_ir.F.binds (ps := ["reminder", "period", "persons"]) fun _ _ _ _ _ _ us hl => match us, hl with | [_, _, _], _ => rfl
  have g_as := PySem.W.mg_of X G h_as.g
  have b_as := h_as.F.binds (ps := ["items", "index"]) fun _ _ _ _ _ _ us hl => match us, hl with | [_, _], _ => rfl
  have g_ho := PySem.W.mg_of X G h_ho.g
  have b_ho := h_ho.F.binds (ps := ["word", "characters"]) fun _ _ _ _ _ _ us hl => match us, hl with | [_, _], _ => rfl
  have g_sp := PySem.W.mg_of X G h_sp.g
  have b_sp := h_sp.F.binds (ps := ["text"]) fun _ _ _ _ _ _ us hl => match us, hl with | [_], _ => rfl
  have g_aa := PySem.W.mg_of X G h_aa.g
  have b_aa := h_aa.F.binds (ps := ["word", "rest"]) fun _ _ _ _ _ _ us hl => match us, hl with | [_, _], _ => rfl
  have g_tw := PySem.W.mg_of X G h_tw.g
  have b_tw := h_tw.F.binds (ps := ["word"]) fun _ _ _ _ _ _ us hl => match us, hl with | [_], _ => rfl
  have g_nw := PySem.W.mg_of X G h_nw.g
  have b_nw := h_nw.F.binds (ps := ["word"]) fun _ _ _ _ _ _ us hl => match us, hl with | [_], _ => rfl
  have g_rw := PySem.W.mg_of X G h_rw.g
  have b_rw := h_rw.F.binds (ps := ["word"]) fun _ _ _ _ _ _ us hl => match us, hl with | [_], _ => rfl
  have g_rn := PySem.W.mg_of X G h_rn.g
  have b_rn := h_rn.F.binds (ps := ["words"]) fun _ _ _ _ _ _ us hl => match us, hl with | [_], _ => rfl
  have g_rr := PySem.W.mg_of X G h_rr.g
  have b_rr := h_rr.F.binds (ps := ["words"]) fun _ _ _ _ _ _ us hl => match us, hl with | [_], _ => rfl
  have g_kl := PySem.W.mg_of X G h_kl.g
  have b_kl := h_kl.F.binds (ps := ["keys"]) fun _ _ _ _ _ _ us hl => match us, hl with | [_], _ => rfl
  have g_cl := PySem.W.mg_of X G h_cl.g
  have b_cl := h_cl.F.binds (ps := ["careful"]) fun _ _ _ _ _ _ us hl => match us, hl with | [_], _ => rfl
  have g_rl := PySem.W.mg_of X G h_rl.g
  have b_rl := h_rl.F.binds (ps := ["reminders"]) fun _ _ _ _ _ _ us hl => match us, hl with | [_], _ => rfl
  have g_ra := PySem.W.mg_of X G h_ra.g
  have b_ra := h_ra.F.binds (ps := ["_law_script", "_law_salt"]) fun _ _ _ _ _ _ us hl => match us, hl with | [_, _], _ => rfl
  have g_be := PySem.W.mg_of X G h_be.g
  have b_be := h_be.F.binds (ps := ["_law_d", "_law_limit"]) fun _ _ _ _ _ _ us hl => match us, hl with | [_, _], _ => rfl
  have g_lt := PySem.W.mg_of X G h_lt.g
  have b_lt := h_lt.F.binds (ps := ["_law_word"]) fun _ _ _ _ _ _ us hl => match us, hl with | [_], _ => rfl
  have g_ln := PySem.W.mg_of X G h_ln.g
  have b_ln := h_ln.F.binds (ps := ["_law_word"]) fun _ _ _ _ _ _ us hl => match us, hl with | [_], _ => rfl
  have g_lr := PySem.W.mg_of X G h_lr.g
  have b_lr := h_lr.F.binds (ps := ["_law_word"]) fun _ _ _ _ _ _ us hl => match us, hl with | [_], _ => rfl
  have g_tf := PySem.W.mg_of X G h_tf.g
  have b_tf := h_tf.F.binds (ps := ["_law_rows"]) fun _ _ _ _ _ _ us hl => match us, hl with | [_], _ => rfl
  have g_er := PySem.W.mg_of X G h_er.g
  have b_er := h_er.F.binds (ps := ["_law_call"]) fun _ _ _ _ _ _ us hl => match us, hl with | [_], _ => rfl
  have g_rd := PySem.W.mg_of X G h_rd.g
  have b_rd := h_rd.F.binds (ps := ["_law_words"]) fun _ _ _ _ _ _ us hl => match us, hl with | [_], _ => rfl
  have g_hs := PySem.W.mg_of X G h_hs.g
  have b_hs := h_hs.F.binds (ps := ["_law_parts"]) fun _ _ _ _ _ _ us hl => match us, hl with | [_], _ => rfl
  have y_abs := PySem.W.mg_none_of X G z_abs
  have y_len := PySem.W.mg_none_of X G z_len
  have y_range := PySem.W.mg_none_of X G z_range
  have y_tuple := PySem.W.mg_none_of X G z_tuple
  have y_enumerate := PySem.W.mg_none_of X G z_enumerate
  have y_isinstance := PySem.W.mg_none_of X G z_isinstance
  have y_int := PySem.W.mg_none_of X G z_int
  have y_bool := PySem.W.mg_none_of X G z_bool
  have y_str := PySem.W.mg_none_of X G z_str
  have y_all := PySem.W.mg_none_of X G z_all
  have y_ValueError := PySem.W.mg_none_of X G z_ValueError
  have b_i := e_i.F.binds (ps := ["self", "part", "index"]) fun _ _ _ _ _ _ us hl => match us, hl with | [_, _, _], _ => rfl
  have b_t := e_t.F.binds (ps := ["self", "line"]) fun _ _ _ _ _ _ us hl => match us, hl with | [_, _], _ => rfl
  have b_p := hh.FP.binds (ps := ["cls", "text"]) fun _ _ _ _ _ _ us hl => match us, hl with | [_, _], _ => rfl
  have b_x := hh.FT.binds (ps := ["self"]) fun _ _ _ _ _ _ us hl => match us, hl with | [_], _ => rfl
  have b_h : Binds K d_h ["self", "tables", "keys", "careful", "reminders"] [] := by
    have hq := hh.FH.binds1 (ps := ["self", "tables", "keys", "careful", "reminders"]) 5 2 (fun q => by have := hh.two; rw [q] at this; cases this) (by rw [hh.two]; rfl)
      (fun T kV doc pm an cdv ct us its hl hi => by
        rw [hh.two] at hi
        match us, hl, its, hi with
        | [_, _, _, _, _], _, [_, _], _ => exact ⟨_, rfl, rfl⟩)
    obtain ⟨ds, hv, hb⟩ := hq
    rw [show dvs.drop 2 = [] from List.drop_of_length_le (by rw [hh.two]; exact Nat.le_refl _)] at hv
    cases hv
    exact hb
  obtain ⟨a1', g1, w1⟩ := q1
  obtain ⟨a2', g2, w2⟩ := q2
  obtain ⟨t3, g3⟩ := q3
  obtain ⟨t4, g4⟩ := q4
  obtain ⟨t5, g5⟩ := q5
  obtain ⟨t6, g6⟩ := q6
  obtain ⟨t7, g7⟩ := q7
  have TA : TxtA mg := { abs := y_abs, len := y_len, range := y_range }
  have TC : TxtC mg := { lcm := PySem.W.mg_of X G zl }
  have TF : TxtF K mg f_ii f_ib f_ho d_ii d_ib d_ho := { isinstance := y_isinstance, int := y_int, bool := y_bool, str := y_str, tuple := y_tuple, all := y_all, gII := g_ii, FII := h_ii.F, bII := b_ii, gIB := g_ib, FIB := h_ib.F, bIB := b_ib, gHO := g_ho, FHO := h_ho.F, bHO := b_ho, letters := ⟨t6, PySem.W.mg_of X G g6⟩, lengths := ⟨a1', PySem.W.mg_of X G g1, w1⟩ }
  have TI : TxtI K mg f_it f_ir f_as d_it d_ir d_as := { enumerate := y_enumerate, most := ⟨t3, PySem.W.mg_of X G g3⟩, keys := ⟨t4, PySem.W.mg_of X G g4⟩, rems := ⟨t5, PySem.W.mg_of X G g5⟩, gIT := g_it, FIT := h_it.F, bIT := b_it, gIR := g_ir, FIR := h_ir.F, bIR := b_ir, gAs := g_as, FAs := h_as.F, bAs := b_as }
  have TH : TxtIH K mg C_i f_i d_i := { gC := PySem.W.mg_of X G e_i.g, O := e_i.O, iC := e_i.i, tI := e_i.t, F := e_i.F, b := b_i, nP := np, nI := ni }
  have TT : TxtTF K mg C_t f_t d_t := { gC := PySem.W.mg_of X G e_t.g, O := e_t.O, iC := e_t.i, tI := e_t.t, F := e_t.F, b := b_t, nL := nl }
  have TL' : TxtL K mg CH f_pe f_ct f_ck f_cc f_cr d_pe d_ct d_ck d_cc d_cr := { cl := hh.cl, nT := hh.nT, nK := hh.nK, nC := hh.nC, nR := hh.nR, gP := g_pe, FP := h_pe.F, bP := b_pe, gT := g_ct, FT := h_ct.F, bT := b_ct, gK := g_ck, FK := h_ck.F, bK := b_ck, gCa := g_cc, FC := h_cc.F, bC := b_cc, gR := g_cr, FR := h_cr.F, bR := b_cr }
  have TM : TxtM K mg f_tw f_nw f_rw d_tw d_nw d_rw := { digits := ⟨t7, PySem.W.mg_of X G g7⟩, gTW := g_tw, FTW := h_tw.F, bTW := b_tw, gNW := g_nw, FNW := h_nw.F, bNW := b_nw, gRW := g_rw, FRW := h_rw.F, bRW := b_rw }
  have TO : TxtO K mg f_aa d_aa := { gAA := g_aa, FAA := h_aa.F, bAA := b_aa, words := ⟨a2', PySem.W.mg_of X G g2, w2⟩ }
  have TS : TxtT K mg f_sp f_rr d_sp d_rr := { gS := g_sp, FS := h_sp.F, bS := b_sp, gRR := g_rr, FRR := h_rr.F, bRR := b_rr, rn := ⟨_, _, g_rn, h_rn.F, b_rn⟩ }
  have TN3 : TxtN3 K mg f_ln d_ln := { gN := g_ln, FN := h_ln.F, bN := b_ln }
  have TL3 : TxtL3 K mg f_lt f_lr d_lt d_lr := { gT := g_lt, FT := h_lt.F, bT := b_lt, gR := g_lr, FR := h_lr.F, bR := b_lr }
  have NN : TxtN mg (fun i => [c0, c1, c2, c3, c4, c5, c6, c7, C_i, C_t, c10, c11].getD i 0) CE := { gE := PySem.W.mg_of X G hE, n0 := PySem.W.mg_of X G k0.g, n1 := PySem.W.mg_of X G k1.g, n2 := PySem.W.mg_of X G k2.g, n3 := PySem.W.mg_of X G k3.g, n4 := PySem.W.mg_of X G k4.g, n5 := PySem.W.mg_of X G k5.g, n6 := PySem.W.mg_of X G k6.g, n7 := PySem.W.mg_of X G k7.g, n8 := PySem.W.mg_of X G k8.g, n9 := PySem.W.mg_of X G k9.g, n10 := PySem.W.mg_of X G k10.g, n11 := PySem.W.mg_of X G k11.g, vE := y_ValueError, isi := y_isinstance }
  have KI : ErrKit K (fun i => [c0, c1, c2, c3, c4, c5, c6, c7, C_i, C_t, c10, c11].getD i 0) CE C_i 8 := by
    refine ⟨fun i hi => ?_, kit_ve si.v, PySem.W.exm_ref x1 x2 x3 si.e, si.C⟩
    match i, hi with
    | 0, _ => exact kit_no k0 m0 a0
    | 1, _ => exact kit_no k1 m1 a1
    | 2, _ => exact kit_no k2 m2 a2
    | 3, _ => exact kit_no k3 m3 a3
    | 4, _ => exact kit_no k4 m4 a4
    | 5, _ => exact kit_no k5 m5 a5
    | 6, _ => exact kit_no k6 m6 a6
    | 7, _ => exact kit_no k7 m7 a7
    | 8, _ => exact kit_self
    | 9, _ => exact kit_no k9 m9 a9
    | 10, _ => exact kit_no k10 m10 a10
    | 11, _ => exact kit_no k11 m11 a11
  have KT : ErrKit K (fun i => [c0, c1, c2, c3, c4, c5, c6, c7, C_i, C_t, c10, c11].getD i 0) CE C_t 9 := by
    refine ⟨fun i hi => ?_, kit_ve st.v, PySem.W.exm_ref x1 x2 x3 st.e, st.C⟩
    match i, hi with
    | 0, _ => exact kit_no k0 o0 b0
    | 1, _ => exact kit_no k1 o1 b1
    | 2, _ => exact kit_no k2 o2 b2
    | 3, _ => exact kit_no k3 o3 b3
    | 4, _ => exact kit_no k4 o4 b4
    | 5, _ => exact kit_no k5 o5 b5
    | 6, _ => exact kit_no k6 o6 b6
    | 7, _ => exact kit_no k7 o7 b7
    | 8, _ => exact kit_no k8 o8 b8
    | 9, _ => exact kit_self
    | 10, _ => exact kit_no k10 o10 b10
    | 11, _ => exact kit_no k11 o11 b11
  have XF : XFs K C_i C_t := ⟨⟨si.C.hg, si.C.hk, si.C.hs, si.C.hd⟩, ⟨st.C.hg, st.C.hk, st.C.hs, st.C.hd⟩, np, ni, nl, nc⟩
  have gHo := PySem.W.mg_of X G hh.g
  have Z : ∀ base : Heap, LamX.TabB base mg cL Pt → Kit15 l.prog w K mg base cL Pt CH C_i C_t CE mc (fun i => [c0, c1, c2, c3, c4, c5, c6, c7, C_i, C_t, c10, c11].getD i 0) f_ra f_be f_tf f_rd f_hs f_er pP gP pT gT d_ra d_be d_tf d_rd d_hs d_er d_x := fun base hTB =>
    { T := TA, tuple := y_tuple, int := y_int,
      Ra := ⟨ok_random h_ra.F TA, g_ra, h_ra.F.kp, b_ra⟩, B := ⟨ok_below h_be.F TA, g_be, h_be.F.kp, b_be⟩, F := ⟨ok_fault h_tf.F TA TN3 TL3, g_tf, h_tf.F.kp, b_tf⟩, Rd := ⟨ok_read h_rd.F TF, g_rd, h_rd.F.kp, b_rd⟩,
      Ho := ⟨ok_housex h_hs.F TA TC TF TI TH TL' hh.FH b_h hh.M gHo, g_hs, h_hs.F.kp, b_hs⟩, gErr := g_er, FErr := h_er.F, bErr := b_er, gH := gHo, cl := hh.cl, rd := hh.rd, cm := hh.cm,
      GP := ((ok_parse hh.FP TA TC TF TI TH TL' TM TT TO TS hh.FH b_h hh.M).raw b_p .nil).imp fun vs H Q E h => by rw [List.append_nil]; exact h,
      po := hh.po, GT := ok_text hh.FT TL' { kl := ⟨_, _, g_kl, h_kl.F, b_kl⟩, cl := ⟨_, _, g_cl, h_cl.F, b_cl⟩, rl := ⟨_, _, g_rl, h_rl.F, b_rl⟩, str := y_str }, bT := b_x, N := NN, EI := KI, ET := KT, XF := XF, TB := hTB }
  refine ⟨PySem.W.fnOf "law" "law" (defArgs sLaw) (defBody sLaw) (defScope sLaw) .none kVl docl pml anl (.ref cL) ctl, [(cL, Pt)], spLaw K Pt, fun p hp => ?_, fun p hp => ?_, fun p hp => ?_, fun s u => .of_eq rfl, fun H a ns hl _ hT hS => ?_, fun base hb hg hTB => ?_⟩
  · rw [List.mem_singleton.mp hp]; exact tabE
  · rw [List.mem_singleton.mp hp]; exact nP'
  · rw [List.mem_singleton.mp hp]; exact PySem.W.codeHd_of_K X hC
  · exact ⟨a, ns, rfl, hS, hl, fun p hp => by rw [List.mem_singleton.mp hp]; exact LamX.TabS.nil (hT _ (List.mem_singleton.mpr rfl)), fun _ => rfl⟩
  · exact ok_law15 ⟨⟨_, _, _, _, _, _, _, _, rfl, ll, lc⟩⟩ (Z base (hTB _ (List.mem_singleton.mpr rfl)))
end Dk
open PySem PySem.W PyProof.Rows
set_option Elab.async false
set_option maxRecDepth 100000 in
set_option maxHeartbeats 0 in
open_top hd for PySem.Challenge.rw_doorkeys_k15_invalid_texts
set_option Elab.async false
set_option linter.all false
open PySem PySem.W PyProof.Rows
set_option maxRecDepth 100000 in
set_option maxHeartbeats 0 in
theorem PySem.Challenge.cw_doorkeys_k15_invalid_texts_holds : PySem.Challenge.rw_doorkeys_k15_invalid_texts.Holds :=
  hd (by
  k_fill
  refine LamX.walk_ofTs (l := PySem.Challenge.rw_doorkeys_k15_invalid_texts) (n := 63) (k := 11) (x := "_law_script") (CX := fun _ => L2.CX0) rfl (by decide) rfl ⟨rfl, by decide, by decide⟩ (fun w h Y => PySem.W.km_in_of Y) ?F (fun _ _ _ _ _ z => z)
  case F =>
    intro w mg fa h Y KX G hmg
    refine' Dk.all_mk15 KX G hmg ?h_ii ?h_ib ?h_pe ?h_ct ?h_ck ?h_cc ?h_cr ?h_it ?h_ir ?h_as ?h_ho ?h_sp ?h_aa ?h_tw ?h_nw ?h_rw ?h_rn ?h_rr ?h_kl ?h_cl ?h_rl ?h_ra ?h_be ?h_lt ?h_ln ?h_lr ?h_tf ?h_er ?h_rd ?h_hs ?gl ?ll ?lc ?tabE ?hC ?nPx ?e_i ?np ?ni ?nc ?e_t ?nl ?hE ?x1 ?x2 ?x3 ?k0 ?k1 ?k2 ?k3 ?k4 ?k5 ?k6 ?k7 ?k8 ?k9 ?k10 ?k11 ?si ?st ?a0 ?a1 ?a2 ?a3 ?a4 ?a5 ?a6 ?a7 ?a9 ?a10 ?a11 ?b0 ?b1 ?b2 ?b3 ?b4 ?b5 ?b6 ?b7 ?b8 ?b10 ?b11 ?m0 ?m1 ?m2 ?m3 ?m4 ?m5 ?m6 ?m7 ?m9 ?m10 ?m11 ?o0 ?o1 ?o2 ?o3 ?o4 ?o5 ?o6 ?o7 ?o8 ?o10 ?o11 ?hh ?q1 ?q2 ?q3 ?q4 ?q5 ?q6 ?q7 ?zl ?z_abs ?z_len ?z_range ?z_tuple ?z_enumerate ?z_isinstance ?z_int ?z_bool ?z_str ?z_all ?z_ValueError
    (case h_ii => refine' Dk.fnAt_mk ?a ?l ?c ?k; (case a => k_is); (case l => k_is); (case c => k_is); (case k => k_is))
    (case h_ib => refine' Dk.fnAt_mk ?a ?l ?c ?k; (case a => k_is); (case l => k_is); (case c => k_is); (case k => k_is))
    (case h_pe => refine' Dk.fnAt_mk ?a ?l ?c ?k; (case a => k_is); (case l => k_is); (case c => k_is); (case k => k_is))
    (case h_ct => refine' Dk.fnAt_mk ?a ?l ?c ?k; (case a => k_is); (case l => k_is); (case c => k_is); (case k => k_is))
    (case h_ck => refine' Dk.fnAt_mk ?a ?l ?c ?k; (case a => k_is); (case l => k_is); (case c => k_is); (case k => k_is))
    (case h_cc => refine' Dk.fnAt_mk ?a ?l ?c ?k; (case a => k_is); (case l => k_is); (case c => k_is); (case k => k_is))
    (case h_cr => refine' Dk.fnAt_mk ?a ?l ?c ?k; (case a => k_is); (case l => k_is); (case c => k_is); (case k => k_is))
    (case h_it => refine' Dk.fnAt_mk ?a ?l ?c ?k; (case a => k_is); (case l => k_is); (case c => k_is); (case k => k_is))
    (case h_ir => refine' Dk.fnAt_mk ?a ?l ?c ?k; (case a => k_is); (case l => k_is); (case c => k_is); (case k => k_is))
    (case h_as => refine' Dk.fnAt_mk ?a ?l ?c ?k; (case a => k_is); (case l => k_is); (case c => k_is); (case k => k_is))
    (case h_ho => refine' Dk.fnAt_mk ?a ?l ?c ?k; (case a => k_is); (case l => k_is); (case c => k_is); (case k => k_is))
    (case h_sp => refine' Dk.fnAt_mk ?a ?l ?c ?k; (case a => k_is); (case l => k_is); (case c => k_is); (case k => k_is))
    (case h_aa => refine' Dk.fnAt_mk ?a ?l ?c ?k; (case a => k_is); (case l => k_is); (case c => k_is); (case k => k_is))
    (case h_tw => refine' Dk.fnAt_mk ?a ?l ?c ?k; (case a => k_is); (case l => k_is); (case c => k_is); (case k => k_is))
    (case h_nw => refine' Dk.fnAt_mk ?a ?l ?c ?k; (case a => k_is); (case l => k_is); (case c => k_is); (case k => k_is))
    (case h_rw => refine' Dk.fnAt_mk ?a ?l ?c ?k; (case a => k_is); (case l => k_is); (case c => k_is); (case k => k_is))
    (case h_rn => refine' Dk.fnAt_mk ?a ?l ?c ?k; (case a => k_is); (case l => k_is); (case c => k_is); (case k => k_is))
    (case h_rr => refine' Dk.fnAt_mk ?a ?l ?c ?k; (case a => k_is); (case l => k_is); (case c => k_is); (case k => k_is))
    (case h_kl => refine' Dk.fnAt_mk ?a ?l ?c ?k; (case a => k_is); (case l => k_is); (case c => k_is); (case k => k_is))
    (case h_cl => refine' Dk.fnAt_mk ?a ?l ?c ?k; (case a => k_is); (case l => k_is); (case c => k_is); (case k => k_is))
    (case h_rl => refine' Dk.fnAt_mk ?a ?l ?c ?k; (case a => k_is); (case l => k_is); (case c => k_is); (case k => k_is))
    (case h_ra => refine' Dk.fnAt_mk ?a ?l ?c ?k; (case a => k_is); (case l => k_is); (case c => k_is); (case k => k_is))
    (case h_be => refine' Dk.fnAt_mk ?a ?l ?c ?k; (case a => k_is); (case l => k_is); (case c => k_is); (case k => k_is))
    (case h_lt => refine' Dk.fnAt_mk ?a ?l ?c ?k; (case a => k_is); (case l => k_is); (case c => k_is); (case k => k_is))
    (case h_ln => refine' Dk.fnAt_mk ?a ?l ?c ?k; (case a => k_is); (case l => k_is); (case c => k_is); (case k => k_is))
    (case h_lr => refine' Dk.fnAt_mk ?a ?l ?c ?k; (case a => k_is); (case l => k_is); (case c => k_is); (case k => k_is))
    (case h_tf => refine' Dk.fnAt_mk ?a ?l ?c ?k; (case a => k_is); (case l => k_is); (case c => k_is); (case k => k_is))
    (case h_er => refine' Dk.fnAt_mk ?a ?l ?c ?k; (case a => k_is); (case l => k_is); (case c => k_is); (case k => k_is))
    (case h_rd => refine' Dk.fnAt_mk ?a ?l ?c ?k; (case a => k_is); (case l => k_is); (case c => k_is); (case k => k_is))
    (case h_hs => refine' Dk.fnAt_mk ?a ?l ?c ?k; (case a => k_is); (case l => k_is); (case c => k_is); (case k => k_is))
    (case gl => k_is)
    (case ll => k_is)
    (case lc => k_is)
    (case tabE => exact PySem.W.km_tabs_of Y _ (List.mem_singleton.mpr rfl))
    (case hC => first | k_is | exact rfl)
    (case nPx => first | k_is | exact rfl)
    (case e_i => refine' Dk.errAt_mk ?a ?xL ?sa ?eC ?tC ?kC ?i ?t ?l ?c ?k; (case a => k_is); (case xL => k_is); (case sa => k_is); (case eC => k_is); (case tC => k_is); (case kC => k_is); (case i => k_is); (case t => k_is); (case l => k_is); (case c => k_is); (case k => k_is))
    (case np => k_is)
    (case ni => k_is)
    (case nc => k_is)
    (case e_t => refine' Dk.errAt_mk ?a ?xL ?sa ?eC ?tC ?kC ?i ?t ?l ?c ?k; (case a => k_is); (case xL => k_is); (case sa => k_is); (case eC => k_is); (case tC => k_is); (case kC => k_is); (case i => k_is); (case t => k_is); (case l => k_is); (case c => k_is); (case k => k_is))
    (case nl => k_is)
    (case hE => k_is)
    (case x1 => k_is)
    (case x2 => k_is)
    (case x3 => k_is)
    (case k0 => refine' Dk.ClsAt.mk ?a ?b ?c; (case a => k_is); (case b => k_is); (case c => k_is))
    (case k1 => refine' Dk.ClsAt.mk ?a ?b ?c; (case a => k_is); (case b => k_is); (case c => k_is))
    (case k2 => refine' Dk.ClsAt.mk ?a ?b ?c; (case a => k_is); (case b => k_is); (case c => k_is))
    (case k3 => refine' Dk.ClsAt.mk ?a ?b ?c; (case a => k_is); (case b => k_is); (case c => k_is))
    (case k4 => refine' Dk.ClsAt.mk ?a ?b ?c; (case a => k_is); (case b => k_is); (case c => k_is))
    (case k5 => refine' Dk.ClsAt.mk ?a ?b ?c; (case a => k_is); (case b => k_is); (case c => k_is))
    (case k6 => refine' Dk.ClsAt.mk ?a ?b ?c; (case a => k_is); (case b => k_is); (case c => k_is))
    (case k7 => refine' Dk.ClsAt.mk ?a ?b ?c; (case a => k_is); (case b => k_is); (case c => k_is))
    (case k8 => refine' Dk.ClsAt.mk ?a ?b ?c; (case a => k_is); (case b => k_is); (case c => k_is))
    (case k9 => refine' Dk.ClsAt.mk ?a ?b ?c; (case a => k_is); (case b => k_is); (case c => k_is))
    (case k10 => refine' Dk.ClsAt.mk ?a ?b ?c; (case a => k_is); (case b => k_is); (case c => k_is))
    (case k11 => refine' Dk.ClsAt.mk ?a ?b ?c; (case a => k_is); (case b => k_is); (case c => k_is))
    (case si => refine' Dk.subAt_mk ?qv ?qe ?qhg ?qhk ?qhs ?qhd ?qha ?qhn ?qht ?qhm; (case qv => k_is); (case qe => k_is); (case qhg => k_is); (case qhk => k_is); (case qhs => k_is); (case qhd => k_is); (case qha => k_is); (case qhn => k_is); (case qht => k_is); (case qhm => k_is))
    (case st => refine' Dk.subAt_mk ?qv ?qe ?qhg ?qhk ?qhs ?qhd ?qha ?qhn ?qht ?qhm; (case qv => k_is); (case qe => k_is); (case qhg => k_is); (case qhk => k_is); (case qhs => k_is); (case qhd => k_is); (case qha => k_is); (case qhn => k_is); (case qht => k_is); (case qhm => k_is))
    (case a0 => k_is)
    (case a1 => k_is)
    (case a2 => k_is)
    (case a3 => k_is)
    (case a4 => k_is)
    (case a5 => k_is)
    (case a6 => k_is)
    (case a7 => k_is)
    (case a9 => k_is)
    (case a10 => k_is)
    (case a11 => k_is)
    (case b0 => k_is)
    (case b1 => k_is)
    (case b2 => k_is)
    (case b3 => k_is)
    (case b4 => k_is)
    (case b5 => k_is)
    (case b6 => k_is)
    (case b7 => k_is)
    (case b8 => k_is)
    (case b10 => k_is)
    (case b11 => k_is)
    (case m0 => decide)
    (case m1 => decide)
    (case m2 => decide)
    (case m3 => decide)
    (case m4 => decide)
    (case m5 => decide)
    (case m6 => decide)
    (case m7 => decide)
    (case m9 => decide)
    (case m10 => decide)
    (case m11 => decide)
    (case o0 => decide)
    (case o1 => decide)
    (case o2 => decide)
    (case o3 => decide)
    (case o4 => decide)
    (case o5 => decide)
    (case o6 => decide)
    (case o7 => decide)
    (case o8 => decide)
    (case o10 => decide)
    (case o11 => decide)
    (case hh => refine' Dk.houAt_mk ?qg ?qpg ?qhd ?qpo ?qsa ?qn1 ?qn2 ?qn3 ?qn4 ?qmk ?qi ?qfn ?qkc ?qlH ?qcH ?qkH ?qlT ?qrd ?qga ?qcmA ?qcmR ?qcmF ?qlP ?qcP ?qkP ?qpA ?qpG ?qpK ?qpR ?qlX ?qcX ?qkX; (case qg => k_is); (case qpg => k_is); (case qhd => k_is); (case qpo => k_is); (case qsa => k_is); (case qn1 => k_is); (case qn2 => k_is); (case qn3 => k_is); (case qn4 => k_is); (case qmk => k_is); (case qi => k_is); (case qfn => k_is); (case qkc => k_is); (case qlH => k_is); (case qcH => k_is); (case qkH => k_is); (case qlT => k_is); (case qrd => k_is); (case qga => k_is); (case qcmA => k_is); (case qcmR => k_is); (case qcmF => k_is); (case qlP => k_is); (case qcP => k_is); (case qkP => k_is); (case qpA => k_is); (case qpG => k_is); (case qpK => k_is); (case qpR => k_is); (case qlX => k_is); (case qcX => k_is); (case qkX => k_is))
    (case q1 => refine' Dk.tupAt_mk ?a ?b ?z ?v; (case a => k_is); (case b => k_is); (case z => decide); (case v => repeat (first | exact .nil | refine .cons rfl ?_ | refine .cons ⟨_, rfl⟩ ?_)))
    (case q2 => refine' Dk.tupAt_mk ?a ?b ?z ?v; (case a => k_is); (case b => k_is); (case z => decide); (case v => repeat (first | exact .nil | refine .cons rfl ?_ | refine .cons ⟨_, rfl⟩ ?_)))
    (case q3 => refine' Dk.intAt_mk ?a; (case a => k_is))
    (case q4 => refine' Dk.intAt_mk ?a; (case a => k_is))
    (case q5 => refine' Dk.intAt_mk ?a; (case a => k_is))
    (case q6 => refine' Dk.strAt_mk ?a; (case a => k_is))
    (case q7 => refine' Dk.strAt_mk ?a; (case a => k_is))
    (case zl => k_is)
    (case z_abs => k_is)
    (case z_len => k_is)
    (case z_range => k_is)
    (case z_tuple => k_is)
    (case z_enumerate => k_is)
    (case z_isinstance => k_is)
    (case z_int => k_is)
    (case z_bool => k_is)
    (case z_str => k_is)
    (case z_all => k_is)
    (case z_ValueError => k_is)
    )
