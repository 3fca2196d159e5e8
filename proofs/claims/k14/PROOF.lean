import PyProof.Rows.All
import Wide.All
import OpenK.AllK
import Wide.FinOn
import HandS.Iter
import HandS.Walk
import KE.GoesEnum
import HandS.List
import HandS.NoneIn
import KE.KUnpackStar
import HandS.Base
import HandS.Call
import HandS.Comp
import HandS.Dict
import HandS.Text
import HandS.More
import HandS.Ends
import HandS.Words
import HandS.Defaults
import HandS.Gcd
import KE.KMathG
import HandS.Deep
import HandS.SortRule
import HandS.IsInst
import HandS.WordsExc
import HandS.ExcInit
import HandS.Star
import HandS.FStr
import HandS.Property
import HandS.ClsMeth
import PySem.Challenge.RW_doorkeys_k14_texts_of_houses
set_option Elab.async false
set_option linter.all false
set_option maxRecDepth 100000
set_option maxHeartbeats 4000000
/-! enumerate(tuple) -/
namespace Dk
open PySem PySem.Spec PyProof.Rows L2
theorem meets_enumB {v : Value} {o : Obj} {H : Heap → Prop} (B : Begins v o H) :
    Meets (Builtin.«enumerate.__new__» ⟨[.type "enumerate", v], []⟩) (fun _ R s => H s.heap ∧
      R (.ok (.ret (.ref (s.heap.push o).objs.size))) { s with heap := (s.heap.push o).push { cls := .type "enumerate", data := .fields #[.none, .bool false, .ref s.heap.objs.size, rawInt 0, .none, .none] } }) :=
  .of_wp fun prog w A R s h => by
    obtain ⟨hh, hR⟩ := h
    cases s with
    | mk h0 g0 d0 t0 o0 =>
      have _ := sub_enumerate
      have begin_ {A1 : Around} {E1 Q1 : Value → Shared → Prop} (q : Q1 (.ref h0.objs.size) ⟨h0.push o, g0, d0, t0, o0⟩) : wpAny (model prog w) A1 (pyIter v) Q1 E1 ⟨h0, g0, d0, t0, o0⟩ := B.iter prog w _ _ _ _ hh q
      (wp_walk using begin_); refine wpAny_stack_any fun _ => ?_
      refine wpAny_pure ?_
      split
      next c _ _ _ _ _ => cases (c == Value.type "enumerate") <;> (wp_walk using begin_) <;> exact ⟨_, rfl, hR⟩
      next => (wp_walk using begin_); exact ⟨_, rfl, hR⟩
section
variable {prog : Program} {w : World} {A : Around} {E : Value → Shared → Prop} {s : Shared}
theorem enum_beginsB {v : Value} {o : Obj} {H : Heap → Prop} {Q : Value → Shared → Prop} (B : Begins v o H) (h1 : H s.heap)
    (h : ∀ h', IsEnum h' (s.heap.objs.size + 1) s.heap.objs.size 0 .none → h'.get? s.heap.objs.size = some o → h'.objs.size = s.heap.objs.size + 2 →
      (∀ b o, s.heap.get? b = some o → h'.get? b = some o) → Q (.ref (s.heap.objs.size + 1)) { s with heap := h' }) :
    wpAny (model prog w) A (call (.type "enumerate") [v]) Q E s := by
  refine callType_new F.called_enumerate (by decide) (F.typeCall_enumerate_1 _) (F.newCall_enumerate_1 _) (fun obj => F.args_object_init_2 obj _) F.entry_enumerate_new
    (meets_enumB B) ⟨h1, ?_⟩
  have hzz : (s.heap.push o).objs.size = s.heap.objs.size + 1 := Heap.size_push ..
  show _ ∧ _
  rw [hzz]
  have he : IsEnum ((s.heap.push o).push { cls := .type "enumerate", data := .fields #[.none, .bool false, .ref s.heap.objs.size, rawInt 0, .none, .none] }) (s.heap.objs.size + 1) s.heap.objs.size 0 .none := by
    have := Heap.get?_push_size (s.heap.push o) (o := { cls := .type "enumerate", data := .fields #[.none, .bool false, .ref s.heap.objs.size, rawInt 0, .none, .none] }) rfl
    rw [hzz] at this; exact this
  refine ⟨⟨_, he, rfl⟩, h _ he (Heap.get?_push_of_some _ (Heap.get?_push_size _ B.free)) (by rw [Heap.size_push, hzz]) fun b o x => Heap.get?_push_of_some _ (Heap.get?_push_of_some _ x)⟩
end
/-- the tuple at a, each item in a nw pair -/
def IteT (K : PySem.W.Frag) (a : Addr) : It :=
  ⟨fun i H => ∃ (xs : List V) (x : V), SqT K H a xs ∧ xs[i]? = some x, fun i H v H' => ∃ T x, v = .ref T ∧ H T = none ∧ H' = upd H T (.tup [.int (i : Nat), x]) ∧ ∀ xs, SqT K H a xs → xs[i]? = some x, fun i H => ∃ xs : List V, SqT K H a xs ∧ xs.length = i⟩
theorem turn_enumT {P : Program} {w : World} {K : PySem.W.Frag} {elts : List Expr} {kk : Nat} {tpos : Pos} (a e it : Addr) :
    Turn P w K (.Tuple elts kk tpos) (IteT K a) [e, it] e (fun i h => (∃ was, IsEnum h e it ((i : Nat) : Int) was) ∧ h.IsTupleIter it a i ∧ e ≠ it ∧ a ≠ it ∧ a ≠ e) where
  mem := by simp
  obj := fun i h stt b hb => by
    obtain ⟨⟨was, he⟩, ⟨o, hob, hcl, hd⟩, _⟩ := stt
    have ee : b = e ∨ b = it := by simpa using hb
    rcases ee with z | z
    · rw [z]; exact ⟨_, he, fun v q => nomatch q⟩
    · rw [z]; exact ⟨o, hob, fun v q => by rw [hd] at q; cases q⟩
  keep := fun i h h' stt k => let ⟨⟨was, he⟩, hi, neq⟩ := stt; ⟨⟨was, k e (by simp) _ he⟩, hi.at fun o q => k it (by simp) o q, neq⟩
  item := by
    intro X hP hw hK hcl i pins s σ H E I hf stt hg
    subst hP hw hK
    obtain ⟨⟨was, he⟩, hit, neq, hai, hae⟩ := stt
    obtain ⟨xs, x, hq, hx⟩ := hg
    obtain ⟨its, rv, p, hzz⟩ := I.tuple hq
    obtain ⟨u, hu, ru⟩ := rv.get hx
    have elt : e < s.heap.objs.size := Heap.lt_size he
    have ilt : it < s.heap.objs.size := by obtain ⟨_, q, _⟩ := hit; exact Heap.lt_size q
    have hlen : i < its.toArray.size := by
      have h1 := (List.getElem?_eq_some_iff.mp hu).1
      simpa using h1
    refine wpAny_pyNext_enum_itemC (n := its.toArray.size) (i := i) (Draws.tuple (A := X.A.in1) (show X.A.in1.handled = none from I.ok.hd hcl) it a hai its.toArray) he ⟨hit, p⟩ hlen neq (by simp; exact ⟨neq, fun z => hae z.symm⟩) fun y h' tk hP hob hst hT hsize hkeep => ?_
    have ey : y = u := by
      have h1 : its.toArray[i]? = some u := by simpa using hu
      rw [h1] at hP
      exact (Option.some.inj hP).symm
    subst ey
    refine ⟨_, rfl, wpAny_letOwnedTupleGo_enum (s := { s with heap := h', toks := tk + 1 }) hob fun h'' he' same2 => ?_⟩
    have hT2 : h''.get? s.heap.objs.size = some { cls := .type "tuple", data := .seq #[.int i tk, y] } := (same2.2 _ (Nat.ne_of_gt elt)).trans hT
    have nw : ObjOk X.prog X.w (upd H s.heap.objs.size (.tup [.int (i : Nat), x])) h'' s.heap.objs.size (.tup [.int (i : Nat), x]) :=
      ⟨by show 2 ≤ sizeLine; decide, [.int i tk, y], .cons ⟨_, rfl⟩ (.cons ru .nil), ⟨_, hT2, rfl, _, rfl⟩⟩
    have J1 : Inv X pins σ (upd H s.heap.objs.size (.tup [.int (i : Nat), x])) { s with heap := h'', toks := tk + 1 } :=
      I.turnedNew (ch := [e, it]) (fun b ob hb q => (same2.2 b (fun z => hb (by simp [z]))).trans (hkeep b ob (fun z => hb (by simp [z])) (fun z => hb (by simp [z])) q)) hf (Nat.le_refl _) nw
    refine ⟨.ref s.heap.objs.size, _, J1, rfl, ⟨_, x, rfl, I.hok.fresh (Nat.le_refl _), rfl, fun ys hy => by rw [I.tuple_inj hy hq]; exact hx⟩, ⟨⟨y, ?_⟩, hst.1.at fun o q => (same2.2 it (Ne.symm neq)).trans q, neq, hai, hae⟩, fun b hb => ?_⟩
    · have esum : ((i + 1 : Nat) : Int) = (i : Int) + 1 := by omega
      rw [esum]; exact he'
    · have hlow : b < s.heap.objs.size := by
        have ee : b = e ∨ b = it := by simpa using hb
        rcases ee with z | z
        · rw [z]; exact elt
        · rw [z]; exact ilt
      rw [upd_ne (Nat.ne_of_lt hlow)]
      exact (hf b hb).1
  done := by
    intro X hP hw hK hcl i pins s σ H E I hf stt hg
    subst hP hw hK
    obtain ⟨⟨was, he⟩, hit, neq, hai, hae⟩ := stt
    obtain ⟨xs, hq, hx⟩ := hg
    obtain ⟨its, rv, p, hzz⟩ := I.tuple hq
    obtain ⟨k0, k1, k2, k3, k4, k5⟩ := hf it (by simp)
    have hl : its.toArray.size = i := by have := rv.length; simp; omega
    have D := Draws.tuple (prog := X.prog) (w := X.w) (A := X.A.in1) (I.ok.hd hcl) it a hai its.toArray
    exact wpAny_pyNext_enum_endD D he (hl ▸ ⟨hit, p⟩) fun h' eb => ⟨rfl, I.turned (t' := s.toks) (fun b o hb q => eb b o hb q) k0 k1 k3 k4 k5⟩
  self := fun A i s Q E stt h => let ⟨⟨_, he⟩, _⟩ := stt; wpAny_pyIter_enum he h
def iEnumT (K : PySem.W.Frag) (ta : TA) : TI := fun σ H R => ta σ H fun vs H1 => ∃ a xs, vs = [.ref a] ∧ SqT K H1 a xs ∧ R (IteT K a) H1
theorem pi_enumT {X : Cx} {e : Expr} {ta : TA} {p pos tpos : Pos} {elts : List Expr} {kk : Nat} (hg : Gl X "enumerate") (hm : X.mg "enumerate" = none) (ha : PA X [e] ta) (hs : starEach [e] X.env = [(false, eval e X.env)] := by rfl) :
    PI X (.Tuple elts kk tpos) (.Call (.Name "enumerate" p) [e] [] pos) (iEnumT X.K ta) := by
  refine ⟨fun pins s σ H R I h => ?_⟩
  refine Call_ (ld_blt I hg hm boot_enumerate (PyProof.Rows.callWith_type1 (thn (ha.run pos pins s σ H _ I h) fun us s1 ⟨vs, H1, J1, r1, q1⟩ => ?_) hs rfl))
  obtain ⟨a, xs, ex, hq, q⟩ := q1
  subst ex
  cases r1 with
  | cons r rr =>
    cases rr
    cases r
    obtain ⟨its, rv, p', hzz⟩ := J1.tuple hq
    have hal : a < s1.heap.objs.size := p'.lt
    refine enum_beginsB (begins_tuple a its.toArray) p' fun h' he hit hsize hkeep => wpAny_pyIter_enum he ?_
    have J2 : Inv X pins σ H1 { s1 with heap := h' } := J1.kept (t' := s1.toks) hkeep
    refine ⟨s1.heap.objs.size + 1, [s1.heap.objs.size + 1, s1.heap.objs.size], _, _, H1, rfl, J2, turn_enumT a (s1.heap.objs.size + 1) s1.heap.objs.size, ⟨⟨.none, he⟩, ⟨_, hit, rfl, rfl⟩, Nat.succ_ne_self _, Nat.ne_of_lt hal, Nat.ne_of_lt (Nat.lt_succ_of_lt hal)⟩, fun b hb => ?_, q⟩
    have ee : b = s1.heap.objs.size + 1 ∨ b = s1.heap.objs.size := by simpa using hb
    have hle : s1.heap.objs.size ≤ b := by
      rcases ee with z | z
      · rw [z]; exact Nat.le_add_right _ _
      · rw [z]; exact Nat.le_refl _
    exact J1.fpOk hle (J1.hok.fresh hle)
theorem walk_enumT {K : PySem.W.Frag} {a : Addr} {xs : List V} : Walk (IteT K a) xs.length (fun H => SqT K H a xs) (YPair (fun i => some (.int (i : Nat))) (fun i => xs[i]?)) := by
  refine ⟨fun i _ hi q => ⟨xs, xs[i], q, by simp [hi]⟩, fun _ q => ⟨xs, q, rfl⟩, fun i H v H' hi q y => ?_⟩
  obtain ⟨T, x, esum, e2, e3, e4⟩ := y
  exact ⟨T, _, x, esum, e2, e3, rfl, e4 xs q⟩
end Dk

set_option Elab.async false
set_option linter.all false
set_option maxRecDepth 100000
set_option maxHeartbeats 1000000
/-! a, *b = a list -/
namespace Dk
open PySem PySem.Spec PyProof.Rows L2
theorem star_items {prog : Program} {w : World} {A : Around} {E : Value → Shared → Prop} {s : Shared} {l : Addr} {u : Value} {us : List Value} {Q : List Value → Shared → Prop} (hl : s.heap.IsList l (u :: us).toArray) (hh : A.handled = none) (hz : us.length ≤ 16000)
    (h : ∀ (h2 : Heap) (tk : Tok), (∀ b o, s.heap.get? b = some o → h2.get? b = some o) → Q [u, .ref h2.objs.size] { s with heap := h2.push { cls := .type "list", data := .seq us.toArray }, toks := tk }) : wpAny (model prog w) A (unpackItems (.ref l) 2 (some 1)) Q E s := by
  have hlt : l ≠ s.heap.objs.size := by obtain ⟨o, ho, _⟩ := hl; exact Nat.ne_of_lt (Heap.lt_size ho)
  have hs : (u :: us).toArray.size = us.length + 1 := by simp
  unfold unpackItems
  refine wpAny_bind ?_
  unfold notIterableAtAll
  refine wpAny_bind (wpAny_specialOf hl.typeIs F.slot_list_iter.lookup ?_)
  refine wpAny_pure ?_
  simp only [Bool.false_eq_true, if_false]
  refine wpAny_bind (wpAny_holding (wpAny_pyIter_list hl ?_))
  refine wpAny_bind (wpAny_holding (PySem.W.kun_draw hlt 1 0 _ _ ⟨_, Heap.get?_push_size _ rfl, rfl, rfl⟩ (hl.push _) (by omega) fun h₁ hit₁ hs₁ => ?_))
  have hl₁ : h₁.IsList l (u :: us).toArray := (hl.push _).extBut hs₁.extBut hlt
  rw [Nat.zero_add] at hit₁
  have hit₁' := hit₁
  obtain ⟨oi, hoi, _⟩ := hit₁'
  have hl₁' := hl₁
  obtain ⟨ol, hol, _⟩ := hl₁'
  rw [List.drop_zero]
  have e1 : (u :: us).toArray.toList.take 1 = [u] := by simp
  rw [e1]
  rw [if_neg (show ¬ (([u] : List Value).length < 1) by simp)]
  refine wpAny_bind (wpAny_holding (PySem.W.kun_collect (s := { s with heap := h₁ }) (T := "list_iterator") (.inr (.inr (.inl rfl))) (Walks.list (A := A.in1) hh s.heap.objs.size l hlt (u :: us).toArray) (fun j u st => st.1.typeIs) (k := 1) (by omega) ⟨hit₁, hl₁⟩ (Heap.lt_size hoi) (Heap.lt_size hol) (fun h₂ tk hk => ?_) (by rw [hs]; exact Nat.le_trans (by omega : us.length + 1 ≤ 16001) (by decide))))
  have e2 : (u :: us).toArray.toList.drop 1 = us := by simp
  rw [e2]
  show wpAny _ _ (if us.length < 0 then _ else _) _ _ _
  rw [if_neg (by omega)]
  show wpAny _ _ (newList (us.take (us.length - 0)) >>= fun d => pure ([u] ++ [d] ++ us.drop (us.length - 0))) _ _ _
  rw [Nat.sub_zero, List.take_length, List.drop_length]
  refine wpAny_bind (wpAny_newObj_type ?_ (by show us.toArray.size ≤ sizeLine; rw [List.size_toArray]; exact Nat.le_trans hz (by decide)))
  exact wpAny_pure (h h₂ tk fun b o e => hk b o (Nat.ne_of_lt (Heap.lt_size e)) (hs₁.extBut b o (Nat.ne_of_lt (Heap.lt_size e)) (Heap.get?_push_of_some _ e)))
section
variable {X : Cx} {pos : Pos}
def gStar (K : PySem.W.Frag) (t : TGs) : TG := fun v σ H Q => ∃ a x xs, v = .ref a ∧ SqL K H a (x :: xs) ∧ xs.length ≤ 16000 ∧ ∀ D, H D = none → t [x, .ref D] σ (upd H D (.lst xs)) Q
theorem pg_star {e1 e2 : Expr} {p : Pos} {k : Nat} {t : TGs} (hc : X.calm = true) (h : PGs X [e1, e2] t)
    (he : (assignEach [e1, .Starred e2 p] X.env).map (·.2) = (assignEach [e1, e2] X.env).map (·.2) := by rfl)
    (hn : (assignEach [e1, .Starred e2 p] X.env).length = 2 := by rfl) (hst : (assignEach [e1, .Starred e2 p] X.env).findIdx? (·.1) = some 1 := by rfl) : PG X (.Tuple [e1, .Starred e2 p] k pos) (gStar X.K t) := by
  refine ⟨fun pins s σ H v u Q I r hw => ?_⟩
  obtain ⟨a, x, xs, e1, hq, hl, hw⟩ := hw
  subst e1
  cases r
  obtain ⟨its, rv, pl, hz⟩ := I.list hq
  cases rv with
  | @cons _ u0 _ us r0 rs =>
    have hl' : s.heap.IsList a (u0 :: us).toArray := by
      obtain ⟨o, m, e, c, d, q⟩ := pl
      exact ⟨o, e, c, m, q⟩
    rw [PyProof.Rows.assign_Tuple]
    refine wpAny_bind (wpAny_standAt ?_)
    unfold unpack
    rw [hn, hst, he]
    refine wpAny_bind (wpAny_holding (star_items hl' (I.ok.hd hc) (by rw [← Paired.length rs]; exact hl) fun h2 tk hx => ?_))
    have I1 : Inv X pins σ H { s with heap := h2, toks := tk } := I.kept (t' := tk) hx
    have hnew : H h2.objs.size = none := I1.hok.fresh (Nat.le_refl _)
    have I2 : Inv X pins σ (upd H h2.objs.size (.lst xs)) { s with heap := h2.push { cls := .type "list", data := .seq us.toArray }, toks := tk } :=
      I1.laid (t' := tk) (fun b o q => Heap.get?_push_of_some _ q) (Nat.le_refl _) ⟨Nat.le_trans hl (by decide), us, 0, rs, Heap.get?_push_size _ rfl⟩
    exact h.run pins _ σ _ [x, .ref h2.objs.size] _ Q I2 (.cons r0 (.cons rfl .nil)) (hw _ hnew)
end
end Dk

set_option Elab.async false
set_option linter.all false
set_option maxRecDepth 100000
set_option maxHeartbeats 4000000
namespace Dk
open PySem PySem.Spec PyProof.Rows L2
/-! ### the text by places -/
def top (i : Nat) : Stmt := PySem.Challenge.pw_doorkeys_k14_texts_of_houses.main.body.getD i (.Pass ⟨0, 0, 0, 0⟩)
abbrev sIsInt : Stmt := top 7
abbrev sIsBelow : Stmt := top 8
abbrev sPeriod : Stmt := top 18
abbrev sChkTables : Stmt := top 19
abbrev sChkKeys : Stmt := top 20
abbrev sChkCareful : Stmt := top 21
abbrev sChkRem : Stmt := top 22
abbrev sIsTable : Stmt := top 23
abbrev sIsRem : Stmt := top 24
abbrev sAsc : Stmt := top 25
abbrev sHasOnly : Stmt := top 26
abbrev sSplit : Stmt := top 27
abbrev sAreArgs : Stmt := top 28
abbrev sIsTW : Stmt := top 29
abbrev sIsNW : Stmt := top 30
abbrev sIsRW : Stmt := top 31
abbrev sReadNs : Stmt := top 32
abbrev sReadRs : Stmt := top 33
abbrev sKeysL : Stmt := top 34
abbrev sCarL : Stmt := top 35
abbrev sRemL : Stmt := top 36
abbrev sRandom : Stmt := top 38
abbrev sBelow : Stmt := top 39
abbrev sTable : Stmt := top 40
abbrev sLength : Stmt := top 41
abbrev sParts : Stmt := top 42
abbrev sEqual : Stmt := top 43
abbrev sHouseF : Stmt := top 44
abbrev sLaw : Stmt := top 45
abbrev sInit : Stmt := inClass (top 17) 0
abbrev sText : Stmt := inClass (top 17) 3
abbrev sParse : Stmt := inClass (top 17) 4

/-! ### heaps -/
theorem sSqT {K : PySem.W.Frag} {H H' : Hp} {a : Addr} {xs : List V} (e : Same H H') (h : SqT K H a xs) : SqT K H' a xs := by
  rcases h with (h | ⟨o, h⟩) | h
  · exact .inl (.inl (e _ _ h))
  · exact .inl (.inr ⟨o, e _ _ h⟩)
  · exact .inr h
theorem same_upd {H : Hp} {p : Addr} {o : HO} (h : H p = none) : Same H (upd H p o) := fun b u e => by
  rw [upd_ne (ne_of_none e h)]; exact e
/-- all that was tracked is as it was, but at l -/
def Kp (l : Addr) (H H' : Hp) : Prop := ∀ b o, b ≠ l → H b = some o → H' b = some o
theorem sKp {l : Addr} {H H' : Hp} (s : Same H H') : Kp l H H' := fun b o _ e => s b o e
theorem Kp.refl {l : Addr} {H : Hp} : Kp l H H := fun _ _ _ e => e
theorem Kp.trans {l : Addr} {H H1 H2 : Hp} (a : Kp l H H1) (b : Kp l H1 H2) : Kp l H H2 := fun c o n e => b c o n (a c o n e)
theorem kp_upd {l : Addr} {H : Hp} {o : HO} : Kp l H (upd H l o) := fun b u n e => by rw [upd_ne n]; exact e
theorem Kp.same {l : Addr} {H H' : Hp} (k : Kp l H H') (h : ∀ o, H l = some o → H' l = some o) : Same H H' := fun b o e => by
  by_cases n : b = l
  · subst n; exact h o e
  · exact k b o n e
theorem Kp.sqT {K : PySem.W.Frag} {l : Addr} {xs : List V} {ys : List V} {H H' : Hp} {a : Addr} (k : Kp l H H') (hl : H l = some (.lst ys)) (h : SqT K H a xs) : SqT K H' a xs := by
  rcases h with (h | ⟨o, h⟩) | h
  · exact .inl (.inl (k _ _ (fun e => by rw [e, hl] at h; cases h) h))
  · exact .inl (.inr ⟨o, k _ _ (fun e => by rw [e, hl] at h; cases h) h⟩)
  · exact .inr h
/-- a list other than l stays -/
theorem Kp.lst {l : Addr} {xs : List V} {H H' : Hp} {a : Addr} (k : Kp l H H') (n : a ≠ l) (h : H a = some (.lst xs)) : H' a = some (.lst xs) := k _ _ n h

theorem take_more {α : Type} {l : List α} {i : Nat} {x : α} (h : l[i]? = some x) : l.take (i + 1) = l.take i ++ [x] := by
  rw [List.take_add_one, h]
  rfl
theorem map_at {α : Type} {f : α → V} {l : List α} {i : Nat} {y : V} (h : (l.map f)[i]? = some y) : ∃ z, l[i]? = some z ∧ y = f z := by
  rw [List.getElem?_map] at h
  cases e : l[i]? with
  | none => rw [e] at h; cases h
  | some z => rw [e] at h; exact ⟨z, rfl, (Option.some.inj h).symm⟩

/-! ### the law's source of numbers -/
/-- what is always true of the source's list -/
structure Good (st : List Int) : Prop where
  ex : ∃ s0 s1 r, st = s0 :: s1 :: r ∧ 0 ≤ s0 ∧ s0 < 2147483647 ∧ 0 ≤ s1 ∧ (∀ z ∈ r, (0 : Int) ≤ z) ∧ r.length ≤ 63

def spRandom (K : PySem.W.Frag) : Sp := fun vs H Q _ => ∃ (a : Addr) (ns : List Int) (salt : Int), vs = [.ref a, .int salt] ∧ SqL K H a (ns.map V.int) ∧ ns.length ≤ 63 ∧ 0 ≤ salt ∧ salt < 2147483647 ∧
  ∀ (H' : Hp) (p : Addr) (st : List Int), Same H H' → H p = none → H' p = some (.lst (st.map V.int)) → Good st → Q (.ref p) H'
structure TxtA (mg : Str → Option Value) : Prop where
  abs : mg "abs" = none
  len : mg "len" = none
  range : mg "range" = none

section
variable {P : Program} {w : World} {K : PySem.W.Frag} {mg : Str → Option Value} {base : Heap}
theorem scRandom : FnScope ["_law_script", "_law_salt", "_law_seed", "_law_cell"] ["_law_script", "_law_salt"] (defScope sRandom) := ⟨rfl, rfl, rfl, by decide +kernel, rfl, by decide +kernel, by decide +kernel⟩
theorem ok_random {f : Addr} {fd : FuncData} (F : Fun K "_law_random" "_law_random" sRandom f fd) (T : TxtA mg) : FnOk P w K mg base CX0 1 f fd ["_law_script", "_law_salt"] (spRandom K) := by
  refine F.ok scRandom (fun vs H Q E h => ?_) (fun cdv A outer s H vs Q E hr h => ?_)
  · obtain ⟨a, ns, salt, rfl, _⟩ := h
    rfl
  · obtain ⟨a, ns, salt, rfl, hS, hlen, hs0, hs1, k⟩ := h
    refine ⟨_, pss_cons (ps_set (i := 2) scRandom.nd rfl (.inl rfl) (pv 1))
      (pss_cons (ps_for PassesOwn.never rfl (pi_list (pv 0)) (pg_name (i := 3) scRandom.nd rfl (.inl rfl))
        (pss_one (ps_set (i := 2) scRandom.nd rfl (.inl rfl) (pe_op op_mod (pe_op op_add (pe_op op_mul (pv 2) pe_int) (pe_callB call_abs (by rfl) T.abs (by decide +kernel) (pa_cons (pv 3) pa_nil))) pe_int))))
      (pss_one (ps_ret (pe_op op_cat (pe_lst (pa_cons (pv 2) (pa_cons pe_int pa_nil)))
        (pe_lc (own := [("_law_cell", 3)]) (g := gName 3) (by rfl) scRandom.nd (pi_list (pv 0)) (blkOk_by (N := ["_law_script", "_law_salt", "_law_seed", "_law_cell"]) (sc := defScope sRandom) (by decide +kernel))
          (fun _ _ _ _ _ => pg_name (i := 3) scRandom.nd rfl (Or.inl rfl)) (fun _ _ _ _ _ => pts_one (pt_cmpR op_ge (pv 3) (pe_op op_pow pe_int pe_int) (nomark _))) (fun _ _ _ _ _ => pv 3)))))), ?_⟩
    refine ⟨_, rfl, ?_⟩
    refine ⟨_, rfl, a, rfl, ⟨_, hS⟩, for_list (K := K) (a := a) (xs := ns.map V.int) (fun i σ H' => ∃ (z : Int) (v : Option V), σ = [some (.ref a), some (.int salt), some (.int z), v] ∧ H' = H ∧ 0 ≤ z ∧ z < 2147483647)
      ⟨salt, none, rfl, rfl, hs0, hs1⟩ (fun i σ H' _ ⟨_, _, _, e, _⟩ => by rw [e]; exact hS) ?_ ?_⟩
    · rintro i y σ H' hi ⟨z, v, rfl, rfl, h0, h1⟩
      obtain ⟨u, hu, rfl⟩ := map_at hi
      refine ⟨_, rfl, _, _, rfl, rfl, .inl ⟨by omega, by omega⟩, _, rfl, _, rfl, _, _, rfl, rfl, _, _, rfl, rfl, (by show (0 : Int) < 2147483647; decide), ?_⟩
      exact ⟨_, _, rfl, rfl, Int.emod_nonneg _ (by decide), Int.emod_lt_of_pos _ (by decide)⟩
    · rintro σ H' ⟨z, v, rfl, rfl, h0, h1⟩
      refine ⟨_, rfl, (by show 2 ≤ sizeLine; decide), fun l hl => ?_⟩
      have s1 : Same H' (upd H' l (.lst [.int z, .int 0])) := same_upd hl
      refine ⟨_, rfl, a, rfl, ⟨_, s1.seq hS⟩, fun D hD => lc_list (K := K) (a := a) (xs := ns.map V.int)
        (fun i H2 => ∃ r : List Int, Same (upd H' l (.lst [.int z, .int 0])) H2 ∧ H2 D = some (.lst (r.map V.int)) ∧ r.length ≤ i ∧ ∀ x : Int, x ∈ r → 0 ≤ x)
        ⟨[], same_upd hD, upd_same, Nat.le_refl _, fun x hx => by cases hx⟩ (fun i H2 _ ⟨_, e, _⟩ => e.seq (s1.seq hS)) ?_ ?_⟩
      · rintro i y H2 hi ⟨r, e2, eD, hr1, hr2⟩
        obtain ⟨u, hu, rfl⟩ := map_at hi
        have hil : i < ns.length := (List.getElem?_eq_some_iff.mp hu).1
        refine ⟨rfl, _, rfl, _, _, rfl, rfl, ?_, _, _, rfl, rfl, _, rfl, ite2 (fun c => ?_) (fun c => ?_)⟩
        · exact ⟨by decide, by decide, by decide⟩
        · refine ⟨_, rfl, _, eD, ?_, r ++ [u], fun b o eb => ?_, ?_, ?_, fun x hx => ?_⟩
          · rw [List.length_map]; exact Nat.lt_of_le_of_lt (by omega : r.length ≤ 1000) (by decide)
          · have nb : b ≠ D := ne_of_none eb hD
            rw [upd_ne nb]; exact e2 _ _ eb
          · rw [upd_same]; simp
          · rw [List.length_append, List.length_singleton]; omega
          · rcases List.mem_append.mp hx with hx | hx
            · exact hr2 x hx
            · rw [List.mem_singleton] at hx
              subst hx
              have c' : (10 : Int) ^ (18 : Int).toNat ≤ x := of_decide_eq_true c
              exact Int.le_trans (by decide) c'
        · exact ⟨r, e2, eD, by omega, hr2⟩
      · rintro H2 ⟨r, e2, eD, hr1, hr2⟩
        rw [List.length_map] at hr1
        have el : H2 l = some (.lst [.int z, .int 0]) := e2 _ _ upd_same
        refine ⟨_, _, _, _, rfl, rfl, el, eD, ?_, fun p hp => ?_⟩
        · simp only [List.length_cons, List.length_nil, List.length_map]
          exact Nat.le_trans (by omega : _ ≤ 1000) (by decide)
        · have s2 : Same H' H2 := s1.trans e2
          refine k _ p (z :: 0 :: r) (s2.trans (same_upd hp)) (s2.free hp) (by rw [upd_same]; rfl) ⟨⟨z, 0, r, rfl, h0, h1, Int.le_refl _, hr2, by omega⟩⟩
end
end Dk

set_option Elab.async false
set_option linter.all false
set_option maxRecDepth 100000
set_option maxHeartbeats 4000000
namespace Dk
open PySem PySem.Spec PyProof.Rows L2
theorem at0 {a : V} {l : List V} : atI (a :: l) 0 = some a := atI_nat (j := 0) rfl
theorem at1 {a b : V} {l : List V} : atI (a :: b :: l) 1 = some b := atI_nat (j := 1) rfl
theorem at2 {a b c : V} {l : List V} : atI (a :: b :: c :: l) 2 = some c := atI_nat (j := 2) rfl
theorem at3 {a b c e : V} {l : List V} : atI (a :: b :: c :: e :: l) 3 = some e := atI_nat (j := 3) rfl
theorem ix0 {a : V} {l : List V} : ixN (a :: l).length 0 = some 0 := by
  unfold ixN; rw [if_pos (by decide), if_pos (by rw [List.length_cons]; omega)]; rfl
theorem ix1 {a b : V} {l : List V} : ixN (a :: b :: l).length 1 = some 1 := by
  unfold ixN; rw [if_pos (by decide), if_pos (by rw [List.length_cons, List.length_cons]; omega)]; rfl
theorem sq2 {a b c : V} {l : List V} : seqIndex? 2 (a :: b :: c :: l).length = some 2 := (ixN_seq (by
  unfold ixN; rw [if_pos (by decide), if_pos (by rw [List.length_cons, List.length_cons, List.length_cons]; omega)]; rfl)).1
def spBelow : Sp := fun vs H Q _ => ∃ (d : Addr) (lim : Int) (st : List Int), vs = [.ref d, .int lim] ∧ H d = some (.lst (st.map V.int)) ∧ Good st ∧ 1 ≤ lim ∧ lim < 1073741824 ∧
  ∀ (H' : Hp) (st' : List Int) (r : Int), Kp d H H' → H' d = some (.lst (st'.map V.int)) → Good st' → 0 ≤ r → r < lim → Q (.int r) H'
section
variable {P : Program} {w : World} {K : PySem.W.Frag} {mg : Str → Option Value} {base : Heap}
theorem scBelow : FnScope ["_law_d", "_law_limit", "_law_result"] ["_law_d", "_law_limit"] (defScope sBelow) := ⟨rfl, rfl, rfl, by decide +kernel, rfl, by decide +kernel, by decide +kernel⟩
theorem ok_below {f : Addr} {fd : FuncData} (F : Fun K "_law_below" "_law_below" sBelow f fd) (T : TxtA mg) : FnOk P w K mg base CX0 1 f fd ["_law_d", "_law_limit"] spBelow := by
  refine F.ok scBelow (fun vs H Q E h => ?_) (fun cdv A outer s H vs Q E hr h => ?_)
  · obtain ⟨d, lim, st, rfl, _⟩ := h
    rfl
  · obtain ⟨d, lim, st, rfl, hd, ⟨s0, s1, r, rfl, h0, h1, h2, h3, h4⟩, hl1, hl2, k⟩ := h
    refine ⟨_, pss_cons (ps_if (PW.pt (pw_and (pt_cmpR op_eq (pe_ix ix_list (pv 0) pe_int (fun _ _ => rfl)) pe_int (nomark _)) (pw_and1 (pt_cmpR op_gt (pe_callB call_len_seq (by rfl) T.len PySem.boot_len (pa_cons (pv 0) pa_nil)) pe_int (nomark _)))))
        (pss_one (ps_asg (pe_bm PySem.F.plainAttrs_list PySem.F.slot_list_pop PySem.F.type_list_pop mt_popAt (pv 0) (pa_cons pe_int pa_nil)) (pg_sub (pv 0) pe_int set_list))) pss_nil)
      (pss_cons (ps_if (pt_cmpR op_gt (pe_ix ix_list (pv 0) pe_int (fun _ _ => rfl)) pe_int (nomark _))
        (pss_cons (ps_set (i := 2) scBelow.nd rfl (.inl rfl) (pe_op op_modN (pe_ix ix_list (pv 0) pe_int (fun _ _ => rfl)) (pv 1)))
        (pss_cons (ps_asg (pe_op op_fdivN (pe_ix ix_list (pv 0) pe_int (fun _ _ => rfl)) (pv 1)) (pg_sub (pv 0) pe_int set_list))
        (pss_one (ps_ret (pv 2))))) pss_nil)
      (pss_cons (ps_asg (pe_op op_mod (pe_op op_add (pe_op op_mul (pe_ix ix_list (pv 0) pe_int (fun _ _ => rfl)) pe_int) pe_int) pe_int) (pg_sub (pv 0) pe_int set_list))
      (pss_one (ps_ret (pe_op op_modN (pe_op op_fdiv (pe_ix ix_list (pv 0) pe_int (fun _ _ => rfl)) pe_int) (pv 1)))))), ?_⟩
    have hd' : H d = some (.lst (V.int s0 :: V.int s1 :: r.map V.int)) := hd
    refine ⟨_, rfl, d, _, 1, V.int s1, rfl, rfl, SqL.of hd', at1, rfl, _, rfl, ite2 (fun c => ?_) (fun c => ?_)⟩
    · refine ⟨_, rfl, d, _, rfl, .inl (SqL.of hd'), _, _, rfl, rfl, _, rfl, ite2 (fun c2 => ?_) (fun c2 => ?_)⟩
      · cases r with
        | nil => exact absurd (of_decide_eq_true c2) (by simp)
        | cons r0 r =>
          refine ⟨_, rfl, .inl ⟨rfl, _, SqL.of hd'⟩, d, _, 2, 2, V.int r0, rfl, rfl, hd', (by decide), (by decide), sq2, rfl, ?_⟩
          refine ⟨_, rfl, d, _, _, 1, rfl, rfl, upd_same, ix1, ?_⟩
          generalize e : (upd (upd H d (HO.lst ((V.int s0 :: V.int s1 :: List.map V.int (r0 :: r)).eraseIdx 2))) d (HO.lst (((V.int s0 :: V.int s1 :: List.map V.int (r0 :: r)).eraseIdx 2).set 1 (V.int r0)))) = H1
          have kp1 : Kp d H H1 := by rw [← e]; exact kp_upd.trans kp_upd
          obtain ⟨t0, t1, r', hd1, g0, g1, g2, g3, g4⟩ : ∃ t0 t1 r', H1 d = some (.lst (V.int t0 :: V.int t1 :: r'.map V.int)) ∧ 0 ≤ t0 ∧ t0 < 2147483647 ∧ 0 ≤ t1 ∧ (∀ z ∈ r', (0 : Int) ≤ z) ∧ r'.length ≤ 63 :=
            ⟨s0, r0, r, by rw [← e, upd_same]; rfl, h0, h1, h3 _ (List.mem_cons_self ..), fun z hz => h3 z (List.mem_cons_of_mem _ hz), by rw [List.length_cons] at h4; omega⟩
          refine ⟨_, rfl, d, _, 1, V.int t1, rfl, rfl, SqL.of hd1, at1, _, _, rfl, rfl, _, rfl, ite2 (fun c3 => ?_) (fun c3 => ?_)⟩
          · have c3' : 0 < t1 := of_decide_eq_true c3
            refine ⟨_, rfl, d, _, 1, V.int t1, rfl, rfl, SqL.of hd1, at1, _, rfl, _, _, rfl, rfl, (by omega), ?_⟩
            refine ⟨_, rfl, d, _, 1, V.int t1, rfl, rfl, SqL.of hd1, at1, _, rfl, _, _, rfl, rfl, ⟨by omega, by omega⟩, _, rfl, d, _, _, 1, rfl, rfl, hd1, ix1, ?_⟩
            exact ⟨_, rfl, k _ (t0 :: t1.fdiv lim :: r') _ (kp1.trans kp_upd) upd_same ⟨⟨t0, _, r', rfl, g0, g1, Int.fdiv_nonneg g2 (by omega), g3, g4⟩⟩ (Int.fmod_nonneg_of_pos _ (by omega)) (Int.fmod_lt_of_pos _ (by omega))⟩
          · refine ⟨_, rfl, d, _, 0, V.int t0, rfl, rfl, SqL.of hd1, at0, _, _, rfl, rfl, .inl ⟨by omega, by omega⟩, _, _, rfl, rfl, _, _, rfl, rfl, (by show (0 : Int) < 2147483647; decide), _, rfl, d, _, _, 0, rfl, rfl, hd1, ix0, ?_⟩
            refine ⟨_, rfl, d, _, 0, V.int ((t0 * 48271 + 11) % 2147483647), rfl, rfl, SqL.of upd_same, at0, _, _, rfl, rfl, ⟨by decide, by decide⟩, _, rfl, _, _, rfl, rfl, (by omega), ?_⟩
            exact k _ ((t0 * 48271 + 11) % 2147483647 :: t1 :: r') _ (kp1.trans kp_upd) upd_same ⟨⟨_, _, r', rfl, Int.emod_nonneg _ (by decide), Int.emod_lt_of_pos _ (by decide), g2, g3, g4⟩⟩ (Int.fmod_nonneg_of_pos _ (by omega)) (Int.fmod_lt_of_pos _ (by omega))
      · have kp1 : Kp d H H := Kp.refl
        obtain ⟨t0, t1, r', hd1, g0, g1, g2, g3, g4⟩ : ∃ t0 t1 r', H d = some (.lst (V.int t0 :: V.int t1 :: r'.map V.int)) ∧ 0 ≤ t0 ∧ t0 < 2147483647 ∧ 0 ≤ t1 ∧ (∀ z ∈ r', (0 : Int) ≤ z) ∧ r'.length ≤ 63 :=
          ⟨s0, s1, r, hd', h0, h1, h2, h3, h4⟩
        refine ⟨_, rfl, d, _, 1, V.int t1, rfl, rfl, SqL.of hd1, at1, _, _, rfl, rfl, _, rfl, ite2 (fun c3 => ?_) (fun c3 => ?_)⟩
        · have c3' : 0 < t1 := of_decide_eq_true c3
          refine ⟨_, rfl, d, _, 1, V.int t1, rfl, rfl, SqL.of hd1, at1, _, rfl, _, _, rfl, rfl, (by omega), ?_⟩
          refine ⟨_, rfl, d, _, 1, V.int t1, rfl, rfl, SqL.of hd1, at1, _, rfl, _, _, rfl, rfl, ⟨by omega, by omega⟩, _, rfl, d, _, _, 1, rfl, rfl, hd1, ix1, ?_⟩
          exact ⟨_, rfl, k _ (t0 :: t1.fdiv lim :: r') _ (kp1.trans kp_upd) upd_same ⟨⟨t0, _, r', rfl, g0, g1, Int.fdiv_nonneg g2 (by omega), g3, g4⟩⟩ (Int.fmod_nonneg_of_pos _ (by omega)) (Int.fmod_lt_of_pos _ (by omega))⟩
        · refine ⟨_, rfl, d, _, 0, V.int t0, rfl, rfl, SqL.of hd1, at0, _, _, rfl, rfl, .inl ⟨by omega, by omega⟩, _, _, rfl, rfl, _, _, rfl, rfl, (by show (0 : Int) < 2147483647; decide), _, rfl, d, _, _, 0, rfl, rfl, hd1, ix0, ?_⟩
          refine ⟨_, rfl, d, _, 0, V.int ((t0 * 48271 + 11) % 2147483647), rfl, rfl, SqL.of upd_same, at0, _, _, rfl, rfl, ⟨by decide, by decide⟩, _, rfl, _, _, rfl, rfl, (by omega), ?_⟩
          exact k _ ((t0 * 48271 + 11) % 2147483647 :: t1 :: r') _ (kp1.trans kp_upd) upd_same ⟨⟨_, _, r', rfl, Int.emod_nonneg _ (by decide), Int.emod_lt_of_pos _ (by decide), g2, g3, g4⟩⟩ (Int.fmod_nonneg_of_pos _ (by omega)) (Int.fmod_lt_of_pos _ (by omega))
    · have kp1 : Kp d H H := Kp.refl
      obtain ⟨t0, t1, r', hd1, g0, g1, g2, g3, g4⟩ : ∃ t0 t1 r', H d = some (.lst (V.int t0 :: V.int t1 :: r'.map V.int)) ∧ 0 ≤ t0 ∧ t0 < 2147483647 ∧ 0 ≤ t1 ∧ (∀ z ∈ r', (0 : Int) ≤ z) ∧ r'.length ≤ 63 :=
        ⟨s0, s1, r, hd', h0, h1, h2, h3, h4⟩
      refine ⟨_, rfl, d, _, 1, V.int t1, rfl, rfl, SqL.of hd1, at1, _, _, rfl, rfl, _, rfl, ite2 (fun c3 => ?_) (fun c3 => ?_)⟩
      · have c3' : 0 < t1 := of_decide_eq_true c3
        refine ⟨_, rfl, d, _, 1, V.int t1, rfl, rfl, SqL.of hd1, at1, _, rfl, _, _, rfl, rfl, (by omega), ?_⟩
        refine ⟨_, rfl, d, _, 1, V.int t1, rfl, rfl, SqL.of hd1, at1, _, rfl, _, _, rfl, rfl, ⟨by omega, by omega⟩, _, rfl, d, _, _, 1, rfl, rfl, hd1, ix1, ?_⟩
        exact ⟨_, rfl, k _ (t0 :: t1.fdiv lim :: r') _ (kp1.trans kp_upd) upd_same ⟨⟨t0, _, r', rfl, g0, g1, Int.fdiv_nonneg g2 (by omega), g3, g4⟩⟩ (Int.fmod_nonneg_of_pos _ (by omega)) (Int.fmod_lt_of_pos _ (by omega))⟩
      · refine ⟨_, rfl, d, _, 0, V.int t0, rfl, rfl, SqL.of hd1, at0, _, _, rfl, rfl, .inl ⟨by omega, by omega⟩, _, _, rfl, rfl, _, _, rfl, rfl, (by show (0 : Int) < 2147483647; decide), _, rfl, d, _, _, 0, rfl, rfl, hd1, ix0, ?_⟩
        refine ⟨_, rfl, d, _, 0, V.int ((t0 * 48271 + 11) % 2147483647), rfl, rfl, SqL.of upd_same, at0, _, _, rfl, rfl, ⟨by decide, by decide⟩, _, rfl, _, _, rfl, rfl, (by omega), ?_⟩
        exact k _ ((t0 * 48271 + 11) % 2147483647 :: t1 :: r') _ (kp1.trans kp_upd) upd_same ⟨⟨_, _, r', rfl, Int.emod_nonneg _ (by decide), Int.emod_lt_of_pos _ (by decide), g2, g3, g4⟩⟩ (Int.fmod_nonneg_of_pos _ (by omega)) (Int.fmod_lt_of_pos _ (by omega))
end
end Dk

set_option Elab.async false
set_option linter.all false
set_option maxRecDepth 100000
set_option maxHeartbeats 4000000
namespace Dk
open PySem PySem.Spec PyProof.Rows L2 TL
theorem at_mem {L : List Int} {r : Int} (h0 : 0 ≤ r) (h1 : r < L.length) : ∃ z, z ∈ L ∧ atI (L.map V.int) r = some (.int z) := by
  obtain ⟨n, rfl⟩ := Int.eq_ofNat_of_zero_le h0
  have hn : n < L.length := by omega
  exact ⟨L[n], List.getElem_mem hn, atI_nat (by rw [List.getElem?_map, List.getElem?_eq_getElem hn]; rfl)⟩
theorem joinL_nil : ∀ ls : List (List Nat), joinL [] ls = ls.flatten
  | [] => rfl
  | [p] => by simp [joinL]
  | p :: q :: r => by
    show p ++ ([] ++ joinL [] (q :: r)) = _
    rw [List.nil_append, joinL_nil (q :: r)]
    rfl
def one (c : Nat) : Str := ⟨#[c]⟩
theorem tl_one (c : Nat) : tl (one c) = [c] := rfl
theorem tl_joined (cs : List Nat) : tl (Txt.join Str.empty (cs.map one)) = cs := by
  rw [join_eq, tl_join, show tl Str.empty = [] from rfl, joinL_nil, List.map_map]
  induction cs with
  | nil => rfl
  | cons c cs ih => show [c] ++ (List.map (tl ∘ one) cs).flatten = _; rw [ih]; rfl
theorem ones_sum (cs : List Nat) : ((cs.map one).map (·.length)).sum = cs.length := by
  induction cs with
  | nil => rfl
  | cons c cs ih => rw [List.map_cons, List.map_cons, List.sum_cons, ih, List.length_cons]; show 1 + _ = _; omega
/-- a timetable -/
structure IsTab (t : Str) : Prop where
  len : (tl t).length ∈ [1, 2, 3, 4, 6, 8, 12, 24]
  ho : ∀ c ∈ tl t, c = 104 ∨ c = 111
theorem IsTab.pos {t : Str} (h : IsTab t) : 1 ≤ (tl t).length ∧ (tl t).length ≤ 24 := by
  have := h.len
  simp only [List.mem_cons, List.not_mem_nil, or_false] at this
  omega
def spTable : Sp := fun vs H Q _ => ∃ (d : Addr) (st : List Int), vs = [.ref d] ∧ H d = some (.lst (st.map V.int)) ∧ Good st ∧
  ∀ (H' : Hp) (st' : List Int) (t : Str), Kp d H H' → H' d = some (.lst (st'.map V.int)) → Good st' → IsTab t → Q (.str t) H'
structure TxtB (K : PySem.W.Frag) (mg : Str → Option Value) (fB : Addr) (fdB : FuncData) : Prop where
  g : mg "_law_below" = some (.ref fB)
  F : Fun K "_law_below" "_law_below" sBelow fB fdB
  b : Binds K fdB ["_law_d", "_law_limit"] []
section
variable {P : Program} {w : World} {K : PySem.W.Frag} {mg : Str → Option Value} {base : Heap}
theorem scTable : FnScope ["_law_d", "_law_length_here", "_law_k"] ["_law_d"] (defScope sTable) := ⟨rfl, rfl, rfl, by decide +kernel, rfl, by decide +kernel, by decide +kernel⟩
theorem ok_table {f fB : Addr} {fd fdB : FuncData} (F : Fun K "_law_table" "_law_table" sTable f fd) (T : TxtA mg) (B : TxtB K mg fB fdB) : FnOk P w K mg base CX0 2 f fd ["_law_d"] spTable := by
  have GB : FnOk P w K mg base CX0 1 fB fdB ["_law_d", "_law_limit"] spBelow := ok_below B.F T
  refine F.ok scTable (fun vs H Q E h => ?_) (fun cdv A outer s H vs Q E hr h => ?_)
  · obtain ⟨d, st, rfl, _⟩ := h
    rfl
  · obtain ⟨d, st, rfl, hd, hg, k⟩ := h
    refine ⟨_, pss_cons (ps_set (i := 1) scTable.nd rfl (.inl rfl) (pe_ix ix_list (pe_lst (pa_cons pe_int (pa_cons pe_int (pa_cons pe_int (pa_cons pe_int (pa_cons pe_int (pa_cons pe_int (pa_cons pe_int (pa_cons pe_int (pa_cons pe_int pa_nil))))))))))
        (pe_call GB hr rfl B.g B.F.kp B.b .nil pass0 (pa_cons (pv 0) (pa_cons (pe_ix ix_list (pe_lst (pa_cons pe_int (pa_cons pe_int (pa_cons pe_int pa_nil)))) (pe_call GB hr rfl B.g B.F.kp B.b .nil pass0 (pa_cons (pv 0) (pa_cons pe_int pa_nil))) (fun _ _ => rfl)) pa_nil))) (fun _ _ => rfl)))
      (pss_one (ps_ret (pe_join pe_str
        (pe_lc (own := [("_law_k", 2)]) (g := gName 2) (by rfl) scTable.nd (pi_range1 rfl T.range (pa_cons (pv 1) pa_nil)) (blkOk_by (N := ["_law_d", "_law_length_here", "_law_k"]) (sc := defScope sTable) (by decide +kernel))
          (fun _ _ _ _ _ => pg_name (i := 2) scTable.nd rfl (Or.inl rfl)) (fun _ _ _ _ _ => pts_nil)
          (fun _ _ _ _ _ => pe_item_str pe_str (pe_call GB hr rfl B.g B.F.kp B.b .nil pass0 (pa_cons (pv 0) (pa_cons pe_int pa_nil))) (fun _ _ => rfl)))))), ?_⟩
    refine ⟨by show 9 ≤ sizeLine; decide, fun l1 hl1 => ?_⟩
    have nl1 : d ≠ l1 := ne_of_none hd hl1
    refine ⟨_, rfl, by show 3 ≤ sizeLine; decide, fun l2 hl2 => ?_⟩
    have hd0 : (upd (upd H l1 (.lst [.int 1, .int 2, .int 3, .int 4, .int 4, .int 6, .int 8, .int 12, .int 24])) l2 (.lst [.int 5, .int 7, .int 9])) d = some (.lst (st.map V.int)) := same_upd hl2 _ _ (same_upd hl1 _ _ hd)
    have nl12 : l1 ≠ l2 := ne_of_none upd_same hl2
    have nl2 : d ≠ l2 := ne_of_none (same_upd hl1 _ _ hd) hl2
    refine ⟨_, rfl, d, 3, st, rfl, hd0, hg, by decide, by decide, fun H1 st1 r1 k1 hd1 hg1 r10 r11 => ?_⟩
    have e2 : H1 l2 = some (.lst (([5, 7, 9] : List Int).map V.int)) := k1 _ _ nl2.symm upd_same
    have e1 : H1 l1 = some (.lst (([1, 2, 3, 4, 4, 6, 8, 12, 24] : List Int).map V.int)) := k1 _ _ nl1.symm (by rw [upd_ne nl12]; exact upd_same)
    have kA : Kp d H H1 := (sKp ((same_upd hl1).trans (same_upd hl2))).trans k1
    obtain ⟨z1, hz1, a1⟩ := at_mem (L := [5, 7, 9]) r10 (by simpa using r11)
    refine ⟨l2, _, r1, _, rfl, rfl, SqL.of e2, a1, d, z1, st1, rfl, hd1, hg1, ?_, ?_, fun H2 st2 r2 k2 hd2 hg2 r20 r21 => ?_⟩
    · simp at hz1; omega
    · simp at hz1; omega
    have e3 := k2 _ _ nl1.symm e1
    have kB : Kp d H H2 := kA.trans k2
    obtain ⟨z2, hz2, a2⟩ := at_mem (L := [1, 2, 3, 4, 4, 6, 8, 12, 24]) r20 (by simp at hz1 ⊢; omega)
    refine ⟨l1, _, r2, _, rfl, rfl, SqL.of e3, a2, ?_⟩
    have hz3 : 1 ≤ z2 ∧ z2 ≤ 24 ∧ z2.toNat ∈ [1, 2, 3, 4, 6, 8, 12, 24] := by
      simp only [List.mem_cons, List.not_mem_nil, or_false] at hz2
      rcases hz2 with h | h | h | h | h | h | h | h | h <;> subst h <;> decide
    refine ⟨⟨_, rfl⟩, _, rfl, z2, rfl, by omega, by omega, fun D hD => lc_range (lo := 0) (n := z2.toNat)
      (fun i H3 => ∃ (st3 : List Int) (cs : List Nat), Kp d H2 H3 ∧ H3 d = some (.lst (st3.map V.int)) ∧ Good st3 ∧ H3 D = some (.lst ((cs.map one).map V.str)) ∧ cs.length = i ∧ ∀ c ∈ cs, c = 104 ∨ c = 111)
      ⟨st2, [], sKp (same_upd hD), same_upd hD _ _ hd2, hg2, upd_same, rfl, fun c hc => by cases hc⟩ ?_ ?_⟩
    · rintro i H3 hi ⟨st3, cs, k3, hd3, hg3, eD, hcl, hc⟩
      have ndD : d ≠ D := ne_of_none hd2 hD
      refine ⟨rfl, _, rfl, d, 2, st3, rfl, hd3, hg3, by decide, by decide, fun H4 st4 r4 k4 hd4 hg4 r40 r41 => ?_⟩
      have add : ∀ (c : Nat), (c = 104 ∨ c = 111) → ∃ acc, H4 D = some (.lst acc) ∧ acc.length < sizeLine ∧
          ∃ (st3 : List Int) (cs : List Nat), Kp d H2 (upd H4 D (.lst (acc ++ [V.str (one c)]))) ∧ (upd H4 D (.lst (acc ++ [V.str (one c)]))) d = some (.lst (st3.map V.int)) ∧ Good st3 ∧ (upd H4 D (.lst (acc ++ [V.str (one c)]))) D = some (.lst ((cs.map one).map V.str)) ∧ cs.length = i + 1 ∧ ∀ c ∈ cs, c = 104 ∨ c = 111 := fun c hc1 => by
        refine ⟨_, k4 _ _ ndD.symm eD, ?_, st4, cs ++ [c], fun b o nb eb => ?_, by rw [upd_ne ndD]; exact hd4, hg4, by rw [upd_same]; simp, by rw [List.length_append, hcl]; rfl, fun x hx => ?_⟩
        · rw [List.length_map, List.length_map, hcl]; exact Nat.lt_of_le_of_lt (by omega : i ≤ 1000) (by decide)
        · rw [upd_ne (ne_of_none eb hD)]; exact k4 _ _ nb (k3 _ _ nb eb)
        · rcases List.mem_append.mp hx with hx | hx
          · exact hc x hx
          · rw [List.mem_singleton.mp hx]; exact hc1
      have r4c : r4 = 0 ∨ r4 = 1 := by omega
      rcases r4c with rfl | rfl
      · exact ⟨_, 0, 104, rfl, rfl, by decide, by decide, by decide +kernel, by decide +kernel, add 104 (.inl rfl)⟩
      · exact ⟨_, 1, 111, rfl, rfl, by decide, by decide, by decide +kernel, by decide +kernel, add 111 (.inr rfl)⟩
    · rintro H3 ⟨st3, cs, k3, hd3, hg3, eD, hcl, hc⟩
      refine ⟨_, D, cs.map one, rfl, rfl, .inl (SqL.of eD), ?_, ?_⟩
      · rw [ones_sum, hcl]
        have : (Str.ofString "").length = 0 := by decide +kernel
        rw [this]
        omega
      · refine k _ st3 _ (kB.trans k3) hd3 hg3 ⟨?_, ?_⟩
        · have e := tl_joined cs
          rw [show tl (Txt.join (Str.ofString "") (cs.map one)) = cs from e, hcl]
          exact hz3.2.2
        · rw [show tl (Txt.join (Str.ofString "") (cs.map one)) = cs from tl_joined cs]
          exact hc
end
end Dk

set_option Elab.async false
set_option linter.all false
set_option maxRecDepth 100000
set_option maxHeartbeats 4000000
namespace Dk
open PySem PySem.Spec PyProof.Rows L2 TL
/-! ### the period -/
def lens (ts : List Str) : List Nat := ts.map fun t => (tl t).length
def lcmL : List Nat → Nat → Nat
  | [], a => a
  | n :: r, a => lcmL r (a.lcm n)
def per (ts : List Str) : Nat := lcmL (lens ts) 1
theorem lcmL_dvd : ∀ (l : List Nat) (a m : Nat), a ∣ m → (∀ n ∈ l, n ∣ m) → lcmL l a ∣ m
  | [], a, m, h, _ => h
  | n :: r, a, m, h, k => lcmL_dvd r _ m (Nat.lcm_dvd h (k n (List.mem_cons_self ..))) fun x hx => k x (List.mem_cons_of_mem _ hx)
theorem dvd_lcmL : ∀ (l : List Nat) (a : Nat), a ∣ lcmL l a ∧ ∀ n ∈ l, n ∣ lcmL l a
  | [], a => ⟨Nat.dvd_refl _, fun n h => by cases h⟩
  | n :: r, a => by
    have ih := dvd_lcmL r (a.lcm n)
    refine ⟨Nat.dvd_trans (Nat.dvd_lcm_left a n) ih.1, fun x hx => ?_⟩
    rcases List.mem_cons.mp hx with e | hx
    · rw [e]; exact Nat.dvd_trans (Nat.dvd_lcm_right a n) ih.1
    · exact ih.2 x hx
def Tabs (ts : List Str) : Prop := ∀ t ∈ ts, IsTab t
theorem IsTab.dvd {t : Str} (h : IsTab t) : (tl t).length ∣ 24 := by
  have := h.len
  simp only [List.mem_cons, List.not_mem_nil, or_false] at this
  rcases this with e | e | e | e | e | e | e | e <;> rw [e] <;> decide
theorem per_24 {ts : List Str} (h : Tabs ts) : per ts ∣ 24 := lcmL_dvd _ _ _ (Nat.one_dvd _) fun n hn => by
  obtain ⟨t, ht, rfl⟩ := List.mem_map.mp hn
  exact (h t ht).dvd
theorem per_le {ts : List Str} (h : Tabs ts) : per ts ≤ 24 := Nat.le_of_dvd (by decide) (per_24 h)
theorem per_pos {ts : List Str} (h : Tabs ts) : 1 ≤ per ts := Nat.pos_of_ne_zero fun e => by
  have := per_24 h
  rw [e] at this
  exact absurd (Nat.eq_zero_of_zero_dvd this) (by decide)
theorem dvd_per {ts : List Str} {t : Str} (h : t ∈ ts) : (tl t).length ∣ per ts := (dvd_lcmL _ _).2 _ (List.mem_map.mpr ⟨t, h, rfl⟩)
theorem per_min {ts : List Str} {m : Nat} (h : ∀ t ∈ ts, (tl t).length ∣ m) : per ts ∣ m := lcmL_dvd _ _ _ (Nat.one_dvd _) fun n hn => by
  obtain ⟨t, ht, rfl⟩ := List.mem_map.mp hn
  exact h t ht
theorem IsTab.strOk {t : Str} (h : IsTab t) : PyData.strOk t = true := by
  unfold PyData.strOk
  rw [← Array.all_toList, List.all_eq_true]
  intro c hc
  have := h.ho c hc
  simp only [decide_eq_true_eq]
  omega
theorem dpAll_strs {K : PySem.W.Frag} {H : Hp} : ∀ ys : List Str, DpAll K H (ys.map V.str) (ys.map PyData.str)
  | [] => .nil
  | y :: ys => .cons (.str y) (dpAll_strs ys)
theorem shaped_strs : ∀ {ys : List Str}, Tabs ys → SeqAt.shaped (.list (ys.map PyData.str)) = true := by
  intro ys h
  have h1 : PyData.canLayAll0 (ys.map PyData.str) = true := by
    induction ys with
    | nil => rfl
    | cons y ys ih =>
      show (PyData.canLay0 (.str y) && PyData.canLayAll0 (ys.map PyData.str)) = true
      rw [ih fun t ht => h t (List.mem_cons_of_mem _ ht)]
      have := (h y (List.mem_cons_self ..)).strOk
      simp [PyData.canLay0, this]
  have h2 : PyData.depthAll (ys.map PyData.str) = 0 := by
    clear h h1
    induction ys with
    | nil => rfl
    | cons y ys ih => show max (PyData.depth (.str y)) (PyData.depthAll _) = 0; rw [ih]; rfl
  unfold SeqAt.shaped
  simp only [PyData.canLay0, PyData.depth, h1, h2]
  decide
theorem eqv_strs (ys : List Str) : PyData.eqv (.list (ys.map PyData.str)) (.list []) = ys.isEmpty := by
  cases ys <;> rfl
theorem fmod_pos {n m : Nat} (hm : 1 ≤ m) : (0 < (n : Int).fmod (m : Int)) ↔ ¬ m ∣ n := by
  have e : (n : Int).fmod (m : Int) = ((n % m : Nat) : Int) := by
    rw [Int.fmod_eq_emod_of_nonneg _ (by omega)]; rfl
  rw [e]
  constructor
  · intro h d
    rw [Nat.mod_eq_zero_of_dvd d] at h
    exact absurd h (by decide)
  · intro h
    have : n % m ≠ 0 := fun q => h (Nat.dvd_of_mod_eq_zero q)
    omega
/-! ### lcm -/
def rLcm : List V → Hp → VK → Prop := fun vs H Q => ∃ a b : Nat, vs = [.int (a : Int), .int (b : Int)] ∧ a ≤ 1000 ∧ b ≤ 1000 ∧ Q (.int ((Nat.lcm a b : Nat) : Int)) H
theorem cr_lcm {X : Cx} : CallR X (.builtin "math.lcm") rLcm := by
  intro pins s σ H vs us Q I r h
  obtain ⟨a, b, rfl, ha, hb, q⟩ := h
  obtain ⟨t, u, rfl⟩ := Vals.int2 r
  have e : (Nat.lcm 1 (a : Int).natAbs).lcm (b : Int).natAbs = Nat.lcm a b := by
    rw [Nat.lcm_one_left]; rfl
  have hle : Nat.lcm a b ≤ 1000000 := by
    have h1 : Nat.lcm a b ≤ a * b := Nat.div_le_self _ _
    have h2 : a * b ≤ 1000 * 1000 := Nat.mul_le_mul ha hb
    omega
  refine PySem.W.mg_lcm_v (c := ((Nat.lcm a b : Nat) : Int)) (by simp; omega) (by simp; omega) (by rw [e]) ?_ ⟨.int _, H, I.tok _, ⟨_, rfl⟩, q⟩
  rw [bitsLine_eq]
  have h3 : ((Nat.lcm a b : Nat) : Int).natAbs.log2 ≤ ((Nat.lcm a b : Nat) : Int).natAbs := Nat.log2_le_self _
  have h4 : ((Nat.lcm a b : Nat) : Int).natAbs = Nat.lcm a b := rfl
  omega
theorem lcmL_take {l : List Nat} {i x a : Nat} (h : l[i]? = some x) : lcmL (l.take (i + 1)) a = (lcmL (l.take i) a).lcm x := by
  rw [take_more h]
  generalize l.take i = p
  induction p generalizing a with
  | nil => rfl
  | cons y p ih => exact ih (a := a.lcm y)
theorem Tabs.take {ts : List Str} (h : Tabs ts) (n : Nat) : Tabs (ts.take n) := fun t ht => h t (List.mem_of_mem_take ht)
theorem lens_take (ts : List Str) (n : Nat) : lens (ts.take n) = (lens ts).take n := by unfold lens; rw [List.map_take]
theorem small_str {t : Str} (h : t.length ≤ 1000) : t.length ≤ sizeLine := Nat.le_trans h (by decide)
theorem IsTab.size {t : Str} (h : IsTab t) : t.length ≤ sizeLine := small_str (by rw [len_tl t]; have := h.pos.2; omega)
theorem filt1 {α : Type} {p : α → Bool} {x : α} (h : p x = true) : [x].filter p = [x] := by simp [h]
theorem filt0 {α : Type} {p : α → Bool} {x : α} (h : p x = false) : [x].filter p = [] := by simp [h]
def spPeriod (K : PySem.W.Frag) : Sp := fun vs H Q _ => ∃ (a : Addr) (ts : List Str), vs = [.ref a] ∧ SqT K H a (ts.map V.str) ∧ Tabs ts ∧ Q (.int ((per ts : Nat) : Int)) H
def spLength (K : PySem.W.Frag) : Sp := fun vs H Q _ => ∃ (a : Addr) (ts : List Str), vs = [.ref a] ∧ SqT K H a (ts.map V.str) ∧ Tabs ts ∧ ts.length ≤ 6 ∧ ∀ H', Same H H' → Q (.int ((per ts : Nat) : Int)) H'
structure TxtC (mg : Str → Option Value) : Prop where
  lcm : mg "lcm" = some (.builtin "math.lcm")
section
variable {P : Program} {w : World} {K : PySem.W.Frag} {mg : Str → Option Value} {base : Heap}
theorem scPeriod : FnScope ["tables", "ticks", "table"] ["tables"] (defScope sPeriod) := ⟨rfl, rfl, rfl, by decide +kernel, rfl, by decide +kernel, by decide +kernel⟩
theorem ok_period {f : Addr} {fd : FuncData} (F : Fun K "common_period" "common_period" sPeriod f fd) (T : TxtA mg) (TC : TxtC mg) : FnOk P w K mg base CX0 1 f fd ["tables"] (spPeriod K) := by
  refine F.ok scPeriod (fun vs H Q E h => ?_) (fun cdv A outer s H vs Q E hr h => ?_)
  · obtain ⟨a, ts, rfl, _⟩ := h
    rfl
  · obtain ⟨a, ts, rfl, hS, hT, k⟩ := h
    refine ⟨_, pss_cons (ps_set (i := 1) scPeriod.nd rfl (.inl rfl) pe_int)
      (pss_cons (ps_for PassesOwn.never rfl (pi_tup (pv 0)) (pg_name (i := 2) scPeriod.nd rfl (.inl rfl))
        (pss_one (ps_set (i := 1) scPeriod.nd rfl (.inl rfl) (pe_callBfun cr_lcm (by rfl) TC.lcm (pa_cons (pv 1) (pa_cons (pe_callB call_len_str (by rfl) T.len PySem.boot_len (pa_cons (pv 2) pa_nil)) pa_nil))))))
      (pss_one (ps_ret (pv 1)))), ?_⟩
    refine ⟨_, rfl, a, rfl, ⟨_, hS⟩, for_tup (K := K) (a := a) (xs := ts.map V.str) (fun i σ H' => ∃ v : Option V, σ = [some (.ref a), some (.int ((per (ts.take i) : Nat) : Int)), v] ∧ H' = H)
      ⟨none, rfl, rfl⟩ (fun i σ H' _ ⟨_, _, e⟩ => by rw [e]; exact hS) ?_ ?_⟩
    · rintro i y σ H' hi ⟨v, rfl, rfl⟩
      obtain ⟨t, ht, rfl⟩ := map_at hi
      have hm : t ∈ ts := List.mem_of_getElem? ht
      have hit := hT t hm
      have ex : (lens ts)[i]? = some (tl t).length := by unfold lens; rw [List.getElem?_map, ht]; rfl
      refine ⟨_, rfl, _, rfl, _, rfl, hit.size, per (ts.take i), (tl t).length, ?_, ?_, ?_, ?_⟩
      · rw [len_tl t]
      · have := per_le (hT.take i); omega
      · have := hit.pos.2; omega
      · refine ⟨some (.str t), ?_, rfl⟩
        show _ = [some (V.ref a), some (V.int ((per (ts.take (i + 1)) : Nat) : Int)), some (V.str t)]
        unfold per
        rw [lens_take, lens_take, lcmL_take ex]
        rfl
    · rintro σ H' ⟨v, rfl, rfl⟩
      rw [List.length_map, List.take_length]
      exact ⟨_, rfl, k⟩
theorem scLength : FnScope ["_law_tables", "_law_length_here", "_law_table_here"] ["_law_tables"] (defScope sLength) := ⟨rfl, rfl, rfl, by decide +kernel, rfl, by decide +kernel, by decide +kernel⟩
theorem ok_length {f : Addr} {fd : FuncData} (F : Fun K "_law_length" "_law_length" sLength f fd) (T : TxtA mg) : FnOk P w K mg base CX0 1 f fd ["_law_tables"] (spLength K) := by
  refine F.ok scLength (fun vs H Q E h => ?_) (fun cdv A outer s H vs Q E hr h => ?_)
  · obtain ⟨a, ts, rfl, _⟩ := h
    rfl
  · obtain ⟨a, ts, rfl, hS, hT, hl6, k⟩ := h
    refine ⟨_, pss_cons (ps_set (i := 1) scLength.nd rfl (.inr rfl) pe_int)
      (pss_cons (ps_while PassesOwn.never (pt_cmpR (op_neD hr.units) (pe_lc (own := [("_law_table_here", 2)]) (g := gName 2) (by rfl) scLength.nd (pi_tup (pv 0)) (blkOk_by (N := ["_law_tables", "_law_length_here", "_law_table_here"]) (sc := defScope sLength) (by decide +kernel))
          (fun _ _ _ _ _ => pg_name (i := 2) scLength.nd rfl (Or.inl rfl)) (fun _ _ _ _ _ => pts_one (pt_cmpR op_gt (pe_op op_modN (pv 1) (pe_callB call_len_str (by rfl) T.len PySem.boot_len (pa_cons (pv 2) pa_nil))) pe_int (nomark _))) (fun _ _ _ _ _ => pv 2)) (pe_lst pa_nil) (nomark _))
        (pss_one (ps_set (i := 1) scLength.nd rfl (.inr rfl) (pe_op op_add (pv 1) pe_int))))
      (pss_one (ps_ret (pv 1)))), ?_⟩
    refine ⟨fun m σ H' => ∃ n : Nat, σ = [some (.ref a), some (.int (n : Int)), none] ∧ Same H H' ∧ 1 ≤ n ∧ n ≤ per ts ∧ m = per ts - n, ⟨_, 1, rfl, Same.refl H, Nat.le_refl _, per_pos hT, rfl⟩, ?_⟩
    rintro m σ H' ⟨n, rfl, s1, h1, h2, rfl⟩
    have hS1 := sSqT s1 hS
    refine ⟨_, rfl, a, rfl, ⟨_, hS1⟩, fun D hD => lc_tup (K := K) (a := a) (xs := ts.map V.str)
      (fun i H3 => ∃ ys : List Str, Same H' H3 ∧ H3 D = some (.lst (ys.map V.str)) ∧ ys = (ts.take i).filter (fun t => decide (¬ (tl t).length ∣ n)) ∧ ys.length ≤ i)
      ⟨[], same_upd hD, upd_same, rfl, Nat.le_refl _⟩ (fun i H3 _ ⟨_, e, _⟩ => sSqT e hS1) ?_ ?_⟩
    · rintro i y H3 hi ⟨ys, s3, eD, hys, hyl⟩
      obtain ⟨t, ht, rfl⟩ := map_at hi
      have hil : i < ts.length := (List.getElem?_eq_some_iff.mp ht).1
      have hit := hT t (List.mem_of_getElem? ht)
      have hlen : t.length = (tl t).length := len_tl t
      refine ⟨rfl, _, rfl, _, rfl, _, rfl, hit.size, _, _, rfl, rfl, (by have := hit.pos.1; omega), _, _, rfl, rfl, _, rfl, ite2 (fun c => ?_) (fun c => ?_)⟩
      · have c' := of_decide_eq_true c
        rw [hlen, fmod_pos hit.pos.1] at c'
        refine ⟨_, rfl, _, eD, ?_, ys ++ [t], fun b o eb => ?_, ?_, ?_, ?_⟩
        · rw [List.length_map]; exact Nat.lt_of_le_of_lt (by omega : ys.length ≤ 1000) (by decide)
        · rw [upd_ne (ne_of_none eb hD)]; exact s3 _ _ eb
        · rw [upd_same]; simp
        · rw [take_more ht, List.filter_append, ← hys, show List.filter (fun t => decide (¬ (tl t).length ∣ n)) [t] = [t] from filt1 (decide_eq_true c')]
        · rw [List.length_append, List.length_singleton]; omega
      · have c' : ¬ (0 < (n : Int).fmod (t.length : Int)) := fun q => c (decide_eq_true q)
        rw [hlen, fmod_pos hit.pos.1] at c'
        refine ⟨ys, s3, eD, ?_, by omega⟩
        rw [take_more ht, List.filter_append, ← hys, show List.filter (fun t => decide (¬ (tl t).length ∣ n)) [t] = [] from filt0 (decide_eq_false c'), List.append_nil]
    · rintro H3 ⟨ys, s3, eD, hys, hyl⟩
      rw [List.length_map, List.take_length] at hys
      refine ⟨Nat.zero_le _, fun l hl => ?_⟩
      have eD2 := same_upd (o := .lst []) hl _ _ eD
      have hTy : Tabs ys := fun t ht => hT t (by rw [hys] at ht; exact (List.mem_filter.mp ht).1)
      refine ⟨.list (ys.map PyData.str), .list [], .lst (SqL.of eD2) (dpAll_strs ys), .lst (SqL.of upd_same) .nil, shaped_strs hTy, by decide, _, rfl, ?_⟩
      rw [eqv_strs]
      have s5 : Same H (upd H3 l (.lst [])) := (s1.trans s3).trans (same_upd hl)
      cases hy : ys with
      | nil =>
        refine iteF ⟨_, rfl, ?_⟩
        have all : ∀ t ∈ ts, (tl t).length ∣ n := fun t ht => by
          by_cases d : (tl t).length ∣ n
          · exact d
          · have : t ∈ ys := by rw [hys]; exact List.mem_filter.mpr ⟨ht, decide_eq_true d⟩
            rw [hy] at this
            cases this
        have e : n = per ts := Nat.le_antisymm h2 (Nat.le_of_dvd h1 (per_min all))
        rw [e]
        exact k _ s5
      | cons t0 ys' =>
        refine iteT ?_
        have hne : n ≠ per ts := fun e => by
          have hm : t0 ∈ ts.filter (fun t => decide (¬ (tl t).length ∣ n)) := by rw [← hys, hy]; exact List.mem_cons_self ..
          have := List.mem_filter.mp hm
          exact (of_decide_eq_true this.2) (by rw [e]; exact dvd_per this.1)
        refine ⟨fun σ' H'' => ∃ n' : Nat, σ' = [some (.ref a), some (.int (n' : Int)), none] ∧ Same H H'' ∧ 1 ≤ n' ∧ n' ≤ per ts ∧ n' = n + 1, fun σ' H'' ⟨n', e1, e2, e3, e4, e5⟩ => ⟨per ts - n', by omega, n', e1, e2, e3, e4, rfl⟩, ?_⟩
        exact ⟨_, rfl, _, _, rfl, rfl, n + 1, rfl, s5, by omega, by omega, rfl⟩
end
end Dk

set_option Elab.async false
set_option linter.all false
set_option maxRecDepth 100000
set_option maxHeartbeats 4000000
namespace Dk
open PySem PySem.Spec PyProof.Rows L2 TL
/-! ### pairs -/
abbrev Pr := Int × Int
def PrAt (H : Hp) (x : V) (r : Pr) : Prop := ∃ t, x = .ref t ∧ H t = some (.tup [.int r.1, .int r.2])
def Prs (H : Hp) (xs : List V) (rs : List Pr) : Prop := Paired (PrAt H) xs rs
theorem Prs.app {H : Hp} : ∀ {xs : List V} {rs : List Pr} {x : V} {r : Pr}, Prs H xs rs → PrAt H x r → Prs H (xs ++ [x]) (rs ++ [r])
  | [], [], _, _, .nil, h => .cons h .nil
  | _ :: _, _ :: _, _, _, .cons a b, h => .cons a (Prs.app b h)
theorem Prs.mono {H H' : Hp} : ∀ {xs : List V} {rs : List Pr}, (∀ t ys, H t = some (.tup ys) → H' t = some (.tup ys)) → Prs H xs rs → Prs H' xs rs
  | [], [], _, .nil => .nil
  | _ :: _, _ :: _, k, .cons ⟨t, e, h⟩ b => .cons ⟨t, e, k _ _ h⟩ (Prs.mono k b)
theorem kp_tup {d : Addr} {H H' : Hp} {xs : List V} (k : Kp d H H') (hd : H d = some (.lst xs)) : ∀ t ys, H t = some (.tup ys) → H' t = some (.tup ys) := fun t ys h => k t _ (fun e => by rw [e, hd] at h; cases h) h
theorem Prs.len {H : Hp} {xs : List V} {rs : List Pr} (h : Prs H xs rs) : xs.length = rs.length := Paired.length h
def kf (H : Hp) : V → Pr
  | .ref t => match H t with
    | some (.tup [.int i, .int j]) => (i, j)
    | _ => (0, 0)
  | _ => (0, 0)
theorem kf_at {H : Hp} {x : V} {r : Pr} (h : PrAt H x r) : kf H x = r := by
  obtain ⟨t, rfl, e⟩ := h
  show (match H t with | some (.tup [.int i, .int j]) => (i, j) | _ => (0, 0)) = r
  rw [e]
theorem Prs.kf {H : Hp} : ∀ {xs : List V} {rs : List Pr}, Prs H xs rs → xs.map (kf H) = rs
  | [], [], .nil => rfl
  | _ :: _, _ :: _, .cons a b => by rw [List.map_cons, kf_at a, Prs.kf b]
theorem Prs.mem {H : Hp} : ∀ {xs : List V} {rs : List Pr}, Prs H xs rs → ∀ x ∈ xs, PrAt H x (Dk.kf H x)
  | [], [], .nil, _, h => by cases h
  | _ :: _, _ :: _, .cons a b, x, h => by
    rcases List.mem_cons.mp h with rfl | h
    · rw [kf_at a]; exact a
    · exact Prs.mem b x h
theorem Prs.of_mem {H : Hp} : ∀ {xs : List V}, (∀ x ∈ xs, PrAt H x (Dk.kf H x)) → Prs H xs (xs.map (Dk.kf H))
  | [], _ => .nil
  | x :: xs, h => .cons (h x (List.mem_cons_self ..)) (Prs.of_mem fun y hy => h y (List.mem_cons_of_mem _ hy))
/-- r before s -/
def plt (r s : Pr) : Prop := r.1 < s.1 ∨ (r.1 = s.1 ∧ r.2 < s.2)
def prR (r : Pr) : PyData := .tuple [.int r.1, .int r.2]
theorem prR_eqv (r s : Pr) : PyData.eqv (prR r) (prR s) = decide (r = s) := by
  obtain ⟨a, b⟩ := r
  obtain ⟨c, d⟩ := s
  show (a == c && (b == d && true)) = decide ((a, b) = (c, d))
  by_cases h1 : a = c
  · by_cases h2 : b = d
    · subst h1 h2; simp
    · simp [h2]
  · simp [h1]
theorem any_eqv (rs : List Pr) (r : Pr) : ((rs.map prR).any fun z => PyData.eqv z (prR r)) = decide (r ∈ rs) := by
  induction rs with
  | nil => rfl
  | cons s rs ih =>
    rw [List.map_cons, List.any_cons, ih, prR_eqv]
    by_cases h : s = r
    · subst h; simp
    · have h' : r ≠ s := fun e => h e.symm
      simp [h, h']
theorem prR_shaped (r : Pr) : SeqAt.shaped (prR r) = true := by
  unfold SeqAt.shaped prR
  simp [PyData.canLay0, PyData.canLayAll0, PyData.depth, PyData.depthAll]
theorem prRs_shaped (rs : List Pr) : SeqAt.shaped (.list (rs.map prR)) = true := by
  have h1 : PyData.canLayAll0 (rs.map prR) = true := by
    induction rs with
    | nil => rfl
    | cons r rs ih => show (PyData.canLay0 (prR r) && PyData.canLayAll0 (rs.map prR)) = true; rw [ih]; rfl
  have h2 : PyData.depthAll (rs.map prR) ≤ 1 := by
    clear h1
    induction rs with
    | nil => exact Nat.zero_le _
    | cons r rs ih => show max (PyData.depth (prR r)) (PyData.depthAll (rs.map prR)) ≤ 1; exact Nat.max_le.mpr ⟨by show max 0 (max 0 0) + 1 ≤ 1; decide, ih⟩
  have h3 : PyData.depth (.list (rs.map prR)) ≤ 64 := by
    show PyData.depthAll (rs.map prR) + 1 ≤ 64
    omega
  unfold SeqAt.shaped
  rw [show PyData.canLay0 (.list (rs.map prR)) = true from h1, decide_eq_true h3]
  rfl
theorem dp_pr {K : PySem.W.Frag} {H : Hp} {x : V} {r : Pr} (h : PrAt H x r) : Dp K H x (prR r) := by
  obtain ⟨t, rfl, e⟩ := h
  exact .tup (SqT.of e) (.cons (.int _) (.cons (.int _) .nil))
theorem dpAll_prs {K : PySem.W.Frag} {H : Hp} : ∀ {xs : List V} {rs : List Pr}, Prs H xs rs → DpAll K H xs (rs.map prR)
  | [], [], .nil => .nil
  | _ :: _, _ :: _, .cons a b => .cons (dp_pr a) (dpAll_prs b)
theorem lex_plt {r s : Pr} (h : SrtO.lexB s r = false) (n : r ≠ s) : plt r s := by
  have a := SrtO.lexB_no.mp h
  obtain ⟨r1, r2⟩ := r
  obtain ⟨s1, s2⟩ := s
  simp only [plt] at *
  by_cases h1 : r1 = s1
  · subst h1
    by_cases h2 : r2 = s2
    · subst h2; exact absurd rfl n
    · right; omega
  · left; omega
theorem sorted_plt : ∀ {l : List Pr}, l.Pairwise (fun x y => SrtO.lexB y x = false) → l.Nodup → l.Pairwise plt
  | [], _, _ => .nil
  | x :: l, h, n => by
    have h' := List.pairwise_cons.mp h
    have n' := List.nodup_cons.mp n
    exact .cons (fun y hy => lex_plt (h'.1 y hy) fun e => n'.1 (e ▸ hy)) (sorted_plt h'.2 n'.2)
/-- the parts of a house -/
structure Parts (ts : List Str) (keys : Int) (cs : List Int) (rs : List Pr) : Prop where
  tabs : Tabs ts
  n1 : 1 ≤ ts.length
  n6 : ts.length ≤ 6
  k0 : 0 ≤ keys
  k9 : keys ≤ 9
  cp : cs.Pairwise (· < ·)
  cm : ∀ c ∈ cs, (0 : Int) ≤ c ∧ c < (ts.length : Int)
  rp : rs.Pairwise plt
  rm : ∀ r ∈ rs, (0 : Int) ≤ r.1 ∧ r.1 < ((per ts : Nat) : Int) ∧ (0 : Int) ≤ r.2 ∧ r.2 < (ts.length : Int)
  r10 : rs.length ≤ 10
structure PartsAt (H : Hp) (a : Addr) (ts : List Str) (keys : Int) (cs : List Int) (rs : List Pr) : Prop where
  ex : ∃ aT aC aR xs, H a = some (.tup [.ref aT, .int keys, .ref aC, .ref aR]) ∧ H aT = some (.tup (ts.map V.str)) ∧ H aC = some (.tup (cs.map V.int)) ∧ H aR = some (.tup xs) ∧ Prs H xs rs
theorem PartsAt.mono {H H' : Hp} {a : Addr} {ts : List Str} {keys : Int} {cs : List Int} {rs : List Pr} (h : PartsAt H a ts keys cs rs) (k : ∀ t ys, H t = some (.tup ys) → H' t = some (.tup ys)) : PartsAt H' a ts keys cs rs := by
  obtain ⟨aT, aC, aR, xs, e1, e2, e3, e4, e5⟩ := h
  exact ⟨aT, aC, aR, xs, k _ _ e1, k _ _ e2, k _ _ e3, k _ _ e4, e5.mono k⟩
end Dk

set_option Elab.async false
set_option linter.all false
set_option maxRecDepth 100000
set_option maxHeartbeats 4000000
namespace Dk
open PySem PySem.Spec PyProof.Rows L2 TL
def spParts : Sp := fun vs H Q _ => ∃ (d : Addr) (most : Int) (st : List Int), vs = [.ref d, .int most] ∧ H d = some (.lst (st.map V.int)) ∧ Good st ∧ 1 ≤ most ∧ most ≤ 6 ∧
  ∀ (H' : Hp) (st' : List Int) (a : Addr) (ts : List Str) (keys : Int) (cs : List Int) (rs : List Pr), Kp d H H' → H' d = some (.lst (st'.map V.int)) → Good st' → PartsAt H' a ts keys cs rs → Parts ts keys cs rs → Q (.ref a) H'
structure TxtD (K : PySem.W.Frag) (mg : Str → Option Value) (fT fL : Addr) (fdT fdL : FuncData) : Prop where
  gT : mg "_law_table" = some (.ref fT)
  FT : Fun K "_law_table" "_law_table" sTable fT fdT
  bT : Binds K fdT ["_law_d"] []
  gL : mg "_law_length" = some (.ref fL)
  FL : Fun K "_law_length" "_law_length" sLength fL fdL
  bL : Binds K fdL ["_law_tables"] []
  tuple : mg "tuple" = none
  sorted : mg "sorted" = none
abbrev nParts : List Str := ["_law_d", "_law_most", "_law_k", "_law_tables", "_law_careful", "_law_length_here", "_law_reminders", "_law_reminder"]
section
variable {P : Program} {w : World} {K : PySem.W.Frag} {mg : Str → Option Value} {base : Heap}
theorem scParts : FnScope nParts ["_law_d", "_law_most"] (defScope sParts) := ⟨rfl, rfl, rfl, by decide +kernel, rfl, by decide +kernel, by decide +kernel⟩
theorem ok_parts {f fB fT fL : Addr} {fd fdB fdT fdL : FuncData} (F : Fun K "_law_parts" "_law_parts" sParts f fd) (T : TxtA mg) (B : TxtB K mg fB fdB) (D' : TxtD K mg fT fL fdT fdL) : FnOk P w K mg base CX0 3 f fd ["_law_d", "_law_most"] spParts := by
  have GB : FnOk P w K mg base CX0 1 fB fdB ["_law_d", "_law_limit"] spBelow := ok_below B.F T
  have GT : FnOk P w K mg base CX0 2 fT fdT ["_law_d"] spTable := ok_table D'.FT T B
  have GL : FnOk P w K mg base CX0 1 fL fdL ["_law_tables"] (spLength K) := ok_length D'.FL T
  refine F.ok scParts (fun vs H Q E h => ?_) (fun cdv A outer s H vs Q E hr h => ?_)
  · obtain ⟨d, most, st, rfl, _⟩ := h
    rfl
  · obtain ⟨d, most, st, rfl, hd, hg, hm1, hm6, k⟩ := h
    have hr1 : Room 1 _ := hr.mono (by decide)
    have hu : (A.deeper (envOfC (Str.ofString "_law_parts") (defScope sParts) s.heap.objs.size f cdv)).units + 65 < cLine := by have := hr.un; omega
    refine ⟨_, pss_cons (ps_set (i := 3) scParts.nd rfl (.inl rfl) (pe_callTy call_tuple_of (by rfl) D'.tuple (by decide +kernel) (pa_cons
        (pe_lc (own := [("_law_k", 2)]) (g := gName 2) (by rfl) scParts.nd (pi_range1 rfl T.range (pa_cons (pe_op op_add pe_int (pe_call GB hr1 rfl B.g B.F.kp B.b .nil pass0 (pa_cons (pv 0) (pa_cons (pv 1) pa_nil)))) pa_nil)) (blkOk_by (N := nParts) (sc := defScope sParts) (by decide +kernel))
          (fun _ _ _ _ _ => pg_name (i := 2) scParts.nd rfl (Or.inl rfl)) (fun _ _ _ _ _ => pts_nil)
          (fun _ _ _ _ _ => pe_call GT hr rfl D'.gT D'.FT.kp D'.bT .nil pass0 (pa_cons (pv 0) pa_nil))) pa_nil)))
      (pss_cons (ps_set (i := 4) scParts.nd rfl (.inl rfl) (pe_callTy call_tuple_of (by rfl) D'.tuple (by decide +kernel) (pa_cons
        (pe_lc (own := [("_law_k", 2)]) (g := gName 2) (by rfl) scParts.nd (pi_range1 rfl T.range (pa_cons (pe_callB call_len_seq (by rfl) T.len PySem.boot_len (pa_cons (pv 3) pa_nil)) pa_nil)) (blkOk_by (N := nParts) (sc := defScope sParts) (by decide +kernel))
          (fun _ _ _ _ _ => pg_name (i := 2) scParts.nd rfl (Or.inl rfl)) (fun _ _ _ _ _ => pts_one (pt_cmpR op_eq (pe_call GB hr1 rfl B.g B.F.kp B.b .nil pass0 (pa_cons (pv 0) (pa_cons pe_int pa_nil))) pe_int (nomark _)))
          (fun _ _ _ _ _ => pv 2)) pa_nil)))
      (pss_cons (ps_par (by rfl) scParts.nd (i := 5) (j := 6) rfl rfl (by decide) rfl rfl (pa_cons (pe_call GL hr1 rfl D'.gL D'.FL.kp D'.bL .nil pass0 (pa_cons (pv 3) pa_nil)) (pa_cons (pe_lst pa_nil) pa_nil)) (by rfl))
      (pss_cons (ps_for PassesOwn.never rfl (pi_range1 rfl T.range (pa_cons (pe_call GB hr1 rfl B.g B.F.kp B.b .nil pass0 (pa_cons (pv 0) (pa_cons
            (pe_ix ix_list (pe_lst (pa_cons pe_int (pa_cons pe_int (pa_cons pe_int pa_nil)))) (pe_call GB hr1 rfl B.g B.F.kp B.b .nil pass0 (pa_cons (pv 0) (pa_cons pe_int pa_nil))) (fun _ _ => rfl)) pa_nil))) pa_nil)) (pg_name (i := 2) scParts.nd rfl (.inl rfl))
          (pss_cons (ps_set (i := 7) scParts.nd rfl (.inl rfl) (pe_tup (pa_cons (pe_call GB hr1 rfl B.g B.F.kp B.b .nil pass0 (pa_cons (pv 0) (pa_cons (pv 5) pa_nil)))
              (pa_cons (pe_call GB hr1 rfl B.g B.F.kp B.b .nil pass0 (pa_cons (pv 0) (pa_cons (pe_callB call_len_seq (by rfl) T.len PySem.boot_len (pa_cons (pv 3) pa_nil)) pa_nil))) pa_nil))))
          (pss_one (ps_if (pt_cmpR (op_notInD hu) (pv 7) (pv 6) (by rfl))
            (pss_one (ps_expr (pe_bm PySem.F.plainAttrs_list PySem.F.slot_list_append PySem.F.type_list_append mt_append (pv 6) (pa_cons (pv 7) pa_nil)))) pss_nil))))
      (pss_one (ps_ret (pe_tup (pa_cons (pv 3) (pa_cons (pe_call GB hr1 rfl B.g B.F.kp B.b .nil pass0 (pa_cons (pv 0) (pa_cons
            (pe_ix ix_list (pe_lst (pa_cons pe_int (pa_cons pe_int pa_nil))) (pe_call GB hr1 rfl B.g B.F.kp B.b .nil pass0 (pa_cons (pv 0) (pa_cons pe_int pa_nil))) (fun _ _ => rfl)) pa_nil)))
          (pa_cons (pv 4) (pa_cons (pe_callTy call_tuple_of (by rfl) D'.tuple (by decide +kernel) (pa_cons (pe_callB cr_sortedPO (by rfl) D'.sorted (by decide +kernel) (pa_cons (pv 6) pa_nil)) pa_nil)) pa_nil)))))))))), ?_⟩
    -- the timetables
    refine ⟨_, rfl, _, rfl, d, most, st, rfl, hd, hg, hm1, by omega, fun H1 st1 r1 k1 hd1 hg1 r10 r11 => ?_⟩
    refine ⟨_, _, rfl, rfl, _, rfl, by omega, by omega, fun D hD => lc_range (lo := 0) (n := (1 + r1).toNat)
      (fun i H3 => ∃ (st3 : List Int) (ts : List Str), Kp d H1 H3 ∧ H3 d = some (.lst (st3.map V.int)) ∧ Good st3 ∧ H3 D = some (.lst (ts.map V.str)) ∧ ts.length = i ∧ Tabs ts)
      ⟨st1, [], sKp (same_upd hD), same_upd hD _ _ hd1, hg1, upd_same, rfl, fun t ht => by cases ht⟩ ?_ ?_⟩
    · rintro i H3 hi ⟨st3, ts, k3, hd3, hg3, eD, hl, hT⟩
      have ndD : d ≠ D := ne_of_none hd1 hD
      refine ⟨rfl, _, rfl, d, st3, rfl, hd3, hg3, fun H4 st4 t k4 hd4 hg4 ht => ?_⟩
      refine ⟨_, k4 _ _ ndD.symm eD, ?_, st4, ts ++ [t], fun b o nb eb => ?_, by rw [upd_ne ndD]; exact hd4, hg4, by rw [upd_same]; simp, by rw [List.length_append, hl]; rfl, fun x hx => ?_⟩
      · rw [List.length_map, hl]; exact Nat.lt_of_le_of_lt (by omega : i ≤ 1000) (by decide)
      · rw [upd_ne (ne_of_none eb hD)]; exact k4 _ _ nb (k3 _ _ nb eb)
      · rcases List.mem_append.mp hx with hx | hx
        · exact hT x hx
        · rw [List.mem_singleton.mp hx]; exact ht
    rintro H3 ⟨st3, ts, k3, hd3, hg3, eD, hl, hT⟩
    have hl6 : 1 ≤ ts.length ∧ ts.length ≤ 6 := by omega
    clear hl
    refine ⟨D, ts.map V.str, rfl, .inl ⟨SqL.of eD, fun aT haT => ?_⟩⟩
    have kA : Kp d H (upd H3 aT (.tup (ts.map V.str))) := (k1.trans k3).trans (sKp (same_upd haT))
    have hdA : (upd H3 aT (.tup (ts.map V.str))) d = some (.lst (st3.map V.int)) := same_upd haT _ _ hd3
    have eT : (upd H3 aT (.tup (ts.map V.str))) aT = some (.tup (ts.map V.str)) := upd_same
    generalize upd H3 aT (.tup (ts.map V.str)) = HA at kA hdA eT
    clear k1 hd1 hg1 k3 hd3 eD haT hD hd hg
    -- the careful persons
    refine ⟨_, rfl, aT, _, rfl, .inr (SqT.of eT), _, rfl, by omega, by rw [List.length_map]; omega, fun D hD => lc_range (lo := 0) (n := (((ts.map V.str).length : Nat) : Int).toNat)
      (fun i H3 => ∃ (st3 : List Int) (cs : List Int), Kp d HA H3 ∧ H3 d = some (.lst (st3.map V.int)) ∧ Good st3 ∧ H3 D = some (.lst (cs.map V.int)) ∧ cs.length ≤ i ∧ cs.Pairwise (· < ·) ∧ ∀ c ∈ cs, (0 : Int) ≤ c ∧ c < (i : Int))
      ⟨st3, [], sKp (same_upd hD), same_upd hD _ _ hdA, hg3, upd_same, Nat.le_refl _, .nil, fun t ht => by cases ht⟩ ?_ ?_⟩
    · rintro i H3 hi ⟨st3, cs, k3, hd3, hg3, eD, hl, hP, hC⟩
      have ndD : d ≠ D := ne_of_none hdA hD
      rw [List.length_map] at hi
      refine ⟨rfl, _, rfl, d, 3, st3, rfl, hd3, hg3, by decide, by decide, fun H4 st4 r4 k4 hd4 hg4 r40 r41 => ?_⟩
      have eD4 := k4 _ _ ndD.symm eD
      refine ⟨rfl, _, rfl, ite2 (fun c => ?_) (fun c => ?_)⟩
      · refine ⟨_, rfl, _, eD4, ?_, st4, cs ++ [(0 : Int) + (i : Int)], fun b o nb eb => ?_, by rw [upd_ne ndD]; exact hd4, hg4, by rw [upd_same]; simp, by rw [List.length_append, List.length_singleton]; omega, ?_, fun x hx => ?_⟩
        · rw [List.length_map]; exact Nat.lt_of_le_of_lt (by omega : cs.length ≤ 1000) (by decide)
        · rw [upd_ne (ne_of_none eb hD)]; exact k4 _ _ nb (k3 _ _ nb eb)
        · refine List.pairwise_append.mpr ⟨hP, List.pairwise_singleton _ _, fun x hx y hy => ?_⟩
          rw [List.mem_singleton.mp hy]
          have := hC x hx
          omega
        · rcases List.mem_append.mp hx with hx | hx
          · have := hC x hx; omega
          · rw [List.mem_singleton.mp hx]; omega
      · exact ⟨st4, cs, fun b o nb eb => k4 _ _ nb (k3 _ _ nb eb), hd4, hg4, eD4, by omega, hP, fun x hx => by have := hC x hx; omega⟩
    rintro H3 ⟨st4, cs, k3, hd3, hg4, eD, hl, hCP, hCM⟩
    rw [List.length_map] at hl hCM
    refine ⟨D, cs.map V.int, rfl, .inl ⟨SqL.of eD, fun aC haC => ?_⟩⟩
    have kB : Kp d H (upd H3 aC (.tup (cs.map V.int))) := (kA.trans k3).trans (sKp (same_upd haC))
    have hdB : (upd H3 aC (.tup (cs.map V.int))) d = some (.lst (st4.map V.int)) := same_upd haC _ _ hd3
    have eT2 : (upd H3 aC (.tup (cs.map V.int))) aT = some (.tup (ts.map V.str)) := same_upd haC _ _ (kp_tup k3 hdA _ _ eT)
    have eC : (upd H3 aC (.tup (cs.map V.int))) aC = some (.tup (cs.map V.int)) := upd_same
    generalize upd H3 aC (.tup (cs.map V.int)) = HB at kB hdB eT2 eC
    clear kA hdA eT k3 hd3 hg3 eD haC hD
    -- the period; no reminders yet
    refine ⟨_, rfl, aT, ts, rfl, SqT.of eT2, hT, hl6.2, fun HC sC => ?_⟩
    refine ⟨Nat.zero_le _, fun l hL => ?_⟩
    have kC : Kp d H (upd HC l (.lst [])) := (kB.trans (sKp sC)).trans (sKp (same_upd hL))
    have hdC := same_upd (o := .lst []) hL _ _ (sC _ _ hdB)
    have eT3 := same_upd (o := .lst []) hL _ _ (sC _ _ eT2)
    have eC3 := same_upd (o := .lst []) hL _ _ (sC _ _ eC)
    have eL : (upd HC l (.lst [])) l = some (.lst []) := upd_same
    have ndl : d ≠ l := ne_of_none (sC _ _ hdB) hL
    have nHl : H l = none := by
      cases q : H l with
      | none => rfl
      | some o =>
        have := (kB.trans (sKp sC)) l o ndl.symm q
        rw [hL] at this
        cases this
    generalize upd HC l (.lst []) = HD at kC hdC eT3 eC3 eL
    clear kB hdB eT2 eC sC hL
    refine ⟨_, _, rfl, ?_⟩
    -- the reminders
    refine ⟨_, rfl, by show 3 ≤ sizeLine; decide, fun l1 hl1 => ?_⟩
    have s1 : Same HD (upd HD l1 (.lst [.int 1, .int 4, .int 11])) := same_upd hl1
    have n1 : l1 ≠ d := (ne_of_none hdC hl1).symm
    refine ⟨_, rfl, d, 3, st4, rfl, s1 _ _ hdC, hg4, by decide, by decide, fun HE st5 r5 k5 hd5 hg5 r50 r51 => ?_⟩
    have e1 : HE l1 = some (.lst (([1, 4, 11] : List Int).map V.int)) := k5 _ _ n1 upd_same
    obtain ⟨z1, hz1, a1⟩ := at_mem (L := [1, 4, 11]) r50 (by simpa using r51)
    have hz : 1 ≤ z1 ∧ z1 ≤ 11 := by simp at hz1; omega
    refine ⟨l1, _, r5, _, rfl, rfl, SqL.of e1, a1, d, z1, st5, rfl, hd5, hg5, hz.1, by omega, fun HF st6 r6 k6 hd6 hg6 r60 r61 => ?_⟩
    have kF : Kp d HD HF := (sKp s1).trans (k5.trans k6)
    have tF := kp_tup kF hdC
    refine ⟨_, rfl, by omega, by omega, for_range (lo := 0) (n := r6.toNat)
      (fun i σ H' => ∃ (st7 : List Int) (xs : List V) (rs : List Pr) (v2 v7 : Option V), σ = [some (.ref d), some (.int most), v2, some (.ref aT), some (.ref aC), some (.int ((per ts : Nat) : Int)), some (.ref l), v7] ∧
        Kp d H H' ∧ H' d = some (.lst (st7.map V.int)) ∧ Good st7 ∧ H' aT = some (.tup (ts.map V.str)) ∧ H' aC = some (.tup (cs.map V.int)) ∧ H' l = some (.lst xs) ∧ Prs H' xs rs ∧ rs.Nodup ∧ rs.length ≤ i ∧
        ∀ r ∈ rs, (0 : Int) ≤ r.1 ∧ r.1 < ((per ts : Nat) : Int) ∧ (0 : Int) ≤ r.2 ∧ r.2 < (ts.length : Int))
      ⟨st6, [], [], none, none, rfl, kC.trans kF, hd6, hg6, tF _ _ eT3, tF _ _ eC3, kF _ _ ndl.symm eL, .nil, .nil, Nat.le_refl _, fun r hr => by cases hr⟩ ?_ ?_⟩
    · rintro i σ H' hi ⟨st7, xs, rs, v2, v7, rfl, kG, hd7, hg7, eT4, eC4, eL4, hP, hN, hlen, hM⟩
      refine ⟨_, rfl, _, rfl, d, _, st7, rfl, hd7, hg7, by have := per_pos hT; omega, by have := per_le hT; omega, fun H5 st8 ra k8 hd8 hg8 ra0 ra1 => ?_⟩
      refine ⟨_, rfl, _, rfl, aT, _, rfl, .inr (SqT.of (kp_tup k8 hd7 _ _ eT4)), d, _, st8, rfl, hd8, hg8, by rw [List.length_map]; omega, by rw [List.length_map]; omega, fun H6 st9 rb k9 hd9 hg9 rb0 rb1 => ?_⟩
      rw [List.length_map] at rb1
      have kH : Kp d H' H6 := k8.trans k9
      have tH := kp_tup kH hd7
      refine ⟨by show 2 ≤ sizeLine; decide, fun p hp => ?_⟩
      have eL6 := same_upd (o := .tup [.int ra, .int rb]) hp _ _ (kH _ _ ndl.symm eL4)
      have hP6 : Prs (upd H6 p (.tup [.int ra, .int rb])) xs rs := hP.mono fun t ys h => same_upd hp _ _ (tH _ _ h)
      have hPr : PrAt (upd H6 p (.tup [.int ra, .int rb])) (.ref p) (ra, rb) := ⟨p, rfl, upd_same⟩
      have kI : Kp d H (upd H6 p (.tup [.int ra, .int rb])) := (kG.trans kH).trans (sKp (same_upd hp))
      have hd10 := same_upd (o := .tup [.int ra, .int rb]) hp _ _ hd9
      have eT6 := same_upd (o := .tup [.int ra, .int rb]) hp _ _ (tH _ _ eT4)
      have eC6 := same_upd (o := .tup [.int ra, .int rb]) hp _ _ (tH _ _ eC4)
      generalize upd H6 p (.tup [.int ra, .int rb]) = H7 at eL6 hP6 hPr kI hd10 eT6 eC6
      refine ⟨_, rfl, _, rfl, prR (ra, rb), rs.map prR, dp_pr hPr, .lst (SqL.of eL6) (dpAll_prs hP6), prR_shaped _, prRs_shaped _, _, rfl, ?_⟩
      rw [any_eqv]
      by_cases c : (ra, rb) ∈ rs
      · rw [decide_eq_true c]
        refine iteF ?_
        exact ⟨st9, xs, rs, _, _, rfl, kI, hd10, hg9, eT6, eC6, eL6, hP6, hN, by omega, hM⟩
      · rw [decide_eq_false c]
        refine iteT ?_
        refine ⟨_, rfl, .inl ⟨rfl, _, SqL.of eL6⟩, _, rfl, l, _, _, rfl, rfl, eL6, ?_, ?_⟩
        · rw [hP6.len]; exact Nat.lt_of_le_of_lt (by omega : rs.length ≤ 1000) (by decide)
        · have nlT : aT ≠ l := fun e => by rw [e, eL6] at eT6; cases eT6
          have nlC : aC ≠ l := fun e => by rw [e, eL6] at eC6; cases eC6
          have tK : ∀ t ys, H7 t = some (.tup ys) → (upd H7 l (.lst (xs ++ [V.ref p]))) t = some (.tup ys) := fun t ys h => by
            rw [upd_ne (fun e => by rw [e, eL6] at h; cases h)]; exact h
          refine ⟨st9, _, rs ++ [(ra, rb)], _, _, rfl, fun b o nb eb => ?_, by rw [upd_ne ndl]; exact hd10, hg9, tK _ _ eT6, tK _ _ eC6, upd_same, (hP6.mono tK).app ?_, ?_, ?_, fun r hr => ?_⟩
          · rw [upd_ne (fun e => by rw [e, nHl] at eb; cases eb)]; exact kI _ _ nb eb
          · obtain ⟨t, e, h⟩ := hPr
            exact ⟨t, e, tK _ _ h⟩
          · refine List.nodup_append.mpr ⟨hN, (by simp), fun a ha b hb => ?_⟩
            rw [List.mem_singleton.mp hb]
            exact fun e => c (e ▸ ha)
          · rw [List.length_append, List.length_singleton]; omega
          · rcases List.mem_append.mp hr with hr | hr
            · exact hM r hr
            · rw [List.mem_singleton.mp hr]; exact ⟨ra0, ra1, rb0, rb1⟩
    rintro σ H' ⟨st7, xs, rs, v2, v7, rfl, kG, hd7, hg7, eT4, eC4, eL4, hP, hN, hlen, hM⟩
    have hl10 : rs.length ≤ 10 := by omega
    -- the answer
    refine ⟨_, rfl, _, rfl, by show 2 ≤ sizeLine; decide, fun l2 hl2 => ?_⟩
    have s2 : Same H' (upd H' l2 (.lst [.int 3, .int 10])) := same_upd hl2
    have n2 : l2 ≠ d := (ne_of_none hd7 hl2).symm
    refine ⟨_, rfl, d, 2, st7, rfl, s2 _ _ hd7, hg7, by decide, by decide, fun H5 st8 r8 k8 hd8 hg8 r80 r81 => ?_⟩
    have e2 : H5 l2 = some (.lst (([3, 10] : List Int).map V.int)) := k8 _ _ n2 upd_same
    obtain ⟨z2, hz2, a2⟩ := at_mem (L := [3, 10]) r80 (by simpa using r81)
    have hz3 : 1 ≤ z2 ∧ z2 ≤ 10 := by simp at hz2; omega
    refine ⟨l2, _, r8, _, rfl, rfl, SqL.of e2, a2, d, z2, st8, rfl, hd8, hg8, hz3.1, by omega, fun H6 st9 keys k9 hd9 hg9 ky0 ky1 => ?_⟩
    have k10 : Kp d H' H6 := (sKp s2).trans (k8.trans k9)
    have t10 := kp_tup k10 hd7
    have hP6 := hP.mono t10
    have eL6 := k10 _ _ ndl.symm eL4
    refine ⟨_, rfl, _, rfl, l, xs, kf H6, rfl, SqL.of eL6, fun x hx => hP6.mem x hx, fun ys p hs hst hp => ?_⟩
    refine ⟨p, ys, rfl, .inl ⟨SqL.of upd_same, fun aR haR => ?_⟩⟩
    have s3 := same_upd (o := .lst ys) hp
    have s4 := same_upd (o := .tup ys) haR
    refine ⟨by show 4 ≤ sizeLine; decide, fun a ha => ?_⟩
    have s5 := same_upd (o := .tup [V.ref aT, V.int keys, V.ref aC, V.ref aR]) ha
    have perm : ys.Perm xs := hst.perm
    have hPy : Prs H6 ys (ys.map (kf H6)) := Prs.of_mem fun y hy => hP6.mem y (perm.mem_iff.mp hy)
    have permR : (ys.map (kf H6)).Perm rs := by
      have := perm.map (kf H6)
      rw [hP6.kf] at this
      exact this
    have s6 := (s3.trans s4).trans s5
    refine k _ st9 a ts keys cs (ys.map (kf H6)) ((kG.trans k10).trans (sKp s6)) (s6 _ _ hd9) hg9 ⟨⟨aT, aC, aR, ys, upd_same, s6 _ _ (t10 _ _ eT4), s6 _ _ (t10 _ _ eC4), s5 _ _ upd_same, hPy.mono fun t zs h => s6 _ _ h⟩⟩ ?_
    refine ⟨hT, hl6.1, hl6.2, ky0, by omega, hCP, fun c hc => ⟨(hCM c hc).1, ?_⟩, ?_, fun r hr => hM r (permR.mem_iff.mp hr), by rw [permR.length_eq]; exact hl10⟩
    · have := (hCM c hc).2; omega
    · refine sorted_plt ?_ (permR.nodup_iff.mpr hN)
      rw [List.pairwise_map]
      exact hs
end
end Dk

set_option Elab.async false
set_option linter.all false
set_option maxRecDepth 100000
set_option maxHeartbeats 4000000
namespace Dk
open PySem PySem.Spec PyProof.Rows L2 TL
/-! ### what the checks say of any data -/
def tyN : PyData → String
  | .none => "NoneType"
  | .bool _ => "bool"
  | .int _ => "int"
  | .str _ => "str"
  | .list _ => "list"
  | .tuple _ => "tuple"
  | .dict _ => "dict"
theorem tyx {K : PySem.W.Frag} {H : Hp} {v : V} {d : PyData} (h : Dp K H v d) : TyX K H v (.type (tyN d)) := by
  cases h with
  | non => exact .base .non
  | bl b => exact .base (.bl b)
  | int i => exact .base (.int i)
  | str x => exact .base (.str x)
  | lst hs ha =>
    rcases hs with (e | ⟨o, e⟩) | ⟨o, its, n, hk, hc, _⟩
    · exact .base (.lst e)
    · exact .base (.frz e)
    · exact .kList hk hc
  | tup hs ha =>
    rcases hs with (e | ⟨o, e⟩) | ⟨o, its, n, hk, hc, _⟩
    · exact .base (.tup e)
    · exact .fTuple e
    · exact .kTuple hk hc
def isIntD : PyData → Bool
  | .int _ => true
  | _ => false
def isIntB : PyData → Bool
  | .int _ => true
  | .bool _ => true
  | _ => false
def isBoolD : PyData → Bool
  | .bool _ => true
  | _ => false
def isStrD : PyData → Bool
  | .str _ => true
  | _ => false
def isTupD : PyData → Bool
  | .tuple _ => true
  | _ => false
def isLstD : PyData → Bool
  | .list _ => true
  | _ => false
theorem kit_int : ∀ d : PyData, kitB (tyN d) "int" = some (isIntB d)
  | .none => (by decide +kernel : kitB "NoneType" "int" = some false)
  | .bool _ => (by decide +kernel : kitB "bool" "int" = some true)
  | .int _ => (by decide +kernel : kitB "int" "int" = some true)
  | .str _ => (by decide +kernel : kitB "str" "int" = some false)
  | .list _ => (by decide +kernel : kitB "list" "int" = some false)
  | .tuple _ => (by decide +kernel : kitB "tuple" "int" = some false)
  | .dict _ => (by decide +kernel : kitB "dict" "int" = some false)
theorem kit_bool : ∀ d : PyData, kitB (tyN d) "bool" = some (isBoolD d)
  | .none => (by decide +kernel : kitB "NoneType" "bool" = some false)
  | .bool _ => (by decide +kernel : kitB "bool" "bool" = some true)
  | .int _ => (by decide +kernel : kitB "int" "bool" = some false)
  | .str _ => (by decide +kernel : kitB "str" "bool" = some false)
  | .list _ => (by decide +kernel : kitB "list" "bool" = some false)
  | .tuple _ => (by decide +kernel : kitB "tuple" "bool" = some false)
  | .dict _ => (by decide +kernel : kitB "dict" "bool" = some false)
theorem kit_str : ∀ d : PyData, kitB (tyN d) "str" = some (isStrD d)
  | .none => (by decide +kernel : kitB "NoneType" "str" = some false)
  | .bool _ => (by decide +kernel : kitB "bool" "str" = some false)
  | .int _ => (by decide +kernel : kitB "int" "str" = some false)
  | .str _ => (by decide +kernel : kitB "str" "str" = some true)
  | .list _ => (by decide +kernel : kitB "list" "str" = some false)
  | .tuple _ => (by decide +kernel : kitB "tuple" "str" = some false)
  | .dict _ => (by decide +kernel : kitB "dict" "str" = some false)
theorem kit_tup : ∀ d : PyData, kitB (tyN d) "tuple" = some (isTupD d)
  | .none => (by decide +kernel : kitB "NoneType" "tuple" = some false)
  | .bool _ => (by decide +kernel : kitB "bool" "tuple" = some false)
  | .int _ => (by decide +kernel : kitB "int" "tuple" = some false)
  | .str _ => (by decide +kernel : kitB "str" "tuple" = some false)
  | .list _ => (by decide +kernel : kitB "list" "tuple" = some false)
  | .tuple _ => (by decide +kernel : kitB "tuple" "tuple" = some true)
  | .dict _ => (by decide +kernel : kitB "dict" "tuple" = some false)
theorem kit_lst : ∀ d : PyData, kitB (tyN d) "list" = some (isLstD d)
  | .none => (by decide +kernel : kitB "NoneType" "list" = some false)
  | .bool _ => (by decide +kernel : kitB "bool" "list" = some false)
  | .int _ => (by decide +kernel : kitB "int" "list" = some false)
  | .str _ => (by decide +kernel : kitB "str" "list" = some false)
  | .list _ => (by decide +kernel : kitB "list" "list" = some true)
  | .tuple _ => (by decide +kernel : kitB "tuple" "list" = some false)
  | .dict _ => (by decide +kernel : kitB "dict" "list" = some false)
def below (d : PyData) (lim : Int) : Bool := match d with
  | .int i => decide (0 ≤ i) && decide (i < lim)
  | _ => false
def only (w cs : Str) : Bool := (tl w).all fun c => decide (c ∈ tl cs)
def tabLens : List Int := [1, 2, 3, 4, 6, 8, 12, 24]
def hoS : Str := Str.ofString "ho"
def isTabD : PyData → Bool
  | .str t => decide ((t.length : Int) ∈ tabLens) && only t hoS
  | _ => false
def isRemD (d : PyData) (per n : Int) : Bool := match d with
  | .tuple [a, b] => below a per && below b n
  | _ => false
structure TxtF (K : PySem.W.Frag) (mg : Str → Option Value) (fII fIB fHO : Addr) (fdII fdIB fdHO : FuncData) : Prop where
  isinstance : mg "isinstance" = none
  int : mg "int" = none
  bool : mg "bool" = none
  str : mg "str" = none
  tuple : mg "tuple" = none
  all : mg "all" = none
  gII : mg "is_integer" = some (.ref fII)
  FII : Fun K "is_integer" "is_integer" sIsInt fII fdII
  bII : Binds K fdII ["value"] []
  gIB : mg "is_below" = some (.ref fIB)
  FIB : Fun K "is_below" "is_below" sIsBelow fIB fdIB
  bIB : Binds K fdIB ["value", "limit"] []
  gHO : mg "has_only" = some (.ref fHO)
  FHO : Fun K "has_only" "has_only" sHasOnly fHO fdHO
  bHO : Binds K fdHO ["word", "characters"] []
  letters : ∃ t, mg "LETTERS" = some (.str hoS t)
  lengths : ∃ a, mg "TABLE_LENGTHS" = some (.ref a) ∧ SqT K (fun _ => none) a (tabLens.map V.int)
def spIsInt (K : PySem.W.Frag) : Sp := fun vs H Q _ => ∃ (v : V) (d : PyData), vs = [v] ∧ Dp K H v d ∧ Q (.bl (isIntD d)) H
def spIsBelow (K : PySem.W.Frag) : Sp := fun vs H Q _ => ∃ (v : V) (d : PyData) (lim : Int), vs = [v, .int lim] ∧ Dp K H v d ∧ Q (.bl (below d lim)) H
def spHasOnly : Sp := fun vs H Q _ => ∃ (x cs : Str), vs = [.str x, .str cs] ∧ x.length ≤ 100000 ∧ ∀ H', Same H H' → Q (.bl (only x cs)) H'
def spIsTable (K : PySem.W.Frag) : Sp := fun vs H Q _ => ∃ (v : V) (d : PyData), vs = [v] ∧ Dp K H v d ∧ (∀ t, d = .str t → t.length ≤ 100000) ∧ ∀ H', Same H H' → Q (.bl (isTabD d)) H'
def spIsRem (K : PySem.W.Frag) : Sp := fun vs H Q _ => ∃ (v : V) (d : PyData) (per n : Int), vs = [v, .int per, .int n] ∧ Dp K H v d ∧ Q (.bl (isRemD d per n)) H
section
variable {P : Program} {w : World} {K : PySem.W.Frag} {mg : Str → Option Value} {base : Heap} {fII fIB fHO : Addr} {fdII fdIB fdHO : FuncData}
theorem scIsInt : FnScope ["value"] ["value"] (defScope sIsInt) := ⟨rfl, rfl, rfl, by decide +kernel, rfl, by decide +kernel, by decide +kernel⟩
theorem ok_isint (TF : TxtF K mg fII fIB fHO fdII fdIB fdHO) : FnOk P w K mg base CX0 1 fII fdII ["value"] (spIsInt K) := by
  refine TF.FII.ok scIsInt (fun vs H Q E h => ?_) (fun cdv A outer s H vs Q E hr h => ?_)
  · obtain ⟨v, d, rfl, _⟩ := h
    rfl
  · obtain ⟨v, d, rfl, hd, k⟩ := h
    refine ⟨_, pss_one (ps_ret (pe_and (pe_callB call_isi (by rfl) TF.isinstance (by decide +kernel) (pa_cons (pv 0) (pa_cons (pe_bltn (v := .ty "int") (by rfl) TF.int (by decide +kernel) rfl) pa_nil)))
      (pe_one (pe_not (pe_callB call_isi (by rfl) TF.isinstance (by decide +kernel) (pa_cons (pv 0) (pa_cons (pe_bltn (v := .ty "bool") (by rfl) TF.bool (by decide +kernel) rfl) pa_nil))))))), ?_⟩
    refine ⟨_, rfl, _, _, _, _, _, rfl, .ty "int", tyx hd, kit_ty (kit_int d), _, rfl, ?_⟩
    cases e : isIntB d with
    | false =>
      refine iteF ?_
      have : isIntD d = false := by cases d <;> first | rfl | cases e
      rw [← this]; exact k
    | true =>
      refine iteT ⟨_, rfl, _, _, _, _, _, rfl, .ty "bool", tyx hd, kit_ty (kit_bool d), _, rfl, ?_⟩
      have : (!isBoolD d) = isIntD d := by cases d <;> first | rfl | cases e
      rw [this]; exact k
theorem scIsBelow : FnScope ["value", "limit"] ["value", "limit"] (defScope sIsBelow) := ⟨rfl, rfl, rfl, by decide +kernel, rfl, by decide +kernel, by decide +kernel⟩
theorem ok_isbelow (TF : TxtF K mg fII fIB fHO fdII fdIB fdHO) : FnOk P w K mg base CX0 2 fIB fdIB ["value", "limit"] (spIsBelow K) := by
  have GI : FnOk P w K mg base CX0 1 fII fdII ["value"] (spIsInt K) := ok_isint TF
  refine TF.FIB.ok scIsBelow (fun vs H Q E h => ?_) (fun cdv A outer s H vs Q E hr h => ?_)
  · obtain ⟨v, d, lim, rfl, _⟩ := h
    rfl
  · obtain ⟨v, d, lim, rfl, hd, k⟩ := h
    refine ⟨_, pss_one (ps_ret (pe_and (pe_call GI hr rfl TF.gII TF.FII.kp TF.bII .nil pass0 (pa_cons (pv 0) pa_nil)) (pe_one (pe_chain op_le op_lt pe_int (pv 0) (pv 1))))), ?_⟩
    refine ⟨_, rfl, v, d, rfl, hd, _, rfl, ?_⟩
    cases hd with
    | int i =>
      refine iteT ⟨_, rfl, _, _, rfl, rfl, _, rfl, ?_⟩
      by_cases c : (0 : Int) ≤ i
      · rw [decide_eq_true c]
        refine iteT ⟨_, rfl, _, _, rfl, rfl, ?_⟩
        have e : below (.int i) lim = decide (i < lim) := by show (decide ((0 : Int) ≤ i) && decide (i < lim)) = _; rw [decide_eq_true c]; rfl
        rw [e] at k; exact k
      · rw [decide_eq_false c]
        refine iteF ?_
        have e : below (.int i) lim = false := by show (decide ((0 : Int) ≤ i) && decide (i < lim)) = _; rw [decide_eq_false c]; rfl
        rw [e] at k; exact k
    | non => exact iteF k
    | bl b => exact iteF k
    | str x => exact iteF k
    | lst hs ha => exact iteF k
    | tup hs ha => exact iteF k
theorem scHasOnly : FnScope ["word", "characters", "character"] ["word", "characters"] (defScope sHasOnly) := ⟨rfl, rfl, rfl, by decide +kernel, rfl, by decide +kernel, by decide +kernel⟩
theorem ok_hasonly (TF : TxtF K mg fII fIB fHO fdII fdIB fdHO) : FnOk P w K mg base CX0 1 fHO fdHO ["word", "characters"] spHasOnly := by
  refine TF.FHO.ok scHasOnly (fun vs H Q E h => ?_) (fun cdv A outer s H vs Q E hr h => ?_)
  · obtain ⟨x, cs, rfl, _⟩ := h
    rfl
  · obtain ⟨x, cs, rfl, hlen, k⟩ := h
    refine ⟨_, pss_one (ps_ret (pe_callB (cr_all rfl) (by rfl) TF.all (by decide +kernel) (pa_cons
        (pe_lc (own := [("character", 2)]) (g := gName 2) (by rfl) scHasOnly.nd (pi_str (pv 0)) (blkOk_by (N := ["word", "characters", "character"]) (sc := defScope sHasOnly) (by decide +kernel))
          (fun _ _ _ _ _ => pg_name (i := 2) scHasOnly.nd rfl (Or.inl rfl)) (fun _ _ _ _ _ => pts_nil)
          (fun _ _ _ _ _ => pe_cmpR op_in_sign (pv 2) (pv 1) (by rfl))) pa_nil))), ?_⟩
    refine ⟨_, rfl, x, rfl, fun D hD => lc_it walk_str
      (fun i H3 => Same H H3 ∧ H3 D = some (.lst ((((tl x).take i).map fun c => decide (c ∈ tl cs)).map V.bl)))
      ⟨same_upd hD, upd_same⟩ (fun _ _ _ _ => True.intro) ?_ ?_⟩
    · rintro i y H3 H4 hi ⟨s3, eD⟩ ⟨rfl, c, hc, rfl⟩
      have hc' : (tl x)[i]? = some c := by rw [← hc]; exact Array.getElem?_toList
      refine ⟨rfl, _, rfl, _, rfl, c, cs, rfl, rfl, _, eD, ?_, fun b o eb => ?_, ?_⟩
      · have hx : i < x.length := hi
        rw [List.length_map, List.length_map, List.length_take]
        exact Nat.lt_of_le_of_lt (Nat.le_trans (Nat.min_le_left _ _) (by omega : i ≤ 100000)) (by decide)
      · rw [upd_ne (ne_of_none eb hD)]; exact s3 _ _ eb
      · rw [upd_same, take_more hc', List.map_append, List.map_append]; rfl
    · rintro H3 ⟨s3, eD⟩
      have e : (tl x).take x.cps.size = tl x := List.take_of_length_le (by simp)
      rw [e] at eD
      refine ⟨D, _, rfl, SqL.of eD, ?_⟩
      have e2 : List.all ((tl x).map fun c => decide (c ∈ tl cs)) id = only x cs := by
        unfold only
        rw [List.all_map]; rfl
      rw [e2]
      exact k _ s3
end
end Dk

set_option Elab.async false
set_option linter.all false
set_option maxRecDepth 100000
set_option maxHeartbeats 1000000
namespace Dk
open PySem PySem.Spec PyProof.Rows L2 TL
theorem sqtK {K : PySem.W.Frag} {H : Hp} {a : Addr} {xs : List V} (h : SqT K (fun _ => none) a xs) : SqT K H a xs := by
  rcases h with (h | ⟨o, h⟩) | h
  · cases h
  · cases h
  · exact .inr h
theorem any_eqI (l : List Int) (n : Int) : inV (.int n) (l.map V.int) = decide (n ∈ l) := by
  unfold inV
  induction l with
  | nil => rfl
  | cons m l ih =>
    rw [List.map_cons, List.any_cons, ih]
    show (m == n || decide (n ∈ l)) = decide (n ∈ m :: l)
    by_cases e : m = n
    · subst e; simp
    · have e' : n ≠ m := fun q => e q.symm
      simp [e, e']
theorem flat_ints (l : List Int) : (l.map V.int).all flatV = true := by
  induction l with
  | nil => rfl
  | cons m l ih => rw [List.map_cons, List.all_cons, ih]; rfl
/-- x < y, two ints or two tuples of ints -/
def Lt2 (K : PySem.W.Frag) (H : Hp) (x y : V) (b : Bool) : Prop :=
  (∃ m n : Int, x = .int m ∧ y = .int n ∧ b = decide (m < n)) ∨ (∃ (a c : Addr) (ns ms : List Int), x = .ref a ∧ y = .ref c ∧ SqT K H a (ns.map V.int) ∧ SqT K H c (ms.map V.int) ∧ b = HT.lexLt ns ms)
def rLt2 (K : PySem.W.Frag) : R2 := fun x y H Q => ∃ b, Lt2 K H x y b ∧ Q (.bl b) H
theorem op_lt2 {X : Cx} (hu : X.A.units < cLine) : OpR X (compareOp .Lt) (rLt2 X.K) := by
  intro pins s σ H x y v u Q I rx ry h
  obtain ⟨b, h | h, q⟩ := h
  · obtain ⟨m, n, rfl, rfl, rfl⟩ := h
    exact op_lt pins s σ H _ _ v u Q I rx ry ⟨m, n, rfl, rfl, q⟩
  · obtain ⟨a, c, ns, ms, rfl, rfl, h1, h2, rfl⟩ := h
    exact op_ltT hu pins s σ H _ _ v u Q I rx ry ⟨a, c, ns, ms, rfl, rfl, h1, h2, q⟩
def spAsc (K : PySem.W.Frag) : Sp := fun vs H Q _ => ∃ (a : Addr) (xs : List V) (i : Nat) (b : Bool), vs = [.ref a, .int (i : Int)] ∧ SqT K H a xs ∧ i < xs.length ∧ (i = 0 → b = true) ∧
  (∀ j, i = j + 1 → ∃ x y, xs[j]? = some x ∧ xs[j + 1]? = some y ∧ Lt2 K H x y b) ∧ Q (.bl b) H
section
variable {P : Program} {w : World} {K : PySem.W.Frag} {mg : Str → Option Value} {base : Heap} {fII fIB fHO : Addr} {fdII fdIB fdHO : FuncData}
theorem scIsTable : FnScope ["table"] ["table"] (defScope sIsTable) := ⟨rfl, rfl, rfl, by decide +kernel, rfl, by decide +kernel, by decide +kernel⟩
theorem ok_istable {f : Addr} {fd : FuncData} (F : Fun K "is_table" "is_table" sIsTable f fd) (T : TxtA mg) (TF : TxtF K mg fII fIB fHO fdII fdIB fdHO) : FnOk P w K mg base CX0 2 f fd ["table"] (spIsTable K) := by
  have GH : FnOk P w K mg base CX0 1 fHO fdHO ["word", "characters"] spHasOnly := ok_hasonly TF
  obtain ⟨tL, eL⟩ := TF.letters
  obtain ⟨aT, eT, hT⟩ := TF.lengths
  refine F.ok scIsTable (fun vs H Q E h => ?_) (fun cdv A outer s H vs Q E hr h => ?_)
  · obtain ⟨v, d, rfl, _⟩ := h
    rfl
  · obtain ⟨v, d, rfl, hd, hz, k⟩ := h
    refine ⟨_, pss_one (ps_ret (pe_and (pe_callB call_isi (by rfl) TF.isinstance (by decide +kernel) (pa_cons (pv 0) (pa_cons (pe_bltn (v := .ty "str") (by rfl) TF.str (by decide +kernel) rfl) pa_nil)))
      (pe_and (pe_cmpR op_in_seq (pe_callB call_len_str (by rfl) T.len PySem.boot_len (pa_cons (pv 0) pa_nil)) (pe_glob (v := .ref aT) rfl eT rfl) (by rfl))
      (pe_one (pe_call GH hr rfl TF.gHO TF.FHO.kp TF.bHO .nil pass0 (pa_cons (pv 0) (pa_cons (pe_glob (v := .str hoS) rfl eL ⟨_, rfl⟩) pa_nil))))))), ?_⟩
    refine ⟨_, rfl, _, _, _, _, _, rfl, .ty "str", tyx hd, kit_ty (kit_str d), _, rfl, ?_⟩
    cases hd with
    | str x =>
      have hx := hz x rfl
      refine iteT ⟨_, rfl, _, rfl, Nat.le_trans hx (by decide), aT, _, rfl, .inr (sqtK hT), rfl, flat_ints _, _, rfl, ?_⟩
      show (if inV (.int (x.length : Int)) (tabLens.map V.int) = true then _ else _)
      rw [any_eqI]
      by_cases c : (x.length : Int) ∈ tabLens
      · rw [decide_eq_true c]
        refine iteT ⟨_, rfl, x, hoS, rfl, hx, fun H' s' => ?_⟩
        have e : isTabD (.str x) = only x hoS := by show (decide _ && _) = _; rw [decide_eq_true c]; rfl
        rw [← e]; exact k _ s'
      · rw [decide_eq_false c]
        refine iteF ?_
        have e : isTabD (.str x) = false := by show (decide _ && _) = _; rw [decide_eq_false c]; rfl
        have := k H (Same.refl H)
        rw [e] at this; exact this
    | non => exact iteF (k H (Same.refl H))
    | bl b => exact iteF (k H (Same.refl H))
    | int i => exact iteF (k H (Same.refl H))
    | lst hs ha => exact iteF (k H (Same.refl H))
    | tup hs ha => exact iteF (k H (Same.refl H))
theorem scIsRem : FnScope ["reminder", "period", "persons"] ["reminder", "period", "persons"] (defScope sIsRem) := ⟨rfl, rfl, rfl, by decide +kernel, rfl, by decide +kernel, by decide +kernel⟩
theorem ok_isrem {f : Addr} {fd : FuncData} (F : Fun K "is_reminder" "is_reminder" sIsRem f fd) (T : TxtA mg) (TF : TxtF K mg fII fIB fHO fdII fdIB fdHO) : FnOk P w K mg base CX0 3 f fd ["reminder", "period", "persons"] (spIsRem K) := by
  have GB : FnOk P w K mg base CX0 2 fIB fdIB ["value", "limit"] (spIsBelow K) := ok_isbelow TF
  refine F.ok scIsRem (fun vs H Q E h => ?_) (fun cdv A outer s H vs Q E hr h => ?_)
  · obtain ⟨v, d, per, n, rfl, _⟩ := h
    rfl
  · obtain ⟨v, d, per, n, rfl, hd, k⟩ := h
    refine ⟨_, pss_cons (ps_if (PW.pt (pw_or (pt_not (pt_val (pe_callB call_isi (by rfl) TF.isinstance (by decide +kernel) (pa_cons (pv 0) (pa_cons (pe_bltn (v := .ty "tuple") (by rfl) TF.tuple (by decide +kernel) rfl) pa_nil)))))
        (pw_or1 (pt_cmpR op_ne (pe_callB call_len_seq (by rfl) T.len PySem.boot_len (pa_cons (pv 0) pa_nil)) pe_int (nomark _))))) (pss_one (ps_ret pe_bl)) pss_nil)
      (pss_one (ps_ret (pe_and (pe_call GB hr rfl TF.gIB TF.FIB.kp TF.bIB .nil pass0 (pa_cons (pe_ix ix_tup (pv 0) pe_int (fun _ _ => rfl)) (pa_cons (pv 1) pa_nil)))
        (pe_one (pe_call GB hr rfl TF.gIB TF.FIB.kp TF.bIB .nil pass0 (pa_cons (pe_ix ix_tup (pv 0) pe_int (fun _ _ => rfl)) (pa_cons (pv 2) pa_nil))))))), ?_⟩
    refine ⟨_, rfl, _, _, _, _, _, rfl, .ty "tuple", tyx hd, kit_ty (kit_tup d), _, rfl, ?_⟩
    cases hd with
    | str x => exact iteT (iteT k)
    | non => exact iteT (iteT k)
    | bl b => exact iteT (iteT k)
    | int i => exact iteT (iteT k)
    | lst hs ha => exact iteT (iteT k)
    | @tup a xs ds hs ha =>
      refine iteF ⟨_, rfl, a, xs, rfl, .inr hs, rfl, _, rfl, ?_⟩
      cases ha with
      | nil => exact iteT k
      | cons h1 ha =>
        rename_i v1 vs1 d1 ds1
        cases ha with
        | nil => exact iteT k
        | cons h2 ha =>
          rename_i v2 vs2 d2 ds2
          cases ha with
          | nil =>
            refine iteF ?_
            refine ⟨_, rfl, a, _, 0, v1, rfl, rfl, hs, at0, _, rfl, v1, d1, per, rfl, h1, _, rfl, ?_⟩
            have e : isRemD (.tuple [d1, d2]) per n = (Dk.below d1 per && Dk.below d2 n) := rfl
            rw [e] at k
            cases c : Dk.below d1 per with
            | false => rw [c] at k; exact iteF k
            | true =>
              rw [c] at k
              exact iteT ⟨_, rfl, a, _, 1, v2, rfl, rfl, hs, at1, _, rfl, v2, d2, n, rfl, h2, k⟩
          | cons h3 ha =>
            rename_i v3 vs3 d3 ds3
            have e : (!decide (V.int (((v1 :: v2 :: v3 :: vs3).length : Nat) : Int) = V.int 2)) = true := by
              have : ¬ V.int (((v1 :: v2 :: v3 :: vs3).length : Nat) : Int) = V.int 2 := fun q => by
                have := V.int.inj q
                simp only [List.length_cons] at this
                omega
              rw [decide_eq_false this]; rfl
            show (if (!decide (V.int (((v1 :: v2 :: v3 :: vs3).length : Nat) : Int) = V.int 2)) = true then _ else _)
            rw [e]
            exact iteT k
theorem scAsc : FnScope ["items", "index"] ["items", "index"] (defScope sAsc) := ⟨rfl, rfl, rfl, by decide +kernel, rfl, by decide +kernel, by decide +kernel⟩
theorem ok_asc {f : Addr} {fd : FuncData} (F : Fun K "is_ascending_at" "is_ascending_at" sAsc f fd) : FnOk P w K mg base CX0 1 f fd ["items", "index"] (spAsc K) := by
  refine F.ok scAsc (fun vs H Q E h => ?_) (fun cdv A outer s H vs Q E hr h => ?_)
  · obtain ⟨a, xs, i, b, rfl, _⟩ := h
    rfl
  · obtain ⟨a, xs, i, b, rfl, hs, hi, h0, hj, k⟩ := h
    refine ⟨_, pss_one (ps_ret (pe_or (pe_cmpR op_eq (pv 1) pe_int (nomark _)) (pe_one (pe_cmpR (op_lt2 hr.units0) (pe_ix ix_tup (pv 0) (pe_op op_sub (pv 1) pe_int) (fun _ _ => rfl)) (pe_ix ix_tup (pv 0) (pv 1) (fun _ _ => rfl)) (nomark _))))), ?_⟩
    refine ⟨_, rfl, rfl, _, rfl, ?_⟩
    cases i with
    | zero =>
      refine ite2 (fun _ => ?_) (fun c => absurd (decide_eq_true rfl) c)
      rw [← h0 rfl]; exact k
    | succ j =>
      obtain ⟨x, y, ex, ey, hl⟩ := hj j rfl
      refine ite2 (fun c => ?_) (fun _ => ?_)
      · have := of_decide_eq_true c
        cases this
      · refine ⟨_, rfl, _, rfl, _, _, rfl, rfl, a, xs, _, x, rfl, rfl, hs, ?_, _, rfl, _, rfl, a, xs, _, y, rfl, rfl, hs, atI_nat ey, b, hl, k⟩
        have e : ((j + 1 : Nat) : Int) - 1 = (j : Int) := by omega
        rw [e]; exact atI_nat ex
end
end Dk

set_option Elab.async false
set_option linter.all false
set_option maxRecDepth 100000
set_option maxHeartbeats 1000000
namespace Dk
open PySem PySem.Spec PyProof.Rows L2 TL
mutual
theorem dpSame {K : PySem.W.Frag} {H H' : Hp} (k : Same H H') : ∀ (d : PyData) (v : V), Dp K H v d → Dp K H' v d
  | .none, _, h => by cases h; exact .non
  | .bool b, _, h => by cases h; exact .bl b
  | .int i, _, h => by cases h; exact .int i
  | .str x, _, h => by cases h; exact .str x
  | .list ds, _, h => by
    cases h with
    | lst hs ha => exact .lst (k.seq hs) (dpAllSame k ds _ ha)
  | .tuple ds, _, h => by
    cases h with
    | tup hs ha => exact .tup (sSqT k hs) (dpAllSame k ds _ ha)
  | .dict _, _, h => by cases h
theorem dpAllSame {K : PySem.W.Frag} {H H' : Hp} (k : Same H H') : ∀ (ds : List PyData) (vs : List V), DpAll K H vs ds → DpAll K H' vs ds
  | [], _, h => by cases h; exact .nil
  | d :: ds, _, h => by
    cases h with
    | cons h1 h2 => exact .cons (dpSame k d _ h1) (dpAllSame k ds _ h2)
end
theorem dpAll_len {K : PySem.W.Frag} {H : Hp} : ∀ {vs : List V} {ds : List PyData}, DpAll K H vs ds → vs.length = ds.length
  | [], [], .nil => rfl
  | _ :: _, _ :: _, .cons _ h => congrArg Nat.succ (dpAll_len h)
theorem dpAll_get {K : PySem.W.Frag} {H : Hp} : ∀ {vs : List V} {ds : List PyData} {i : Nat} {x : V}, DpAll K H vs ds → vs[i]? = some x → ∃ d, ds[i]? = some d ∧ Dp K H x d
  | [], [], _, _, .nil, e => by simp at e
  | _ :: _, _ :: _, 0, _, .cons h _, e => by
    simp at e; subst e; exact ⟨_, rfl, h⟩
  | _ :: _, _ :: _, i + 1, _, .cons _ h, e => by
    obtain ⟨d, e1, e2⟩ := dpAll_get (i := i) h (by simpa using e)
    exact ⟨d, by simpa using e1, e2⟩
/-! ### errors of one's own -/
abbrev ihFields (part : Str) (i : Int) : List (Str × V) := [("index", .int i), ("part", .str part)]
def Raised (C : Addr) (E : XK) (H : Hp) (part : Str) (i : Int) : Prop := ∀ (H' : Hp) (d : Addr), Same H H' → H d = none → H' d = some (.xd (ihFields part i)) → E (.ref C) (some d) H'
theorem Raised.mono {C : Addr} {E : XK} {H H1 : Hp} {part : Str} {i : Int} (h : Raised C E H part i) (s : Same H H1) : Raised C E H1 part i := fun H' d s2 n e => h H' d (s.trans s2) (s.free n) e
abbrev sIHInit : Stmt := inClass (top 4) 0
abbrev sTFInit : Stmt := inClass (top 5) 0
structure TxtIH (K : PySem.W.Frag) (mg : Str → Option Value) (C fI : Addr) (fdI : FuncData) : Prop where
  gC : mg "InvalidHouse" = some (.ref C)
  O : OexC K C
  iC : PySem.W.findIn K (.ref C) "__init__" = some (some (.ref fI))
  tI : PySem.W.typeIn K (.ref fI) = some (.type "function")
  F : Fun K "__init__" "InvalidHouse.__init__" sIHInit fI fdI
  b : Binds K fdI ["self", "part", "index"] []
  nP : PySem.W.findIn K (.ref C) "part" = some none
  nI : PySem.W.findIn K (.ref C) "index" = some none
def spIHInit (C : Addr) : Sp := fun vs H Q _ => ∃ (a : Addr) (p i : V), vs = [.ref a, p, i] ∧ H a = some (exo a C none) ∧
  ∀ d, H d = none → d ≠ a → Q .non (upd (upd (upd H d (exd d [("part", p)])) a (exo a C (some d))) d (exd d [("index", i), ("part", p)]))
section
variable {P : Program} {w : World} {K : PySem.W.Frag} {mg : Str → Option Value} {base : Heap} {C fI : Addr} {fdI : FuncData}
theorem scIHInit : FnScope ["self", "part", "index"] ["self", "part", "index"] (defScope sIHInit) := ⟨rfl, rfl, rfl, by decide +kernel, rfl, by decide +kernel, by decide +kernel⟩
theorem ok_ihinit (TI : TxtIH K mg C fI fdI) : FnOk P w K mg base CX0 1 fI fdI ["self", "part", "index"] (spIHInit C) := by
  refine TI.F.ok scIHInit (fun vs H Q E h => ?_) (fun cdv A outer s H vs Q E hr h => ?_)
  · obtain ⟨a, p, i, rfl, _⟩ := h
    rfl
  · obtain ⟨a, p, i, rfl, ha, k⟩ := h
    refine ⟨_, pss_cons (ps_ost (pv 0) (pv 1)) (pss_one (ps_ost (pv 0) (pv 2))), ?_⟩
    refine ⟨_, rfl, _, rfl, a, C, rfl, TI.O, TI.nP, .inl ⟨ha, fun d hd nd => ?_⟩⟩
    refine ⟨_, rfl, _, rfl, a, C, rfl, TI.O, TI.nI, .inr ⟨d, [("part", p)], upd_same, ?_, by simp, ?_⟩⟩
    · rw [upd_ne nd]; exact upd_same
    · exact k d hd nd
/-- the reading of raise InvalidHouse(part, i), from what is wanted of it -/
theorem raise_ih {H : Hp} {E : XK} {part : Str} {i : Int} (k : Raised C E H part i) :
    ([V.str part, V.int i] : List V).length ≤ 1000 ∧ ∀ a, H a = none → spIHInit C (.ref a :: ([V.str part, V.int i] ++ [])) (upd H a (exo a C none))
      (fun v H2 => v = .non ∧ ∃ (d : Addr) (fs : List (Str × V)), H2 a = some (exo a C (some d)) ∧ H2 d = some (exd d fs) ∧ H d = none ∧ E (.ref C) (some d) (upd (del H2 a) d (.xd fs))) (fun _ _ _ => False) := by
  refine ⟨by simp, fun a hn => ⟨a, _, _, rfl, upd_same, fun d hd nd => ⟨rfl, d, _, ?_, upd_same, ?_, ?_⟩⟩⟩
  · rw [upd_ne nd.symm]; exact upd_same
  · rw [upd_ne nd] at hd; exact hd
  · rw [upd_ne nd] at hd
    refine k _ d (fun b o e => ?_) hd upd_same
    have nb : b ≠ a := ne_of_none e hn
    have nd' : b ≠ d := ne_of_none e hd
    rw [upd_ne nd', del_ne nb, upd_ne nd', upd_ne nb, upd_ne nd', upd_ne nb]
    exact e
end
/-! ### the first bad item -/
def bad1 (p : Nat → PyData → Bool) : Nat → List PyData → Option Nat
  | _, [] => none
  | i, d :: ds => if p i d then some i else bad1 p (i + 1) ds
theorem bad1_step {p : Nat → PyData → Bool} {ds : List PyData} {i : Nat} {d : PyData} (h : ds[i]? = some d) : bad1 p i (ds.drop i) = if p i d then some i else bad1 p (i + 1) (ds.drop (i + 1)) := by
  have hi : i < ds.length := (List.getElem?_eq_some_iff.mp h).1
  have e : ds.drop i = d :: ds.drop (i + 1) := by
    rw [List.drop_eq_getElem_cons hi]
    congr 1
    have := List.getElem?_eq_getElem hi
    rw [h] at this
    exact (Option.some.inj this).symm
  rw [e]; rfl
theorem bad1_end {p : Nat → PyData → Bool} {ds : List PyData} : bad1 p ds.length (ds.drop ds.length) = none := by
  rw [List.drop_length]; rfl
def chkTabs : PyData → Option Nat
  | .tuple [] => some 0
  | .tuple (d :: ds) => bad1 (fun i t => i == 6 || !isTabD t) 0 (d :: ds)
  | _ => some 0
def chkKeys (d : PyData) : Option Nat := if below d 10 then none else some 0
def intOf : PyData → Int
  | .int i => i
  | _ => 0
def prOf : PyData → Pr
  | .tuple [.int i, .int j] => (i, j)
  | _ => (0, 0)
/-- the item before, less -/
def ascI (ds : List PyData) (i : Nat) : Bool := match i with
  | 0 => true
  | j + 1 => decide (intOf (ds.getD j .none) < intOf (ds.getD (j + 1) .none))
def ascP (ds : List PyData) (i : Nat) : Bool := match i with
  | 0 => true
  | j + 1 => HT.lexLt [(prOf (ds.getD j .none)).1, (prOf (ds.getD j .none)).2] [(prOf (ds.getD (j + 1) .none)).1, (prOf (ds.getD (j + 1) .none)).2]
def chkCareful (d : PyData) (n : Int) : Option Nat := match d with
  | .tuple ds => bad1 (fun i x => !below x n || !ascI ds i) 0 ds
  | _ => some 0
def chkRem (d : PyData) (per n : Int) : Option Nat := match d with
  | .tuple ds => bad1 (fun i x => i == 10 || !isRemD x per n || !ascP ds i) 0 ds
  | _ => some 0
end Dk

set_option Elab.async false
set_option linter.all false
set_option maxRecDepth 100000
set_option maxHeartbeats 1000000
namespace Dk
open PySem PySem.Spec PyProof.Rows L2 TL
structure TxtI (K : PySem.W.Frag) (mg : Str → Option Value) (fIT fIR fAs : Addr) (fdIT fdIR fdAs : FuncData) : Prop where
  enumerate : mg "enumerate" = none
  most : ∃ t, mg "MOST_PERSONS" = some (.int 6 t)
  keys : ∃ t, mg "MOST_KEYS" = some (.int 9 t)
  rems : ∃ t, mg "MOST_REMINDERS" = some (.int 10 t)
  gIT : mg "is_table" = some (.ref fIT)
  FIT : Fun K "is_table" "is_table" sIsTable fIT fdIT
  bIT : Binds K fdIT ["table"] []
  gIR : mg "is_reminder" = some (.ref fIR)
  FIR : Fun K "is_reminder" "is_reminder" sIsRem fIR fdIR
  bIR : Binds K fdIR ["reminder", "period", "persons"] []
  gAs : mg "is_ascending_at" = some (.ref fAs)
  FAs : Fun K "is_ascending_at" "is_ascending_at" sAsc fAs fdAs
  bAs : Binds K fdAs ["items", "index"] []
def spChkKeys (K : PySem.W.Frag) (C : Addr) : Sp := fun vs H Q E => ∃ (v : V) (d : PyData), vs = [v] ∧ Dp K H v d ∧ (chkKeys d = none → Q .non H) ∧ (chkKeys d = some 0 → Raised C E H "keys" 0)
def SmallS (d : PyData) : Prop := match d with
  | .str t => t.length ≤ 100000
  | _ => True
def spChkTabs (K : PySem.W.Frag) (C : Addr) : Sp := fun vs H Q E => ∃ (v : V) (d : PyData), vs = [v] ∧ Dp K H v d ∧ (∀ ds, d = .tuple ds → ∀ x ∈ ds, SmallS x) ∧
  (chkTabs d = none → ∀ H', Same H H' → Q .non H') ∧ (∀ i, chkTabs d = some i → Raised C E H "tables" (i : Int))
section
variable {P : Program} {w : World} {K : PySem.W.Frag} {mg : Str → Option Value} {base : Heap} {C fI : Addr} {fdI : FuncData} {fII fIB fHO : Addr} {fdII fdIB fdHO : FuncData} {fIT fIR fAs : Addr} {fdIT fdIR fdAs : FuncData}
theorem scChkKeys : FnScope ["keys"] ["keys"] (defScope sChkKeys) := ⟨rfl, rfl, rfl, by decide +kernel, rfl, by decide +kernel, by decide +kernel⟩
theorem ok_chkkeys {f : Addr} {fd : FuncData} (F : Fun K "check_keys" "check_keys" sChkKeys f fd) (TF : TxtF K mg fII fIB fHO fdII fdIB fdHO) (TI : TxtI K mg fIT fIR fAs fdIT fdIR fdAs) (TH : TxtIH K mg C fI fdI) :
    FnOk P w K mg base (L2.CX P w) 3 f fd ["keys"] (spChkKeys K C) := by
  have GB : FnOk P w K mg base CX0 2 fIB fdIB ["value", "limit"] (spIsBelow K) := ok_isbelow TF
  have GI : FnOk P w K mg base CX0 1 fI fdI ["self", "part", "index"] (spIHInit C) := ok_ihinit TH
  obtain ⟨tk, ek⟩ := TI.keys
  refine F.okX scChkKeys (fun vs H Q E h => ?_) (fun cdv A outer s H vs Q E hr h => ?_)
  · obtain ⟨v, d, rfl, _⟩ := h
    rfl
  · obtain ⟨v, d, rfl, hd, k1, k2⟩ := h
    refine ⟨_, pss_one (ps_if (pt_not (pt_val (pe_call GB hr rfl TF.gIB TF.FIB.kp TF.bIB .nil pass0 (pa_cons (pv 0) (pa_cons (pe_op op_add (pe_glob (v := .int 9) rfl ek ⟨_, rfl⟩) pe_int) pa_nil)))))
      (pss_one (ps_raise rfl (takes_of rfl rfl rfl rfl) (pmk_oex TH.O TH.iC TH.tI GI hr TH.b .nil pass0 rfl TH.gC (pa_cons pe_str (pa_cons pe_int pa_nil))))) pss_nil), ?_⟩
    refine ⟨_, rfl, _, _, rfl, rfl, v, d, _, rfl, hd, _, rfl, ?_⟩
    have e : below d (9 + 1) = below d 10 := rfl
    rw [e]
    cases c : below d 10 with
    | true => exact iteF (k1 (by unfold chkKeys; rw [c]; rfl))
    | false => exact iteT (raise_ih (k2 (by unfold chkKeys; rw [c]; rfl)))
theorem scChkTabs : FnScope ["tables", "index", "table"] ["tables"] (defScope sChkTables) := ⟨rfl, rfl, rfl, by decide +kernel, rfl, by decide +kernel, by decide +kernel⟩
theorem ok_chktabs {f : Addr} {fd : FuncData} (F : Fun K "check_tables" "check_tables" sChkTables f fd) (T : TxtA mg) (TF : TxtF K mg fII fIB fHO fdII fdIB fdHO) (TI : TxtI K mg fIT fIR fAs fdIT fdIR fdAs) (TH : TxtIH K mg C fI fdI) :
    FnOk P w K mg base (L2.CX P w) 3 f fd ["tables"] (spChkTabs K C) := by
  have GT : FnOk P w K mg base CX0 2 fIT fdIT ["table"] (spIsTable K) := ok_istable TI.FIT T TF
  have GI : FnOk P w K mg base CX0 1 fI fdI ["self", "part", "index"] (spIHInit C) := ok_ihinit TH
  obtain ⟨tk, ek⟩ := TI.most
  refine F.okX scChkTabs (fun vs H Q E h => ?_) (fun cdv A outer s H vs Q E hr h => ?_)
  · obtain ⟨v, d, rfl, _⟩ := h
    rfl
  · obtain ⟨v, d, rfl, hd, hz, k1, k2⟩ := h
    refine ⟨_, pss_cons (ps_if (PW.pt (pw_or (pt_not (pt_val (pe_callB call_isi (by rfl) TF.isinstance (by decide +kernel) (pa_cons (pv 0) (pa_cons (pe_bltn (v := .ty "tuple") (by rfl) TF.tuple (by decide +kernel) rfl) pa_nil)))))
          (pw_or1 (pt_not (pt_truth (pv 0) (by intro _; rfl))))))
        (pss_one (ps_raise rfl (takes_of rfl rfl rfl rfl) (pmk_oex TH.O TH.iC TH.tI GI hr TH.b .nil pass0 rfl TH.gC (pa_cons pe_str (pa_cons pe_int pa_nil))))) pss_nil)
      (pss_one (ps_for (passes_of rfl) rfl (pi_enumT (by rfl) TI.enumerate (pa_cons (pv 0) pa_nil)) (pg_tup rfl (pgs_cons (pg_name (i := 1) scChkTabs.nd rfl (.inl rfl)) (pgs_cons (pg_name (i := 2) scChkTabs.nd rfl (.inl rfl)) pgs_nil)))
        (pss_one (ps_if (PW.pt (pw_or (pt_cmpR op_eq (pv 1) (pe_glob (v := .int 6) rfl ek ⟨_, rfl⟩) (nomark _)) (pw_or1 (pt_not (pt_val (pe_call GT hr rfl TI.gIT TI.FIT.kp TI.bIT .nil pass0 (pa_cons (pv 2) pa_nil)))))))
          (pss_one (ps_raise rfl (takes_of rfl rfl rfl rfl) (pmk_oex TH.O TH.iC TH.tI GI hr TH.b .nil pass0 rfl TH.gC (pa_cons pe_str (pa_cons (pv 1) pa_nil))))) pss_nil)))), ?_⟩
    refine ⟨_, rfl, _, _, _, _, _, rfl, .ty "tuple", tyx hd, kit_ty (kit_tup d), _, rfl, ?_⟩
    cases hd with
    | str x => exact iteT (iteT (raise_ih (k2 0 rfl)))
    | non => exact iteT (iteT (raise_ih (k2 0 rfl)))
    | bl b => exact iteT (iteT (raise_ih (k2 0 rfl)))
    | int i => exact iteT (iteT (raise_ih (k2 0 rfl)))
    | lst hs ha => exact iteT (iteT (raise_ih (k2 0 rfl)))
    | @tup a xs ds hs ha =>
      refine iteF ⟨_, rfl, !xs.isEmpty, .inr (.inl ⟨xs, hs, rfl⟩), ?_⟩
      have hl := dpAll_len ha
      have hds : ds = [] ∨ ∃ d0 r, ds = d0 :: r := by
        cases ds with
        | nil => exact .inl rfl
        | cons d0 r => exact .inr ⟨d0, r, rfl⟩
      rcases hds with rfl | ⟨d0, r, hds⟩
      · cases ha
        exact iteT (raise_ih (k2 0 rfl))
      · have hx : xs.isEmpty = false := by
          cases xs with
          | nil => rw [hds] at hl; cases hl
          | cons x xs => rfl
        rw [hx]
        have ec : chkTabs (.tuple ds) = bad1 (fun i t => i == 6 || !isTabD t) 0 ds := by rw [hds]; rfl
        rw [ec] at k1 k2
        have hz' := hz ds rfl
        refine iteF ⟨_, rfl, a, xs, rfl, hs, for_it walk_enumT
          (fun i σ H' => ∃ v1 v2 : Option V, σ = [some (.ref a), v1, v2] ∧ Same H H' ∧ bad1 (fun i t => i == 6 || !isTabD t) 0 ds = bad1 (fun i t => i == 6 || !isTabD t) i (ds.drop i))
          ⟨none, none, rfl, Same.refl H, rfl⟩ (fun i σ H' _ ⟨_, _, _, e, _⟩ => sSqT e hs) ?_ ?_⟩
        · rintro i y σ H1 H2 hi ⟨v1, v2, rfl, s1, eb⟩ ⟨Tp, y1, y2, rfl, hTp, rfl, e1, e2⟩
          cases e1
          obtain ⟨dx, edx, hdx⟩ := dpAll_get ha e2
          have s2 : Same H (upd H1 Tp (.tup [.int (i : Nat), y2])) := s1.trans (same_upd hTp)
          have hm : dx ∈ ds := List.mem_of_getElem? edx
          have st := bad1_step (p := fun i t => i == 6 || !isTabD t) edx
          refine ⟨Tp, _, rfl, SqT.of upd_same, rfl, _, _, rfl, _, _, rfl, rfl, ?_⟩
          refine ⟨_, rfl, rfl, _, rfl, ?_⟩
          by_cases c6 : i = 6
          · have c6' : decide (V.int ((i : Nat) : Int) = V.int 6) = true := decide_eq_true (by rw [c6]; rfl)
            rw [c6']
            refine iteT (iteT ⟨_, rfl, raise_ih (Raised.mono (k2 i ?_) s2)⟩)
            rw [eb, st, c6]; rfl
          · have c6' : decide (V.int ((i : Nat) : Int) = V.int 6) = false := decide_eq_false fun q => c6 (by have := V.int.inj q; omega)
            rw [c6']
            refine iteF ⟨_, rfl, y2, dx, rfl, dpSame s2 _ _ hdx, fun t et => ?_, fun H3 s3 => ⟨_, rfl, ?_⟩⟩
            · have := hz' dx hm
              rw [et] at this
              exact this
            · have c6b : (i == 6) = false := by simpa using c6
              rw [c6b, Bool.false_or] at st
              cases c : isTabD dx with
              | true =>
                rw [c] at st
                refine iteF ⟨_, _, rfl, s2.trans s3, ?_⟩
                rw [eb, st]; rfl
              | false =>
                rw [c] at st
                refine iteT ⟨_, rfl, raise_ih (Raised.mono (k2 i ?_) (s2.trans s3))⟩
                rw [eb, st]; rfl
        · rintro σ H1 ⟨v1, v2, rfl, s1, eb⟩
          refine k1 ?_ H1 s1
          rw [eb, hl]
          exact bad1_end
end
end Dk

set_option Elab.async false
set_option linter.all false
set_option maxRecDepth 100000
set_option maxHeartbeats 1000000
namespace Dk
open PySem PySem.Spec PyProof.Rows L2 TL
theorem below_int {d : PyData} {n : Int} (h : below d n = true) : ∃ i, d = .int i ∧ 0 ≤ i ∧ i < n := by
  cases d with
  | int i =>
    have h' : (decide ((0 : Int) ≤ i) && decide (i < n)) = true := h
    rw [Bool.and_eq_true] at h'
    exact ⟨i, rfl, of_decide_eq_true h'.1, of_decide_eq_true h'.2⟩
  | none => cases h
  | bool _ => cases h
  | str _ => cases h
  | list _ => cases h
  | tuple _ => cases h
  | dict _ => cases h
theorem isRem_pr {d : PyData} {per n : Int} (h : isRemD d per n = true) : ∃ i j, d = .tuple [.int i, .int j] ∧ 0 ≤ i ∧ i < per ∧ 0 ≤ j ∧ j < n := by
  unfold isRemD at h
  split at h
  · rename_i a b
    rw [Bool.and_eq_true] at h
    obtain ⟨i, rfl, h1, h2⟩ := below_int h.1
    obtain ⟨j, rfl, h3, h4⟩ := below_int h.2
    exact ⟨i, j, rfl, h1, h2, h3, h4⟩
  · cases h
def spChkCareful (K : PySem.W.Frag) (C : Addr) : Sp := fun vs H Q E => ∃ (v : V) (d : PyData) (n : Int), vs = [v, .int n] ∧ Dp K H v d ∧
  (chkCareful d n = none → ∀ H', Same H H' → Q .non H') ∧ (∀ i, chkCareful d n = some i → Raised C E H "careful" (i : Int))
def spChkRem (K : PySem.W.Frag) (C : Addr) : Sp := fun vs H Q E => ∃ (v : V) (d : PyData) (per n : Int), vs = [v, .int per, .int n] ∧ Dp K H v d ∧
  (chkRem d per n = none → ∀ H', Same H H' → Q .non H') ∧ (∀ i, chkRem d per n = some i → Raised C E H "reminders" (i : Int))
theorem getD_of {ds : List PyData} {i : Nat} {d : PyData} (h : ds[i]? = some d) : ds.getD i .none = d := by rw [List.getD_eq_getElem?_getD, h]; rfl
section
variable {P : Program} {w : World} {K : PySem.W.Frag} {mg : Str → Option Value} {base : Heap} {C fI : Addr} {fdI : FuncData} {fII fIB fHO : Addr} {fdII fdIB fdHO : FuncData} {fIT fIR fAs : Addr} {fdIT fdIR fdAs : FuncData}
theorem scChkCareful : FnScope ["careful", "persons", "index", "person"] ["careful", "persons"] (defScope sChkCareful) := ⟨rfl, rfl, rfl, by decide +kernel, rfl, by decide +kernel, by decide +kernel⟩
theorem ok_chkcareful {f : Addr} {fd : FuncData} (F : Fun K "check_careful" "check_careful" sChkCareful f fd) (T : TxtA mg) (TF : TxtF K mg fII fIB fHO fdII fdIB fdHO) (TI : TxtI K mg fIT fIR fAs fdIT fdIR fdAs) (TH : TxtIH K mg C fI fdI) :
    FnOk P w K mg base (L2.CX P w) 3 f fd ["careful", "persons"] (spChkCareful K C) := by
  have GB : FnOk P w K mg base CX0 2 fIB fdIB ["value", "limit"] (spIsBelow K) := ok_isbelow TF
  have GA : FnOk P w K mg base CX0 1 fAs fdAs ["items", "index"] (spAsc K) := ok_asc TI.FAs
  have GI : FnOk P w K mg base CX0 1 fI fdI ["self", "part", "index"] (spIHInit C) := ok_ihinit TH
  refine F.okX scChkCareful (fun vs H Q E h => ?_) (fun cdv A outer s H vs Q E hr h => ?_)
  · obtain ⟨v, d, n, rfl, _⟩ := h
    rfl
  · obtain ⟨v, d, n, rfl, hd, k1, k2⟩ := h
    have hr1 : Room 1 (A.deeper (envOfC (Str.ofString "check_careful") (defScope sChkCareful) s.heap.objs.size f cdv)) := hr.mono (by decide)
    refine ⟨_, pss_cons (ps_if (pt_not (pt_val (pe_callB call_isi (by rfl) TF.isinstance (by decide +kernel) (pa_cons (pv 0) (pa_cons (pe_bltn (v := .ty "tuple") (by rfl) TF.tuple (by decide +kernel) rfl) pa_nil)))))
        (pss_one (ps_raise rfl (takes_of rfl rfl rfl rfl) (pmk_oex TH.O TH.iC TH.tI GI hr TH.b .nil pass0 rfl TH.gC (pa_cons pe_str (pa_cons pe_int pa_nil))))) pss_nil)
      (pss_one (ps_for (passes_of rfl) rfl (pi_enumT (by rfl) TI.enumerate (pa_cons (pv 0) pa_nil)) (pg_tup rfl (pgs_cons (pg_name (i := 2) scChkCareful.nd rfl (.inl rfl)) (pgs_cons (pg_name (i := 3) scChkCareful.nd rfl (.inl rfl)) pgs_nil)))
        (pss_one (ps_if (PW.pt (pw_or (pt_not (pt_val (pe_call GB hr rfl TF.gIB TF.FIB.kp TF.bIB .nil pass0 (pa_cons (pv 3) (pa_cons (pv 1) pa_nil)))))
            (pw_or1 (pt_not (pt_val (pe_call GA hr1 rfl TI.gAs TI.FAs.kp TI.bAs .nil pass0 (pa_cons (pv 0) (pa_cons (pv 2) pa_nil))))))))
          (pss_one (ps_raise rfl (takes_of rfl rfl rfl rfl) (pmk_oex TH.O TH.iC TH.tI GI hr TH.b .nil pass0 rfl TH.gC (pa_cons pe_str (pa_cons (pv 2) pa_nil))))) pss_nil)))), ?_⟩
    refine ⟨_, rfl, _, _, _, _, _, rfl, .ty "tuple", tyx hd, kit_ty (kit_tup d), _, rfl, ?_⟩
    cases hd with
    | str x => exact iteT (raise_ih (k2 0 rfl))
    | non => exact iteT (raise_ih (k2 0 rfl))
    | bl b => exact iteT (raise_ih (k2 0 rfl))
    | int i => exact iteT (raise_ih (k2 0 rfl))
    | lst hs ha => exact iteT (raise_ih (k2 0 rfl))
    | @tup a xs ds hs ha =>
      have hl := dpAll_len ha
      have ec : chkCareful (.tuple ds) n = bad1 (fun i x => !below x n || !ascI ds i) 0 ds := rfl
      rw [ec] at k1 k2
      refine iteF ⟨_, rfl, a, xs, rfl, hs, for_it walk_enumT
        (fun i σ H' => ∃ v1 v2 : Option V, σ = [some (.ref a), some (.int n), v1, v2] ∧ Same H H' ∧ bad1 (fun i x => !below x n || !ascI ds i) 0 ds = bad1 (fun i x => !below x n || !ascI ds i) i (ds.drop i) ∧ ∀ j d, j < i → ds[j]? = some d → below d n = true)
        ⟨none, none, rfl, Same.refl H, rfl, fun j d hj => absurd hj (Nat.not_lt_zero _)⟩ (fun i σ H' _ ⟨_, _, _, e, _⟩ => sSqT e hs) ?_ ?_⟩
      · rintro i y σ H1 H2 hi ⟨v1, v2, rfl, s1, eb, hall⟩ ⟨Tp, y1, y2, rfl, hTp, rfl, e1, e2⟩
        cases e1
        obtain ⟨dx, edx, hdx⟩ := dpAll_get ha e2
        have s2 : Same H (upd H1 Tp (.tup [.int (i : Nat), y2])) := s1.trans (same_upd hTp)
        have st := bad1_step (p := fun i x => !below x n || !ascI ds i) edx
        refine ⟨Tp, _, rfl, SqT.of upd_same, rfl, _, _, rfl, _, _, rfl, rfl, ?_⟩
        refine ⟨_, rfl, _, rfl, y2, dx, n, rfl, dpSame s2 _ _ hdx, _, rfl, ?_⟩
        cases c : below dx n with
        | false =>
          rw [c] at st
          refine iteT (iteT ⟨_, rfl, raise_ih (Raised.mono (k2 i ?_) s2)⟩)
          rw [eb, st]; rfl
        | true =>
          rw [c] at st
          have st' : bad1 (fun i x => !below x n || !ascI ds i) i (ds.drop i) = if (!ascI ds i) = true then some i else bad1 (fun i x => !below x n || !ascI ds i) (i + 1) (ds.drop (i + 1)) := st
          refine iteF ⟨_, rfl, _, rfl, a, xs, i, ascI ds i, rfl, sSqT s2 hs, hi, fun e0 => by rw [e0]; rfl, fun j ej => ?_, _, rfl, ?_⟩
          · subst ej
            obtain ⟨x, ex⟩ : ∃ x, xs[j]? = some x := ⟨xs[j]'(by omega), List.getElem?_eq_getElem _⟩
            obtain ⟨dj, edj, hdj⟩ := dpAll_get ha ex
            obtain ⟨m1, rfl, _, _⟩ := below_int (hall j dj (Nat.lt_succ_self _) edj)
            obtain ⟨m2, rfl, _, _⟩ := below_int c
            cases hdj
            cases hdx
            refine ⟨_, _, ex, e2, .inl ⟨m1, m2, rfl, rfl, ?_⟩⟩
            show decide (intOf (ds.getD j .none) < intOf (ds.getD (j + 1) .none)) = decide (m1 < m2)
            rw [getD_of edj, getD_of edx]; rfl
          · cases c2 : ascI ds i with
            | true =>
              rw [c2] at st'
              refine iteF ⟨_, _, rfl, s2, ?_, fun j d hj ej => ?_⟩
              · rw [eb, st']; rfl
              · by_cases e : j = i
                · subst e; rw [edx] at ej; cases ej; exact c
                · exact hall j d (by omega) ej
            | false =>
              rw [c2] at st'
              refine iteT ⟨_, rfl, raise_ih (Raised.mono (k2 i ?_) s2)⟩
              rw [eb, st']; rfl
      · rintro σ H1 ⟨v1, v2, rfl, s1, eb, _⟩
        refine k1 ?_ H1 s1
        rw [eb, hl]
        exact bad1_end
theorem scChkRem : FnScope ["reminders", "period", "persons", "index", "reminder"] ["reminders", "period", "persons"] (defScope sChkRem) := ⟨rfl, rfl, rfl, by decide +kernel, rfl, by decide +kernel, by decide +kernel⟩
theorem ok_chkrem {f : Addr} {fd : FuncData} (F : Fun K "check_reminders" "check_reminders" sChkRem f fd) (T : TxtA mg) (TF : TxtF K mg fII fIB fHO fdII fdIB fdHO) (TI : TxtI K mg fIT fIR fAs fdIT fdIR fdAs) (TH : TxtIH K mg C fI fdI) :
    FnOk P w K mg base (L2.CX P w) 4 f fd ["reminders", "period", "persons"] (spChkRem K C) := by
  have GR : FnOk P w K mg base CX0 3 fIR fdIR ["reminder", "period", "persons"] (spIsRem K) := ok_isrem TI.FIR T TF
  have GA : FnOk P w K mg base CX0 1 fAs fdAs ["items", "index"] (spAsc K) := ok_asc TI.FAs
  have GI : FnOk P w K mg base CX0 1 fI fdI ["self", "part", "index"] (spIHInit C) := ok_ihinit TH
  obtain ⟨tk, ek⟩ := TI.rems
  refine F.okX scChkRem (fun vs H Q E h => ?_) (fun cdv A outer s H vs Q E hr h => ?_)
  · obtain ⟨v, d, per, n, rfl, _⟩ := h
    rfl
  · obtain ⟨v, d, per, n, rfl, hd, k1, k2⟩ := h
    have hr1 : Room 1 (A.deeper (envOfC (Str.ofString "check_reminders") (defScope sChkRem) s.heap.objs.size f cdv)) := hr.mono (by decide)
    have hr2 : Room 2 (A.deeper (envOfC (Str.ofString "check_reminders") (defScope sChkRem) s.heap.objs.size f cdv)) := hr.mono (by decide)
    refine ⟨_, pss_cons (ps_if (pt_not (pt_val (pe_callB call_isi (by rfl) TF.isinstance (by decide +kernel) (pa_cons (pv 0) (pa_cons (pe_bltn (v := .ty "tuple") (by rfl) TF.tuple (by decide +kernel) rfl) pa_nil)))))
        (pss_one (ps_raise rfl (takes_of rfl rfl rfl rfl) (pmk_oex TH.O TH.iC TH.tI GI hr2 TH.b .nil pass0 rfl TH.gC (pa_cons pe_str (pa_cons pe_int pa_nil))))) pss_nil)
      (pss_one (ps_for (passes_of rfl) rfl (pi_enumT (by rfl) TI.enumerate (pa_cons (pv 0) pa_nil)) (pg_tup rfl (pgs_cons (pg_name (i := 3) scChkRem.nd rfl (.inl rfl)) (pgs_cons (pg_name (i := 4) scChkRem.nd rfl (.inl rfl)) pgs_nil)))
        (pss_cons (ps_if (PW.pt (pw_or (pt_cmpR op_eq (pv 3) (pe_glob (v := .int 10) rfl ek ⟨_, rfl⟩) (nomark _)) (pw_or1 (pt_not (pt_val (pe_call GR hr rfl TI.gIR TI.FIR.kp TI.bIR .nil pass0 (pa_cons (pv 4) (pa_cons (pv 1) (pa_cons (pv 2) pa_nil)))))))))
          (pss_one (ps_raise rfl (takes_of rfl rfl rfl rfl) (pmk_oex TH.O TH.iC TH.tI GI hr2 TH.b .nil pass0 rfl TH.gC (pa_cons pe_str (pa_cons (pv 3) pa_nil))))) pss_nil)
        (pss_one (ps_if (pt_not (pt_val (pe_call GA hr1 rfl TI.gAs TI.FAs.kp TI.bAs .nil pass0 (pa_cons (pv 0) (pa_cons (pv 3) pa_nil)))))
          (pss_one (ps_raise rfl (takes_of rfl rfl rfl rfl) (pmk_oex TH.O TH.iC TH.tI GI hr2 TH.b .nil pass0 rfl TH.gC (pa_cons pe_str (pa_cons (pv 3) pa_nil))))) pss_nil))))), ?_⟩
    refine ⟨_, rfl, _, _, _, _, _, rfl, .ty "tuple", tyx hd, kit_ty (kit_tup d), _, rfl, ?_⟩
    cases hd with
    | str x => exact iteT (raise_ih (k2 0 rfl))
    | non => exact iteT (raise_ih (k2 0 rfl))
    | bl b => exact iteT (raise_ih (k2 0 rfl))
    | int i => exact iteT (raise_ih (k2 0 rfl))
    | lst hs ha => exact iteT (raise_ih (k2 0 rfl))
    | @tup a xs ds hs ha =>
      have hl := dpAll_len ha
      have ec : chkRem (.tuple ds) per n = bad1 (fun i x => i == 10 || !isRemD x per n || !ascP ds i) 0 ds := rfl
      rw [ec] at k1 k2
      refine iteF ⟨_, rfl, a, xs, rfl, hs, for_it walk_enumT
        (fun i σ H' => ∃ v1 v2 : Option V, σ = [some (.ref a), some (.int per), some (.int n), v1, v2] ∧ Same H H' ∧ bad1 (fun i x => i == 10 || !isRemD x per n || !ascP ds i) 0 ds = bad1 (fun i x => i == 10 || !isRemD x per n || !ascP ds i) i (ds.drop i) ∧ ∀ j d, j < i → ds[j]? = some d → isRemD d per n = true)
        ⟨none, none, rfl, Same.refl H, rfl, fun j d hj => absurd hj (Nat.not_lt_zero _)⟩ (fun i σ H' _ ⟨_, _, _, e, _⟩ => sSqT e hs) ?_ ?_⟩
      · rintro i y σ H1 H2 hi ⟨v1, v2, rfl, s1, eb, hall⟩ ⟨Tp, y1, y2, rfl, hTp, rfl, e1, e2⟩
        cases e1
        obtain ⟨dx, edx, hdx⟩ := dpAll_get ha e2
        have s2 : Same H (upd H1 Tp (.tup [.int (i : Nat), y2])) := s1.trans (same_upd hTp)
        have st := bad1_step (p := fun i x => i == 10 || !isRemD x per n || !ascP ds i) edx
        refine ⟨Tp, _, rfl, SqT.of upd_same, rfl, _, _, rfl, _, _, rfl, rfl, ?_⟩
        refine ⟨_, rfl, rfl, _, rfl, ?_⟩
        by_cases c6 : i = 10
        · have c6' : decide (V.int ((i : Nat) : Int) = V.int 10) = true := decide_eq_true (by rw [c6]; rfl)
          rw [c6']
          refine iteT (iteT ⟨_, rfl, raise_ih (Raised.mono (k2 i ?_) s2)⟩)
          rw [eb, st, c6]; rfl
        · have c6' : decide (V.int ((i : Nat) : Int) = V.int 10) = false := decide_eq_false fun q => c6 (by have := V.int.inj q; omega)
          rw [c6']
          have c6b : (i == 10) = false := by simpa using c6
          rw [c6b, Bool.false_or] at st
          refine iteF ⟨_, rfl, _, rfl, _, rfl, y2, dx, per, n, rfl, dpSame s2 _ _ hdx, _, rfl, ?_⟩
          cases c : isRemD dx per n with
          | false =>
            rw [c] at st
            refine iteT ⟨_, rfl, raise_ih (Raised.mono (k2 i ?_) s2)⟩
            rw [eb, st]; rfl
          | true =>
            rw [c] at st
            have st' : bad1 (fun i x => i == 10 || !isRemD x per n || !ascP ds i) i (ds.drop i) = if (!ascP ds i) = true then some i else bad1 (fun i x => i == 10 || !isRemD x per n || !ascP ds i) (i + 1) (ds.drop (i + 1)) := st
            refine iteF ⟨_, rfl, _, rfl, a, xs, i, ascP ds i, rfl, sSqT s2 hs, hi, fun e0 => by rw [e0]; rfl, fun j ej => ?_, _, rfl, ?_⟩
            · subst ej
              obtain ⟨x, ex⟩ : ∃ x, xs[j]? = some x := ⟨xs[j]'(by omega), List.getElem?_eq_getElem _⟩
              obtain ⟨dj, edj, hdj⟩ := dpAll_get ha ex
              obtain ⟨m1, m2, rfl, _⟩ := isRem_pr (hall j dj (Nat.lt_succ_self _) edj)
              obtain ⟨m3, m4, rfl, _⟩ := isRem_pr c
              cases hdj with
              | tup h1 h2 =>
                cases hdx with
                | tup h3 h4 =>
                  cases h2 with
                  | cons p1 p2 =>
                    cases p2 with
                    | cons p2 p3 =>
                      cases p3
                      cases p1
                      cases p2
                      cases h4 with
                      | cons q1 q2 =>
                        cases q2 with
                        | cons q2 q3 =>
                          cases q3
                          cases q1
                          cases q2
                          refine ⟨_, _, ex, e2, .inr ⟨_, _, [m1, m2], [m3, m4], rfl, rfl, sSqT s2 h1, sSqT s2 h3, ?_⟩⟩
                          show HT.lexLt [(prOf (ds.getD j .none)).1, (prOf (ds.getD j .none)).2] [(prOf (ds.getD (j + 1) .none)).1, (prOf (ds.getD (j + 1) .none)).2] = _
                          rw [getD_of edj, getD_of edx]; rfl
            · cases c2 : ascP ds i with
              | true =>
                rw [c2] at st'
                refine iteF ⟨_, _, rfl, s2, ?_, fun j d hj ej => ?_⟩
                · rw [eb, st']; rfl
                · by_cases e : j = i
                  · subst e; rw [edx] at ej; cases ej; exact c
                  · exact hall j d (by omega) ej
              | false =>
                rw [c2] at st'
                refine iteT ⟨_, rfl, raise_ih (Raised.mono (k2 i ?_) s2)⟩
                rw [eb, st']; rfl
      · rintro σ H1 ⟨v1, v2, rfl, s1, eb, _⟩
        refine k1 ?_ H1 s1
        rw [eb, hl]
        exact bad1_end
end
end Dk

set_option Elab.async false
set_option linter.all false
set_option maxRecDepth 100000
set_option maxHeartbeats 1000000
namespace Dk
open PySem PySem.Spec PyProof.Rows L2 TL
/-! ### the house -/
theorem isTab_of {d : PyData} (h : isTabD d = true) : ∃ t, d = .str t ∧ IsTab t := by
  cases d with
  | str t =>
    have h' : (decide ((t.length : Int) ∈ tabLens) && only t hoS) = true := h
    rw [Bool.and_eq_true] at h'
    refine ⟨t, rfl, ?_, fun c hc => ?_⟩
    · have h1 := of_decide_eq_true h'.1
      rw [len_tl t] at h1
      simp only [tabLens, List.mem_cons, List.not_mem_nil, or_false] at h1 ⊢
      omega
    · have h2 := List.all_eq_true.mp h'.2 c hc
      have h3 := of_decide_eq_true h2
      have e : tl hoS = [104, 111] := by decide +kernel
      rw [e] at h3
      simpa using h3
  | none => cases h
  | bool _ => cases h
  | int _ => cases h
  | list _ => cases h
  | tuple _ => cases h
  | dict _ => cases h
theorem isTab_is {t : Str} (h : IsTab t) : isTabD (.str t) = true := by
  show (decide ((t.length : Int) ∈ tabLens) && only t hoS) = true
  rw [Bool.and_eq_true]
  refine ⟨decide_eq_true ?_, List.all_eq_true.mpr fun c hc => decide_eq_true ?_⟩
  · have h1 := h.len
    rw [len_tl t]
    simp only [tabLens, List.mem_cons, List.not_mem_nil, or_false] at h1 ⊢
    omega
  · have e : tl hoS = [104, 111] := by decide +kernel
    rw [e]
    simpa using h.ho c hc
theorem bad1_none {p : Nat → PyData → Bool} : ∀ {ds : List PyData} {i : Nat}, bad1 p i ds = none ↔ ∀ j d, ds[j]? = some d → p (i + j) d = false
  | [], i => by simp [bad1]
  | d :: ds, i => by
    unfold bad1
    constructor
    · intro h j x hx
      split at h
      · cases h
      · rename_i c
        cases j with
        | zero => simp at hx; subst hx; simpa using c
        | succ j =>
          have := (bad1_none (ds := ds) (i := i + 1)).mp h j x (by simpa using hx)
          rw [show i + (j + 1) = i + 1 + j by omega]; exact this
    · intro h
      have h0 := h 0 d rfl
      rw [Nat.add_zero] at h0
      rw [h0]
      refine (bad1_none (ds := ds) (i := i + 1)).mpr fun j x hx => ?_
      have := h (j + 1) x (by simpa using hx)
      rw [show i + 1 + j = i + (j + 1) by omega]; exact this
theorem strs_of : ∀ {ds : List PyData}, (∀ d ∈ ds, isTabD d = true) → ∃ ts : List Str, ds = ts.map PyData.str ∧ Tabs ts
  | [], _ => ⟨[], rfl, fun t ht => by cases ht⟩
  | d :: ds, h => by
    obtain ⟨t, rfl, ht⟩ := isTab_of (h d (List.mem_cons_self ..))
    obtain ⟨ts, rfl, hts⟩ := strs_of (ds := ds) fun x hx => h x (List.mem_cons_of_mem _ hx)
    refine ⟨t :: ts, rfl, fun x hx => ?_⟩
    rcases List.mem_cons.mp hx with rfl | hx
    · exact ht
    · exact hts x hx
theorem tabs_of {d : PyData} (h : chkTabs d = none) : ∃ ts : List Str, d = .tuple (ts.map PyData.str) ∧ Tabs ts ∧ 1 ≤ ts.length ∧ ts.length ≤ 6 := by
  unfold chkTabs at h
  split at h
  · cases h
  · rename_i d0 ds
    have h' := bad1_none.mp h
    obtain ⟨ts, e, hT⟩ := strs_of (ds := d0 :: ds) fun x hx => by
      obtain ⟨j, hj⟩ := List.getElem?_of_mem hx
      have := h' j x hj
      simp only [Bool.or_eq_false_iff, Bool.not_eq_false'] at this
      exact this.2
    have hl : (d0 :: ds).length = ts.length := by rw [e, List.length_map]
    refine ⟨ts, by rw [e], hT, by rw [← hl]; simp, ?_⟩
    rw [← hl]
    rcases Nat.lt_or_ge 6 (d0 :: ds).length with c | c
    · have hx : (d0 :: ds)[6]? = some ((d0 :: ds)[6]'c) := List.getElem?_eq_getElem c
      have := h' 6 _ hx
      simp at this
    · exact c
  · cases h
theorem tabs_is {ts : List Str} (hT : Tabs ts) (h1 : 1 ≤ ts.length) (h6 : ts.length ≤ 6) : chkTabs (.tuple (ts.map PyData.str)) = none := by
  cases ts with
  | nil => simp at h1
  | cons t ts =>
    show bad1 _ 0 _ = none
    refine bad1_none.mpr fun j d hd => ?_
    have hd' : ((t :: ts).map PyData.str)[j]? = some d := hd
    rw [List.getElem?_map] at hd'
    cases e : (t :: ts)[j]? with
    | none => rw [e] at hd'; cases hd'
    | some x =>
      rw [e] at hd'
      have ed : PyData.str x = d := Option.some.inj hd'
      subst ed
      have hj : j < (t :: ts).length := (List.getElem?_eq_some_iff.mp e).1
      rw [isTab_is (hT x (List.mem_of_getElem? e))]
      have : (0 + j == 6) = false := by simp; omega
      rw [this]; rfl
def lenD : PyData → Nat
  | .tuple ds => ds.length
  | _ => 0
def strOf : PyData → Str
  | .str t => t
  | _ => Str.empty
def perD : PyData → Nat
  | .tuple ds => per (ds.map strOf)
  | _ => 1
/-- the first invalid part of a house -/
def chkHouse (dT dK dC dR : PyData) : Option (Str × Nat) :=
  match chkTabs dT with
  | some i => some ("tables", i)
  | none => match chkKeys dK with
    | some i => some ("keys", i)
    | none => match chkCareful dC (lenD dT : Int) with
      | some i => some ("careful", i)
      | none => match chkRem dR (perD dT : Int) (lenD dT : Int) with
        | some i => some ("reminders", i)
        | none => none
end Dk

set_option Elab.async false
set_option linter.all false
set_option maxRecDepth 100000
set_option maxHeartbeats 1000000
namespace Dk
open PySem PySem.Spec PyProof.Rows L2 TL
abbrev hFields (vT vK vC vR : V) : List (Str × V) := putF "reminders" vR (putF "careful" vC (putF "key_count" vK (putF "tables" vT [])))
theorem hf_len (vT vK vC vR : V) : (hFields vT vK vC vR).length = 4 := by rfl
structure TxtL (K : PySem.W.Frag) (mg : Str → Option Value) (C fP fT fK fC fR : Addr) (fdP fdT fdK fdC fdR : FuncData) : Prop where
  cl : Cls K C
  nT : NoAttr K C "tables"
  nK : NoAttr K C "key_count"
  nC : NoAttr K C "careful"
  nR : NoAttr K C "reminders"
  gP : mg "common_period" = some (.ref fP)
  FP : Fun K "common_period" "common_period" sPeriod fP fdP
  bP : Binds K fdP ["tables"] []
  gT : mg "check_tables" = some (.ref fT)
  FT : Fun K "check_tables" "check_tables" sChkTables fT fdT
  bT : Binds K fdT ["tables"] []
  gK : mg "check_keys" = some (.ref fK)
  FK : Fun K "check_keys" "check_keys" sChkKeys fK fdK
  bK : Binds K fdK ["keys"] []
  gCa : mg "check_careful" = some (.ref fC)
  FC : Fun K "check_careful" "check_careful" sChkCareful fC fdC
  bC : Binds K fdC ["careful", "persons"] []
  gR : mg "check_reminders" = some (.ref fR)
  FR : Fun K "check_reminders" "check_reminders" sChkRem fR fdR
  bR : Binds K fdR ["reminders", "period", "persons"] []
def spInit (K : PySem.W.Frag) (C CI : Addr) : Sp := fun vs H Q E => ∃ (p dx : Addr) (vT vK vC vR : V) (dT dK dC dR : PyData), vs = [.ref p, vT, vK, vC, vR] ∧ Dp K H vT dT ∧ Dp K H vK dK ∧ Dp K H vC dC ∧ Dp K H vR dR ∧
  (∀ ds, dT = .tuple ds → ∀ x ∈ ds, SmallS x) ∧ H p = some (.ins C dx []) ∧
  (chkHouse dT dK dC dR = none → ∀ H', Kp p H H' → H' p = some (.ins C dx (hFields vT vK vC vR)) → Q .non H') ∧
  (∀ part i, chkHouse dT dK dC dR = some (part, i) → Raised CI E H part (i : Int))
section
variable {P : Program} {w : World} {K : PySem.W.Frag} {mg : Str → Option Value} {base : Heap} {C fI : Addr} {fdI : FuncData} {fII fIB fHO : Addr} {fdII fdIB fdHO : FuncData} {fIT fIR fAs : Addr} {fdIT fdIR fdAs : FuncData}
  {CH fP fT fK fC fR : Addr} {fdP fdT fdK fdC fdR : FuncData}
theorem scInit : FnScope ["self", "tables", "keys", "careful", "reminders"] ["self", "tables", "keys", "careful", "reminders"] (defScope sInit) := ⟨rfl, rfl, rfl, by decide +kernel, rfl, by decide +kernel, by decide +kernel⟩
theorem strs_back {ts : List Str} : (ts.map PyData.str).map strOf = ts := by
  induction ts with
  | nil => rfl
  | cons t ts ih => rw [List.map_cons, List.map_cons, ih]; rfl
theorem dp_tabs {K : PySem.W.Frag} {H : Hp} {v : V} {ts : List Str} (h : Dp K H v (.tuple (ts.map PyData.str))) : ∃ a, v = .ref a ∧ SqT K H a (ts.map V.str) := by
  cases h with
  | @tup a xs ds hs ha =>
    refine ⟨a, rfl, ?_⟩
    have e : xs = ts.map V.str := by
      clear hs
      induction ts generalizing xs with
      | nil => cases ha; rfl
      | cons t ts ih =>
        cases ha with
        | cons h1 h2 =>
          cases h1
          rw [ih h2]; rfl
    rw [← e]; exact hs
theorem ok_init {f : Addr} {fd : FuncData} {dvs : List V} (F : FunD K "__init__" "House.__init__" (defArgs sInit) (defBody sInit) (defScope sInit) dvs [] f fd) (T : TxtA mg) (TC : TxtC mg) (TF : TxtF K mg fII fIB fHO fdII fdIB fdHO) (TI : TxtI K mg fIT fIR fAs fdIT fdIR fdAs) (TH : TxtIH K mg C fI fdI)
    (TL' : TxtL K mg CH fP fT fK fC fR fdP fdT fdK fdC fdR) :
    FnOk P w K mg base (L2.CX P w) 5 f fd ["self", "tables", "keys", "careful", "reminders"] (spInit K CH C) := by
  have GP : FnOk P w K mg base CX0 1 fP fdP ["tables"] (spPeriod K) := ok_period TL'.FP T TC
  have GT : FnOk P w K mg base (L2.CX P w) 3 fT fdT ["tables"] (spChkTabs K C) := ok_chktabs TL'.FT T TF TI TH
  have GK : FnOk P w K mg base (L2.CX P w) 3 fK fdK ["keys"] (spChkKeys K C) := ok_chkkeys TL'.FK TF TI TH
  have GC : FnOk P w K mg base (L2.CX P w) 3 fC fdC ["careful", "persons"] (spChkCareful K C) := ok_chkcareful TL'.FC T TF TI TH
  have GR : FnOk P w K mg base (L2.CX P w) 4 fR fdR ["reminders", "period", "persons"] (spChkRem K C) := ok_chkrem TL'.FR T TF TI TH
  refine F.ok scInit (fun vs H Q E h => ?_) (fun cdv A outer s H vs Q E hr h => ?_)
  · obtain ⟨p, dx, vT, vK, vC, vR, dT, dK, dC, dR, rfl, _⟩ := h
    rfl
  · obtain ⟨p, dx, vT, vK, vC, vR, dT, dK, dC, dR, rfl, hT, hK, hC, hR, hz, hp, k1, k2⟩ := h
    have hr3 : Room 3 (A.deeper (envOfC (Str.ofString "House.__init__") (defScope sInit) s.heap.objs.size f cdv)) := hr.mono (by decide)
    have hr1 : Room 1 (A.deeper (envOfC (Str.ofString "House.__init__") (defScope sInit) s.heap.objs.size f cdv)) := hr.mono (by decide)
    refine ⟨_, pss_cons (ps_expr (pe_call GT hr3 rfl TL'.gT TL'.FT.kp TL'.bT .nil (passes_call (takes_of rfl rfl rfl rfl) (fun _ _ _ _ h => h)) (pa_cons (pv 1) pa_nil)))
      (pss_cons (ps_expr (pe_call GK hr3 rfl TL'.gK TL'.FK.kp TL'.bK .nil (passes_call (takes_of rfl rfl rfl rfl) (fun _ _ _ _ h => h)) (pa_cons (pv 2) pa_nil)))
      (pss_cons (ps_expr (pe_call GC hr3 rfl TL'.gCa TL'.FC.kp TL'.bC .nil (passes_call (takes_of rfl rfl rfl rfl) (fun _ _ _ _ h => h)) (pa_cons (pv 3) (pa_cons (pe_callB call_len_seq (by rfl) T.len PySem.boot_len (pa_cons (pv 1) pa_nil)) pa_nil))))
      (pss_cons (ps_expr (pe_call GR hr rfl TL'.gR TL'.FR.kp TL'.bR .nil (passes_call (takes_of rfl rfl rfl rfl) (fun _ _ _ _ h => h)) (pa_cons (pv 4) (pa_cons (pe_call GP hr1 rfl TL'.gP TL'.FP.kp TL'.bP .nil pass0 (pa_cons (pv 1) pa_nil)) (pa_cons (pe_callB call_len_seq (by rfl) T.len PySem.boot_len (pa_cons (pv 1) pa_nil)) pa_nil)))))
      (pss_cons (ps_fld (pv 0) (pv 1) rfl) (pss_cons (ps_fld (pv 0) (pv 2) rfl) (pss_cons (ps_fld (pv 0) (pv 3) rfl) (pss_one (ps_fld (pv 0) (pv 4) rfl)))))))), ?_⟩
    refine ⟨_, rfl, vT, dT, rfl, hT, hz, fun cT H1 s1 => ?_, fun i c => k2 "tables" i (by unfold chkHouse; rw [c])⟩
    obtain ⟨ts, rfl, hTs, h1, h6⟩ := tabs_of cT
    obtain ⟨aT, rfl, hsT⟩ := dp_tabs hT
    refine ⟨_, rfl, vK, dK, rfl, dpSame s1 _ _ hK, fun cK => ?_, fun c => Raised.mono (k2 "keys" 0 (by unfold chkHouse; rw [cT]; dsimp only; rw [c])) s1⟩
    refine ⟨_, rfl, _, rfl, aT, _, rfl, .inr (sSqT s1 hsT), vC, dC, _, rfl, dpSame s1 _ _ hC, ?_⟩
    rw [show (((ts.map V.str).length : Nat) : Int) = (lenD (.tuple (ts.map PyData.str)) : Int) by show _ = (((ts.map PyData.str).length : Nat) : Int); rw [List.length_map, List.length_map]]
    refine ⟨fun cC H2 s2 => ?_, fun i c => Raised.mono (k2 "careful" i (by unfold chkHouse; rw [cT]; dsimp only; rw [cK]; dsimp only; rw [c])) s1⟩
    have s12 := s1.trans s2
    refine ⟨_, rfl, _, rfl, aT, ts, rfl, sSqT s12 hsT, hTs, _, rfl, aT, _, rfl, .inr (sSqT s12 hsT), vR, dR, _, _, rfl, dpSame s12 _ _ hR, ?_⟩
    rw [show (((ts.map V.str).length : Nat) : Int) = (lenD (.tuple (ts.map PyData.str)) : Int) by show _ = (((ts.map PyData.str).length : Nat) : Int); rw [List.length_map, List.length_map],
      show ((per ts : Nat) : Int) = (perD (.tuple (ts.map PyData.str)) : Int) by show _ = ((per ((ts.map PyData.str).map strOf) : Nat) : Int); rw [strs_back]]
    refine ⟨fun cR H3 s3 => ?_, fun i c => Raised.mono (k2 "reminders" i (by unfold chkHouse; rw [cT]; dsimp only; rw [cK]; dsimp only; rw [cC]; dsimp only; rw [c])) s12⟩
    have s123 := s12.trans s3
    have hp3 := s123 _ _ hp
    refine ⟨_, rfl, _, rfl, p, CH, dx, _, rfl, hp3, TL'.cl, TL'.nT, (by show 0 < 1000; decide), ?_⟩
    refine ⟨_, rfl, _, rfl, p, CH, dx, _, rfl, upd_same, TL'.cl, TL'.nK, (by show 1 < 1000; decide), ?_⟩
    refine ⟨_, rfl, _, rfl, p, CH, dx, _, rfl, upd_same, TL'.cl, TL'.nC, (by show 2 < 1000; decide), ?_⟩
    refine ⟨_, rfl, _, rfl, p, CH, dx, _, rfl, upd_same, TL'.cl, TL'.nR, (by show 3 < 1000; decide), ?_⟩
    refine k1 ?_ _ (fun b o nb eb => ?_) upd_same
    · unfold chkHouse; rw [cT]; dsimp only; rw [cK]; dsimp only; rw [cC]; dsimp only; rw [cR]
    · rw [upd_ne nb, upd_ne nb, upd_ne nb, upd_ne nb]; exact s123 _ _ eb
end
end Dk

set_option Elab.async false
set_option linter.all false
set_option maxRecDepth 100000
set_option maxHeartbeats 1000000
namespace Dk
open PySem PySem.Spec PyProof.Rows L2 TL
/-! ### words -/
theorem spl_bound (S : List Nat) : ∀ (k : Nat) (acc L : List Nat), ∀ p ∈ spl S k acc L, p.length ≤ acc.length + L.length
  | k, acc, [], p, h => by
    rw [spl_nil] at h
    rw [List.mem_singleton.mp h]; omega
  | 0, acc, c :: r, p, h => by
    unfold spl at h
    split at h
    · rcases List.mem_cons.mp h with rfl | h
      · rw [List.length_cons]; omega
      · have := spl_bound S _ [] r p h
        rw [List.length_cons]; simp at this; omega
    · have := spl_bound S 0 (acc ++ [c]) r p h
      rw [List.length_append, List.length_singleton] at this
      rw [List.length_cons]; omega
  | k + 1, acc, c :: r, p, h => by
    have := spl_bound S k acc r p h
    rw [List.length_cons]; omega
theorem spl_ne (S : List Nat) : ∀ (k : Nat) (acc L : List Nat), spl S k acc L ≠ []
  | k, acc, [] => by rw [spl_nil]; simp
  | 0, acc, c :: r => by
    unfold spl
    split
    · simp
    · exact spl_ne S 0 _ r
  | k + 1, acc, c :: r => spl_ne S k acc r
def colS : Str := Str.ofString ":"
def spS : Str := Str.ofString " "
def nlS : Str := Str.ofString "\n"
theorem tl_col : tl colS = [58] := by decide +kernel
theorem tl_sp : tl spS = [32] := by decide +kernel
theorem tl_nl : tl nlS = [10] := by decide +kernel
structure Sep (y : Str) : Prop where
  ex : ∃ c, tl y = [c]
  k : y.cps.all (· < 256) = true
  z : (y.length == 0) = false
theorem sepCol : Sep colS := ⟨⟨_, tl_col⟩, by decide +kernel, by decide +kernel⟩
theorem sepSp : Sep spS := ⟨⟨_, tl_sp⟩, by decide +kernel, by decide +kernel⟩
theorem sepNl : Sep nlS := ⟨⟨_, tl_nl⟩, by decide +kernel, by decide +kernel⟩
theorem split_bound {x y : Str} (hy : Sep y) : ∀ p ∈ Txt.split x y, p.length ≤ x.length := fun p h => by
  obtain ⟨c, ec⟩ := hy.ex
  have e := split_spl x y (by rw [ec]; simp) (kind_ok hy.k)
  have hm : tl p ∈ (Txt.split x y).map tl := List.mem_map.mpr ⟨p, h, rfl⟩
  rw [e] at hm
  have := spl_bound _ _ _ _ _ hm
  rw [len_tl p, len_tl x]
  simp at this
  simpa using this
theorem split_ne {x y : Str} (hy : Sep y) : Txt.split x y ≠ [] := fun h => by
  obtain ⟨c, ec⟩ := hy.ex
  have e := split_spl x y (by rw [ec]; simp) (kind_ok hy.k)
  rw [h] at e
  exact spl_ne _ _ _ _ e.symm
def digS : Str := Str.ofString "0123456789"
theorem tl_dig : tl digS = [48, 49, 50, 51, 52, 53, 54, 55, 56, 57] := by decide +kernel
def dig (c : Nat) : Bool := decide (c ∈ tl digS)
def isNW (x : Str) : Bool := match tl x with
  | [a] => dig a
  | [a, b] => dig a && dig b && decide (a ≠ 48)
  | _ => false
def isTW (x : Str) : Bool := !(tl x).isEmpty && only x hoS
def isRW (x : Str) : Bool := (Txt.split x colS).length == 2 && (Txt.split x colS).all isNW
def wTab : Str := Str.ofString "tables"
def wKey : Str := Str.ofString "keys"
def wCar : Str := Str.ofString "careful"
def wRem : Str := Str.ofString "remind"
def areArgs (x : Str) (ws : List Str) : Bool :=
  if x = wTab then ws.all isTW else if x = wRem then ws.all isRW else if x = wKey ∧ ws.length ≠ 1 then false else ws.all isNW
def spWord (g : Str → Bool) : Sp := fun vs H Q _ => ∃ x : Str, vs = [.str x] ∧ x.length ≤ 100000 ∧ ∀ H', Same H H' → Q (.bl (g x)) H'
def spAreArgs (K : PySem.W.Frag) : Sp := fun vs H Q _ => ∃ (x : Str) (a : Addr) (ws : List Str), vs = [.str x, .ref a] ∧ SqL K H a (ws.map V.str) ∧ ws.length ≤ 100000 ∧ (∀ y ∈ ws, y.length ≤ 100000) ∧ ∀ H', Same H H' → Q (.bl (areArgs x ws)) H'
structure TxtM (K : PySem.W.Frag) (mg : Str → Option Value) (fTW fNW fRW : Addr) (fdTW fdNW fdRW : FuncData) : Prop where
  digits : ∃ t, mg "DIGITS" = some (.str digS t)
  gTW : mg "is_table_word" = some (.ref fTW)
  FTW : Fun K "is_table_word" "is_table_word" sIsTW fTW fdTW
  bTW : Binds K fdTW ["word"] []
  gNW : mg "is_number_word" = some (.ref fNW)
  FNW : Fun K "is_number_word" "is_number_word" sIsNW fNW fdNW
  bNW : Binds K fdNW ["word"] []
  gRW : mg "is_reminder_word" = some (.ref fRW)
  FRW : Fun K "is_reminder_word" "is_reminder_word" sIsRW fRW fdRW
  bRW : Binds K fdRW ["word"] []
theorem str_eq_iff {x y : Str} : x = y ↔ tl x = tl y := ⟨fun h => by rw [h], ext_tl⟩
section
variable {P : Program} {w : World} {K : PySem.W.Frag} {mg : Str → Option Value} {base : Heap} {fII fIB fHO : Addr} {fdII fdIB fdHO : FuncData} {fTW fNW fRW : Addr} {fdTW fdNW fdRW : FuncData}
theorem scIsTW : FnScope ["word"] ["word"] (defScope sIsTW) := ⟨rfl, rfl, rfl, by decide +kernel, rfl, by decide +kernel, by decide +kernel⟩
theorem ok_istw (TF : TxtF K mg fII fIB fHO fdII fdIB fdHO) (TM : TxtM K mg fTW fNW fRW fdTW fdNW fdRW) : FnOk P w K mg base CX0 2 fTW fdTW ["word"] (spWord isTW) := by
  have GH : FnOk P w K mg base CX0 1 fHO fdHO ["word", "characters"] spHasOnly := ok_hasonly TF
  obtain ⟨tL, eL⟩ := TF.letters
  refine TM.FTW.ok scIsTW (fun vs H Q E h => ?_) (fun cdv A outer s H vs Q E hr h => ?_)
  · obtain ⟨x, rfl, _⟩ := h
    rfl
  · obtain ⟨x, rfl, hz, k⟩ := h
    refine ⟨_, pss_one (ps_ret (pe_and (pe_cmpR op_ne (pv 0) pe_str (nomark _)) (pe_one (pe_call GH hr rfl TF.gHO TF.FHO.kp TF.bHO .nil pass0 (pa_cons (pv 0) (pa_cons (pe_glob (v := .str hoS) rfl eL ⟨_, rfl⟩) pa_nil)))))), ?_⟩
    refine ⟨_, rfl, rfl, _, rfl, ?_⟩
    have e0 : tl (Str.ofString "") = [] := by decide +kernel
    cases e : tl x with
    | nil =>
      have ex : x = Str.ofString "" := ext_tl (by rw [e, e0])
      have c : (!decide (V.str x = V.str (Str.ofString ""))) = false := by rw [decide_eq_true (by rw [ex])]; rfl
      rw [c]
      refine iteF ?_
      have := k H (Same.refl H)
      have e2 : isTW x = false := by unfold isTW; rw [e]; rfl
      rw [e2] at this; exact this
    | cons a r =>
      have c : (!decide (V.str x = V.str (Str.ofString ""))) = true := by
        rw [decide_eq_false fun q => ?_]; rfl
        have := V.str.inj q
        rw [this, e0] at e; cases e
      rw [c]
      refine iteT ⟨_, rfl, x, hoS, rfl, hz, fun H' s' => ?_⟩
      have e2 : isTW x = only x hoS := by unfold isTW; rw [e]; rfl
      have := k H' s'
      rw [e2] at this; exact this
theorem scIsNW : FnScope ["word"] ["word"] (defScope sIsNW) := ⟨rfl, rfl, rfl, by decide +kernel, rfl, by decide +kernel, by decide +kernel⟩
theorem ok_isnw (T : TxtA mg) (TF : TxtF K mg fII fIB fHO fdII fdIB fdHO) (TM : TxtM K mg fTW fNW fRW fdTW fdNW fdRW) : FnOk P w K mg base CX0 2 fNW fdNW ["word"] (spWord isNW) := by
  have GH : FnOk P w K mg base CX0 1 fHO fdHO ["word", "characters"] spHasOnly := ok_hasonly TF
  obtain ⟨tD, eD⟩ := TM.digits
  refine TM.FNW.ok scIsNW (fun vs H Q E h => ?_) (fun cdv A outer s H vs Q E hr h => ?_)
  · obtain ⟨x, rfl, _⟩ := h
    rfl
  · obtain ⟨x, rfl, hz, k⟩ := h
    have hz' : x.length ≤ sizeLine := Nat.le_trans hz (by decide)
    refine ⟨_, pss_cons (ps_if (PW.pt (pw_or (pt_cmpR op_notIn_seq (pe_callB call_len_str (by rfl) T.len PySem.boot_len (pa_cons (pv 0) pa_nil)) (pe_tup (pa_cons pe_int (pa_cons pe_int pa_nil))) (by rfl))
        (pw_or1 (pt_not (pt_val (pe_call GH hr rfl TF.gHO TF.FHO.kp TF.bHO .nil pass0 (pa_cons (pv 0) (pa_cons (pe_glob (v := .str digS) rfl eD ⟨_, rfl⟩) pa_nil)))))))) (pss_one (ps_ret pe_bl)) pss_nil)
      (pss_one (ps_ret (pe_or (pe_cmpR op_eq (pe_callB call_len_str (by rfl) T.len PySem.boot_len (pa_cons (pv 0) pa_nil)) pe_int (nomark _)) (pe_one (pe_cmpR op_ne (pe_item_str (pv 0) pe_int (fun _ _ => rfl)) pe_str (nomark _)))))), ?_⟩
    refine ⟨_, rfl, _, rfl, hz', by show 2 ≤ sizeLine; decide, fun p hp => ?_⟩
    refine ⟨p, _, rfl, .inr (SqT.of upd_same), rfl, rfl, _, rfl, ?_⟩
    have ei : inV (V.int (x.length : Int)) [V.int 1, V.int 2] = decide ((x.length : Int) ∈ ([1, 2] : List Int)) := any_eqI [1, 2] _
    show (if (!inV (V.int (x.length : Int)) [V.int 1, V.int 2]) = true then _ else _)
    rw [ei]
    have sp := same_upd (o := .tup [V.int 1, V.int 2]) hp
    have hl := len_tl x
    by_cases c : (x.length : Int) ∈ ([1, 2] : List Int)
    · rw [decide_eq_true c]
      refine iteF ⟨_, rfl, x, digS, rfl, hz, fun H1 s1 => ⟨_, rfl, ?_⟩⟩
      have s2 := sp.trans s1
      simp only [List.mem_cons, List.not_mem_nil, or_false] at c
      have cases2 : (∃ a, tl x = [a]) ∨ ∃ a b, tl x = [a, b] := by
        rcases c with c | c
        · left
          have : (tl x).length = 1 := by omega
          match h : tl x, this with
          | [a], _ => exact ⟨a, rfl⟩
        · right
          have : (tl x).length = 2 := by omega
          match h : tl x, this with
          | [a, b], _ => exact ⟨a, b, rfl⟩
      rcases cases2 with ⟨a, ea⟩ | ⟨a, b, ea⟩
      · have eo : only x digS = dig a := by unfold only dig; rw [ea]; simp
        have en : isNW x = dig a := by unfold isNW; rw [ea]
        rw [eo]
        have k2 := k H1 s2
        rw [en] at k2
        cases cd : dig a with
        | false => rw [cd] at k2; exact iteT k2
        | true =>
          rw [cd] at k2
          refine iteF ⟨_, rfl, _, rfl, hz', rfl, _, rfl, ?_⟩
          have c1 : decide (V.int (x.length : Int) = V.int 1) = true := decide_eq_true (by rw [hl, ea]; rfl)
          rw [c1]
          exact iteT k2
      · have eo : only x digS = (dig a && dig b) := by unfold only dig; rw [ea]; simp
        have en : isNW x = (dig a && dig b && decide (a ≠ 48)) := by unfold isNW; rw [ea]
        rw [eo]
        have k2 := k H1 s2
        rw [en] at k2
        cases cd : dig a && dig b with
        | false => rw [cd] at k2; exact iteT k2
        | true =>
          rw [cd] at k2
          refine iteF ⟨_, rfl, _, rfl, hz', rfl, _, rfl, ?_⟩
          have c1 : decide (V.int (x.length : Int) = V.int 1) = false := decide_eq_false fun q => by
            have := V.int.inj q
            rw [hl, ea] at this
            cases this
          rw [c1]
          have e0 : x.cps[(0 : Int).toNat]? = some a := by
            have h1 : (tl x)[0]? = some a := by rw [ea]; rfl
            rw [← h1]; exact Array.getElem?_toList.symm
          refine iteF ⟨_, rfl, x, 0, a, rfl, rfl, by decide, by decide, by rw [hl, ea]; simp, e0, rfl, ?_⟩
          have c2 : (!decide (V.str (⟨#[a]⟩ : Str) = V.str (Str.ofString "0"))) = (true && decide (a ≠ 48)) := by
            have e48 : tl (Str.ofString "0") = [48] := by decide +kernel
            by_cases h : a = 48
            · subst h
              rw [decide_eq_true (congrArg V.str (ext_tl (by rw [e48])))]
              simp
            · have hn : ¬ V.str (⟨#[a]⟩ : Str) = V.str (Str.ofString "0") := fun q => by
                have h1 : tl (⟨#[a]⟩ : Str) = tl (Str.ofString "0") := congrArg tl (V.str.inj q)
                rw [e48] at h1
                exact h (List.cons.inj h1).1
              rw [decide_eq_false hn]
              simp [h]
          rw [c2]
          exact k2
    · rw [decide_eq_false c]
      refine iteT ?_
      have en : isNW x = false := by
        unfold isNW
        split
        · rename_i a ea
          exact absurd (by rw [hl, ea]; simp) c
        · rename_i a b ea
          exact absurd (by rw [hl, ea]; simp) c
        · rfl
      have := k _ sp
      rw [en] at this; exact this
end
end Dk

set_option Elab.async false
set_option linter.all false
set_option maxRecDepth 100000
set_option maxHeartbeats 1000000
namespace Dk
open PySem PySem.Spec PyProof.Rows L2 TL
theorem sum_len {l : List Str} {n : Nat} (h : ∀ p ∈ l, p.length ≤ n) : (l.map (·.length)).sum ≤ l.length * n := by
  induction l with
  | nil => simp
  | cons x l ih =>
    have h1 := h x (List.mem_cons_self ..)
    have h2 := ih fun p hp => h p (List.mem_cons_of_mem _ hp)
    rw [List.map_cons, List.sum_cons, List.length_cons, Nat.succ_mul]
    omega
section
variable {P : Program} {w : World} {K : PySem.W.Frag} {mg : Str → Option Value} {base : Heap} {fII fIB fHO : Addr} {fdII fdIB fdHO : FuncData} {fTW fNW fRW : Addr} {fdTW fdNW fdRW : FuncData}
theorem scIsRW : FnScope ["word", "parts", "part"] ["word"] (defScope sIsRW) := ⟨rfl, rfl, rfl, by decide +kernel, rfl, by decide +kernel, by decide +kernel⟩
/-- the reading of [f(part) for part in l], f telling g of a text: the list of g's -/
theorem comp_all {l : Addr} {ws : List Str} {H1 : Hp} {D : Addr} {g : Str → Bool} {σ : L2.St} {i : Nat} {vs : List Nat} {te : TE} {Qd : Hp → Prop} (hD : H1 D = none) (hl : SqL K H1 l (ws.map V.str)) (hz : ws.length ≤ 200000)
    (hte : ∀ (x : Str) (H2 : Hp) (Q : VK), x ∈ ws → (∀ H3, Same H2 H3 → Q (.bl (g x)) H3) → te ((wipe σ vs).set i (some (.str x))) H2 Q) (hw : ∀ x : V, wipe ((wipe σ vs).set i (some x)) vs = wipe σ vs)
    (hd : ∀ H2, Same H1 H2 → H2 D = some (.lst ((ws.map g).map V.bl)) → Qd H2) :
    ∃ W : Nat → Nat → Hp → Prop, (∃ m, W 0 m (upd H1 D (.lst []))) ∧ ∀ i' m H, W i' m H →
      ((Itl K l).stop i' H ∧ Qd H) ∨ ((Itl K l).go i' H ∧ ∃ Nx : Hp → Prop, (∀ H', Nx H' → ∃ m', m' < m ∧ W (i' + 1) m' H') ∧ ∀ x H', (Itl K l).yld i' H x H' → gName i x (wipe σ vs) H' fun σ2 H2 => wipe σ2 vs = wipe σ vs ∧ tYes σ2 H2 fun b H3 =>
        if b = true then te σ2 H3 fun y H4 => ∃ acc, H4 D = some (.lst acc) ∧ acc.length < sizeLine ∧ Nx (upd H4 D (.lst (acc ++ [y]))) else Nx H3) := by
  refine lc_list (K := K) (a := l) (xs := ws.map V.str) (g := gName i) (tt := tYes) (te := te) (vs := vs) (σ := σ) (Qd := Qd)
    (fun i H3 => Same H1 H3 ∧ H3 D = some (.lst (((ws.take i).map g).map V.bl)))
    ⟨same_upd hD, upd_same⟩ (fun i H3 _ ⟨e, _⟩ => e.seq hl) ?_ ?_
  · rintro j y H3 hi ⟨s3, eD⟩
    obtain ⟨t, ht, rfl⟩ := map_at hi
    have hj : j < ws.length := (List.getElem?_eq_some_iff.mp ht).1
    refine ⟨hw _, hte t H3 _ (List.mem_of_getElem? ht) fun H4 s4 => ⟨_, s4 _ _ eD, ?_, fun b o eb => ?_, ?_⟩⟩
    · rw [List.length_map, List.length_map, List.length_take]
      exact Nat.lt_of_le_of_lt (Nat.le_trans (Nat.min_le_left _ _) (by omega : j ≤ 200000)) (by decide)
    · rw [upd_ne (ne_of_none eb hD)]; exact s4 _ _ (s3 _ _ eb)
    · rw [upd_same, take_more ht, List.map_append, List.map_append]; rfl
  · rintro H3 ⟨s3, eD⟩
    rw [List.length_map, List.take_length] at eD
    exact hd H3 s3 eD
theorem all_map (ws : List Str) (g : Str → Bool) : (ws.map g).all id = ws.all g := by rw [List.all_map]; rfl
theorem ok_isrw (T : TxtA mg) (TF : TxtF K mg fII fIB fHO fdII fdIB fdHO) (TM : TxtM K mg fTW fNW fRW fdTW fdNW fdRW) : FnOk P w K mg base CX0 3 fRW fdRW ["word"] (spWord isRW) := by
  have GN : FnOk P w K mg base CX0 2 fNW fdNW ["word"] (spWord isNW) := ok_isnw T TF TM
  refine TM.FRW.ok scIsRW (fun vs H Q E h => ?_) (fun cdv A outer s H vs Q E hr h => ?_)
  · obtain ⟨x, rfl, _⟩ := h
    rfl
  · obtain ⟨x, rfl, hz, k⟩ := h
    refine ⟨_, pss_cons (ps_set (i := 1) scIsRW.nd rfl (.inl rfl) (pe_split (pv 0) pe_str))
      (pss_one (ps_ret (pe_and (pe_cmpR op_eq (pe_callB call_len_seq (by rfl) T.len PySem.boot_len (pa_cons (pv 1) pa_nil)) pe_int (nomark _)) (pe_one
        (pe_callB (cr_all rfl) (by rfl) TF.all (by decide +kernel) (pa_cons (pe_lc (own := [("part", 2)]) (g := gName 2) (by rfl) scIsRW.nd (pi_list (pv 1)) (blkOk_by (N := ["word", "parts", "part"]) (sc := defScope sIsRW) (by decide +kernel))
          (fun _ _ _ _ _ => pg_name (i := 2) scIsRW.nd rfl (Or.inl rfl)) (fun _ _ _ _ _ => pts_nil)
          (fun _ _ _ _ _ => pe_call GN hr rfl TM.gNW TM.FNW.kp TM.bNW .nil pass0 (pa_cons (pv 2) pa_nil))) pa_nil)))))), ?_⟩
    refine ⟨_, rfl, ⟨_, rfl⟩, x, colS, rfl, rfl, sepCol.z, Nat.le_trans (by omega : x.length + 2 ≤ 100002) (by decide), fun l hl => ?_⟩
    have s1 := same_upd (o := .lst ((Txt.split x colS).map V.str)) hl
    have hb := split_bound (x := x) sepCol
    have hn := split_le x colS
    refine ⟨_, rfl, l, _, rfl, .inl (SqL.of upd_same), rfl, _, rfl, ?_⟩
    rw [List.length_map]
    have ed : decide (V.int (((Txt.split x colS).length : Nat) : Int) = V.int 2) = ((Txt.split x colS).length == 2) := by
      by_cases c : (Txt.split x colS).length = 2
      · rw [c]; rfl
      · rw [decide_eq_false fun q => c (by have := V.int.inj q; omega)]
        exact (by simpa using c : ((Txt.split x colS).length == 2) = false).symm
    rw [ed]
    have er : isRW x = ((Txt.split x colS).length == 2 && (Txt.split x colS).all isNW) := rfl
    cases c : (Txt.split x colS).length == 2 with
    | false =>
      rw [c] at er
      have := k _ s1
      rw [er] at this
      exact iteF this
    | true =>
      rw [c] at er
      refine iteT ⟨_, rfl, l, rfl, ⟨_, SqL.of upd_same⟩, fun D hD => ?_⟩
      refine comp_all (i := 2) (vs := [2]) (g := isNW) hD (SqL.of upd_same) (by omega) (fun y H2 Q2 hm hq => ?_) (fun _ => rfl) (fun H2 s2 eD => ?_)
      · exact ⟨_, rfl, y, rfl, Nat.le_trans (hb y hm) hz, hq⟩
      · refine ⟨D, _, rfl, SqL.of eD, ?_⟩
        rw [all_map]
        have := k _ (s1.trans s2)
        rw [er] at this
        exact this
theorem scAreArgs : FnScope ["word", "rest", "part"] ["word", "rest"] (defScope sAreArgs) := ⟨rfl, rfl, rfl, by decide +kernel, rfl, by decide +kernel, by decide +kernel⟩
theorem ok_areargs {f : Addr} {fd : FuncData} (F : Fun K "are_arguments" "are_arguments" sAreArgs f fd) (T : TxtA mg) (TF : TxtF K mg fII fIB fHO fdII fdIB fdHO) (TM : TxtM K mg fTW fNW fRW fdTW fdNW fdRW) : FnOk P w K mg base CX0 4 f fd ["word", "rest"] (spAreArgs K) := by
  have GN : FnOk P w K mg base CX0 2 fNW fdNW ["word"] (spWord isNW) := ok_isnw T TF TM
  have GT : FnOk P w K mg base CX0 2 fTW fdTW ["word"] (spWord isTW) := ok_istw TF TM
  have GR : FnOk P w K mg base CX0 3 fRW fdRW ["word"] (spWord isRW) := ok_isrw T TF TM
  refine F.ok scAreArgs (fun vs H Q E h => ?_) (fun cdv A outer s H vs Q E hr h => ?_)
  · obtain ⟨x, a, ws, rfl, _⟩ := h
    rfl
  · obtain ⟨x, a, ws, rfl, hS, hz, hw, k⟩ := h
    have hr2 : Room 2 (A.deeper (envOfC (Str.ofString "are_arguments") (defScope sAreArgs) s.heap.objs.size f cdv)) := hr.mono (by decide)
    refine ⟨_, pss_cons (ps_if (pt_cmpR op_eq (pv 0) pe_str (nomark _)) (pss_one (ps_ret
        (pe_callB (cr_all rfl) (by rfl) TF.all (by decide +kernel) (pa_cons (pe_lc (own := [("part", 2)]) (g := gName 2) (by rfl) scAreArgs.nd (pi_list (pv 1)) (blkOk_by (N := ["word", "rest", "part"]) (sc := defScope sAreArgs) (by decide +kernel))
          (fun _ _ _ _ _ => pg_name (i := 2) scAreArgs.nd rfl (Or.inl rfl)) (fun _ _ _ _ _ => pts_nil)
          (fun _ _ _ _ _ => pe_call GT hr2 rfl TM.gTW TM.FTW.kp TM.bTW .nil pass0 (pa_cons (pv 2) pa_nil))) pa_nil)))) pss_nil)
      (pss_cons (ps_if (pt_cmpR op_eq (pv 0) pe_str (nomark _)) (pss_one (ps_ret
        (pe_callB (cr_all rfl) (by rfl) TF.all (by decide +kernel) (pa_cons (pe_lc (own := [("part", 2)]) (g := gName 2) (by rfl) scAreArgs.nd (pi_list (pv 1)) (blkOk_by (N := ["word", "rest", "part"]) (sc := defScope sAreArgs) (by decide +kernel))
          (fun _ _ _ _ _ => pg_name (i := 2) scAreArgs.nd rfl (Or.inl rfl)) (fun _ _ _ _ _ => pts_nil)
          (fun _ _ _ _ _ => pe_call GR hr rfl TM.gRW TM.FRW.kp TM.bRW .nil pass0 (pa_cons (pv 2) pa_nil))) pa_nil)))) pss_nil)
      (pss_cons (ps_if (PW.pt (pw_and (pt_cmpR op_eq (pv 0) pe_str (nomark _)) (pw_and1 (pt_cmpR op_ne (pe_callB call_len_seq (by rfl) T.len PySem.boot_len (pa_cons (pv 1) pa_nil)) pe_int (nomark _))))) (pss_one (ps_ret pe_bl)) pss_nil)
      (pss_one (ps_ret
        (pe_callB (cr_all rfl) (by rfl) TF.all (by decide +kernel) (pa_cons (pe_lc (own := [("part", 2)]) (g := gName 2) (by rfl) scAreArgs.nd (pi_list (pv 1)) (blkOk_by (N := ["word", "rest", "part"]) (sc := defScope sAreArgs) (by decide +kernel))
          (fun _ _ _ _ _ => pg_name (i := 2) scAreArgs.nd rfl (Or.inl rfl)) (fun _ _ _ _ _ => pts_nil)
          (fun _ _ _ _ _ => pe_call GN hr2 rfl TM.gNW TM.FNW.kp TM.bNW .nil pass0 (pa_cons (pv 2) pa_nil))) pa_nil)))))), ?_⟩
    refine ⟨_, rfl, rfl, _, rfl, ?_⟩
    by_cases c1 : x = wTab
    · have e1 : decide (V.str x = V.str (Str.ofString "tables")) = true := decide_eq_true (by rw [c1]; rfl)
      rw [e1]
      have er : areArgs x ws = ws.all isTW := by unfold areArgs; rw [if_pos c1]
      rw [er] at k
      refine iteT ⟨_, rfl, a, rfl, ⟨_, hS⟩, fun D hD => ?_⟩
      refine comp_all (i := 2) (vs := [2]) (g := isTW) hD hS (Nat.le_trans hz (by decide)) (fun y H2 Q2 hm hq => ⟨_, rfl, y, rfl, hw y hm, hq⟩) (fun _ => rfl) (fun H2 s2 eD => ⟨D, _, rfl, SqL.of eD, ?_⟩)
      rw [all_map]; exact k _ s2
    · have e1 : decide (V.str x = V.str (Str.ofString "tables")) = false := decide_eq_false fun q => c1 (V.str.inj q)
      rw [e1]
      refine iteF ⟨_, rfl, rfl, _, rfl, ?_⟩
      by_cases c2 : x = wRem
      · have e2 : decide (V.str x = V.str (Str.ofString "remind")) = true := decide_eq_true (by rw [c2]; rfl)
        rw [e2]
        have er : areArgs x ws = ws.all isRW := by unfold areArgs; rw [if_neg c1, if_pos c2]
        rw [er] at k
        refine iteT ⟨_, rfl, a, rfl, ⟨_, hS⟩, fun D hD => ?_⟩
        refine comp_all (i := 2) (vs := [2]) (g := isRW) hD hS (Nat.le_trans hz (by decide)) (fun y H2 Q2 hm hq => ⟨_, rfl, y, rfl, hw y hm, hq⟩) (fun _ => rfl) (fun H2 s2 eD => ⟨D, _, rfl, SqL.of eD, ?_⟩)
        rw [all_map]; exact k _ s2
      · have e2 : decide (V.str x = V.str (Str.ofString "remind")) = false := decide_eq_false fun q => c2 (V.str.inj q)
        rw [e2]
        refine iteF ⟨_, rfl, rfl, _, rfl, ?_⟩
        have fin : (¬ (x = wKey ∧ ws.length ≠ 1)) → ∀ H', Same H H' → Q (.bl (ws.all isNW)) H' := fun c => by
          have er : areArgs x ws = ws.all isNW := by unfold areArgs; rw [if_neg c1, if_neg c2, if_neg c]
          rw [er] at k; exact k
        by_cases c3 : x = wKey
        · have e3 : decide (V.str x = V.str (Str.ofString "keys")) = true := decide_eq_true (by rw [c3]; rfl)
          rw [e3]
          refine iteT ⟨_, rfl, a, _, rfl, .inl hS, rfl, _, rfl, ?_⟩
          rw [List.length_map]
          by_cases c4 : ws.length = 1
          · have e4 : (!decide (V.int ((ws.length : Nat) : Int) = V.int 1)) = false := by rw [decide_eq_true (by rw [c4]; rfl)]; rfl
            rw [e4]
            refine iteF ⟨_, rfl, a, rfl, ⟨_, hS⟩, fun D hD => ?_⟩
            refine comp_all (i := 2) (vs := [2]) (g := isNW) hD hS (Nat.le_trans hz (by decide)) (fun y H2 Q2 hm hq => ⟨_, rfl, y, rfl, hw y hm, hq⟩) (fun _ => rfl) (fun H2 s2 eD => ⟨D, _, rfl, SqL.of eD, ?_⟩)
            rw [all_map]; exact fin (fun q => q.2 c4) _ s2
          · have e4 : (!decide (V.int ((ws.length : Nat) : Int) = V.int 1)) = true := by rw [decide_eq_false fun q => c4 (by have := V.int.inj q; omega)]; rfl
            rw [e4]
            refine iteT ?_
            have er : areArgs x ws = false := by unfold areArgs; rw [if_neg c1, if_neg c2, if_pos ⟨c3, c4⟩]
            have := k H (Same.refl H)
            rw [er] at this; exact this
        · have e3 : decide (V.str x = V.str (Str.ofString "keys")) = false := decide_eq_false fun q => c3 (V.str.inj q)
          rw [e3]
          refine iteF (iteF ⟨_, rfl, a, rfl, ⟨_, hS⟩, fun D hD => ?_⟩)
          refine comp_all (i := 2) (vs := [2]) (g := isNW) hD hS (Nat.le_trans hz (by decide)) (fun y H2 Q2 hm hq => ⟨_, rfl, y, rfl, hw y hm, hq⟩) (fun _ => rfl) (fun H2 s2 eD => ⟨D, _, rfl, SqL.of eD, ?_⟩)
          rw [all_map]; exact fin (fun q => c3 q.1) _ s2
end
end Dk

set_option Elab.async false
set_option linter.all false
set_option maxRecDepth 100000
set_option maxHeartbeats 1000000
namespace Dk
open PySem PySem.Spec PyProof.Rows L2 TL
def lineWords : List Str := [wTab, wKey, wCar, wRem]
/-- the first invalid line -/
def faultL : Nat → List Str → List Str → Option Nat
  | _, [], [] => none
  | k, [], _ :: _ => some k
  | k, _ :: _, [] => some k
  | k, w :: ws, l :: ls => match Txt.split l spS with
    | [] => some k
    | f :: r => if f = w ∧ areArgs w r = true then faultL (k + 1) ws ls else some k
def linesOf (x : Str) : List Str := Txt.split x nlS
def fault (x : Str) : Option Nat := faultL 0 lineWords (linesOf x)
def rowOf (l : Str) : List Str := (Txt.split l spS).tail
def TFRaised (C : Addr) (E : XK) (H : Hp) (i : Int) : Prop := ∀ (H' : Hp) (d : Addr), Same H H' → H d = none → H' d = some (.xd [("line", .int i)]) → E (.ref C) (some d) H'
theorem TFRaised.mono {C : Addr} {E : XK} {H H1 : Hp} {i : Int} (h : TFRaised C E H i) (s : Same H H1) : TFRaised C E H1 i := fun H' d s2 n e => h H' d (s.trans s2) (s.free n) e
structure TxtTF (K : PySem.W.Frag) (mg : Str → Option Value) (C fI : Addr) (fdI : FuncData) : Prop where
  gC : mg "TextFault" = some (.ref C)
  O : OexC K C
  iC : PySem.W.findIn K (.ref C) "__init__" = some (some (.ref fI))
  tI : PySem.W.typeIn K (.ref fI) = some (.type "function")
  F : Fun K "__init__" "TextFault.__init__" sTFInit fI fdI
  b : Binds K fdI ["self", "line"] []
  nL : PySem.W.findIn K (.ref C) "line" = some none
def spTFInit (C : Addr) : Sp := fun vs H Q _ => ∃ (a : Addr) (i : V), vs = [.ref a, i] ∧ H a = some (exo a C none) ∧
  ∀ d, H d = none → d ≠ a → Q .non (upd (upd H d (exd d [("line", i)])) a (exo a C (some d)))
/-- rows at as -/
def RowsAt (H : Hp) (as : List Addr) (rows : List (List Str)) : Prop := Paired (fun a ws => H a = some (.lst (ws.map V.str))) as rows
theorem RowsAt.mono {H H' : Hp} : ∀ {as : List Addr} {rows : List (List Str)}, Same H H' → RowsAt H as rows → RowsAt H' as rows
  | [], [], _, .nil => .nil
  | _ :: _, _ :: _, s, .cons h t => .cons (s _ _ h) (RowsAt.mono s t)
theorem RowsAt.app {H : Hp} : ∀ {as : List Addr} {rows : List (List Str)} {a : Addr} {ws : List Str}, RowsAt H as rows → H a = some (.lst (ws.map V.str)) → RowsAt H (as ++ [a]) (rows ++ [ws])
  | [], [], _, _, .nil, h => .cons h .nil
  | _ :: _, _ :: _, _, _, .cons h t, q => .cons h (RowsAt.app t q)
theorem RowsAt.len {H : Hp} {as : List Addr} {rows : List (List Str)} (h : RowsAt H as rows) : as.length = rows.length := Paired.length h
theorem RowsAt.keep {H H' : Hp} {r : Addr} : ∀ {as : List Addr} {rows : List (List Str)}, RowsAt H as rows → (∀ b o, b ≠ r → H b = some o → H' b = some o) → r ∉ as → RowsAt H' as rows
  | [], [], .nil, _, _ => .nil
  | a :: _, _ :: _, .cons h t, k, n => .cons (k a _ (fun e => n (by rw [← e]; exact List.mem_cons_self ..)) h) (RowsAt.keep t k fun m => n (List.mem_cons_of_mem _ m))
/-- a text that is not larger than this -/
def spSplitText (C : Addr) : Sp := fun vs H Q E => ∃ x : Str, vs = [.str x] ∧ x.length ≤ 10000 ∧
  (fault x = none → ∀ (H' : Hp) (a : Addr) (as : List Addr), Same H H' → H a = none → H' a = some (.lst (as.map V.ref)) → RowsAt H' as ((linesOf x).map rowOf) → Q (.ref a) H') ∧
  (∀ k, fault x = some k → TFRaised C E H (k : Int))
structure TxtO (K : PySem.W.Frag) (mg : Str → Option Value) (fAA : Addr) (fdAA : FuncData) : Prop where
  gAA : mg "are_arguments" = some (.ref fAA)
  FAA : Fun K "are_arguments" "are_arguments" sAreArgs fAA fdAA
  bAA : Binds K fdAA ["word", "rest"] []
  words : ∃ a, mg "LINE_WORDS" = some (.ref a) ∧ SqT K (fun _ => none) a (lineWords.map V.str)
theorem fault_step {x : Str} {i : Nat} {w l f : Str} {r : List Str} {n : Nat} (hw : lineWords[i]? = some w) (hl : (linesOf x)[i]? = some l) (hs : Txt.split l spS = f :: r) :
    faultL n (lineWords.drop i) ((linesOf x).drop i) = if f = w ∧ areArgs w r = true then faultL (n + 1) (lineWords.drop (i + 1)) ((linesOf x).drop (i + 1)) else some n := by
  have e1 : lineWords.drop i = w :: lineWords.drop (i + 1) := by
    obtain ⟨h1, h2⟩ := List.getElem?_eq_some_iff.mp hw
    rw [List.drop_eq_getElem_cons h1, h2]
  have e2 : (linesOf x).drop i = l :: (linesOf x).drop (i + 1) := by
    obtain ⟨h1, h2⟩ := List.getElem?_eq_some_iff.mp hl
    rw [List.drop_eq_getElem_cons h1, h2]
  rw [e1, e2]
  show (match Txt.split l spS with | [] => some n | f :: r => if f = w ∧ areArgs w r = true then faultL (n + 1) (lineWords.drop (i + 1)) ((linesOf x).drop (i + 1)) else some n) = _
  rw [hs]
section
variable {P : Program} {w : World} {K : PySem.W.Frag} {mg : Str → Option Value} {base : Heap} {fII fIB fHO : Addr} {fdII fdIB fdHO : FuncData} {fTW fNW fRW : Addr} {fdTW fdNW fdRW : FuncData} {fIT fIR fAs : Addr} {fdIT fdIR fdAs : FuncData} {C fI fAA : Addr} {fdI fdAA : FuncData}
theorem scTFInit : FnScope ["self", "line"] ["self", "line"] (defScope sTFInit) := ⟨rfl, rfl, rfl, by decide +kernel, rfl, by decide +kernel, by decide +kernel⟩
theorem ok_tfinit (TT : TxtTF K mg C fI fdI) : FnOk P w K mg base CX0 1 fI fdI ["self", "line"] (spTFInit C) := by
  refine TT.F.ok scTFInit (fun vs H Q E h => ?_) (fun cdv A outer s H vs Q E hr h => ?_)
  · obtain ⟨a, i, rfl, _⟩ := h
    rfl
  · obtain ⟨a, i, rfl, ha, k⟩ := h
    refine ⟨_, pss_one (ps_ost (pv 0) (pv 1)), ?_⟩
    exact ⟨_, rfl, _, rfl, a, C, rfl, TT.O, TT.nL, .inl ⟨ha, fun d hd nd => k d hd nd⟩⟩
theorem raise_tf {H : Hp} {E : XK} {i : Int} (k : TFRaised C E H i) :
    ([V.int i] : List V).length ≤ 1000 ∧ ∀ a, H a = none → spTFInit C (.ref a :: ([V.int i] ++ [])) (upd H a (exo a C none))
      (fun v H2 => v = .non ∧ ∃ (d : Addr) (fs : List (Str × V)), H2 a = some (exo a C (some d)) ∧ H2 d = some (exd d fs) ∧ H d = none ∧ E (.ref C) (some d) (upd (del H2 a) d (.xd fs))) (fun _ _ _ => False) := by
  refine ⟨by simp, fun a hn => ⟨a, V.int i, rfl, upd_same, fun d hd nd => ⟨rfl, d, [("line", V.int i)], upd_same, ?_, ?_, ?_⟩⟩⟩
  · rw [upd_ne nd]; exact upd_same
  · rw [upd_ne nd] at hd; exact hd
  · rw [upd_ne nd] at hd
    refine k _ d (fun b o e => ?_) hd upd_same
    have nb : b ≠ a := ne_of_none e hn
    have nd' : b ≠ d := ne_of_none e hd
    rw [upd_ne nd', del_ne nb, upd_ne nb, upd_ne nd', upd_ne nb]
    exact e
abbrev nSplit : List Str := ["text", "lines", "rows", "number", "word", "first", "rest"]
theorem scSplit : FnScope nSplit ["text"] (defScope sSplit) := ⟨rfl, rfl, rfl, by decide +kernel, rfl, by decide +kernel, by decide +kernel⟩
theorem ok_split {f : Addr} {fd : FuncData} (F : Fun K "split_text" "split_text" sSplit f fd) (T : TxtA mg) (TF : TxtF K mg fII fIB fHO fdII fdIB fdHO) (TM : TxtM K mg fTW fNW fRW fdTW fdNW fdRW) (TI : TxtI K mg fIT fIR fAs fdIT fdIR fdAs)
    (TT : TxtTF K mg C fI fdI) (TO : TxtO K mg fAA fdAA) : FnOk P w K mg base (L2.CX P w) 5 f fd ["text"] (spSplitText C) := by
  have GA : FnOk P w K mg base CX0 4 fAA fdAA ["word", "rest"] (spAreArgs K) := ok_areargs TO.FAA T TF TM
  have GI : FnOk P w K mg base CX0 1 fI fdI ["self", "line"] (spTFInit C) := ok_tfinit TT
  obtain ⟨aW, eW, hW⟩ := TO.words
  refine F.okX scSplit (fun vs H Q E h => ?_) (fun cdv A outer s H vs Q E hr h => ?_)
  · obtain ⟨x, rfl, _⟩ := h
    rfl
  · obtain ⟨x, rfl, hz, k1, k2⟩ := h
    have hr2 : Room 2 (A.deeper (envOfC (Str.ofString "split_text") (defScope sSplit) s.heap.objs.size f cdv)) := hr.mono (by decide)
    refine ⟨_, pss_cons (ps_if (pt_not (pt_val (pe_callB call_isi (by rfl) TF.isinstance (by decide +kernel) (pa_cons (pv 0) (pa_cons (pe_bltn (v := .ty "str") (by rfl) TF.str (by decide +kernel) rfl) pa_nil)))))
        (pss_one (ps_raise rfl (takes_of rfl rfl rfl rfl) (pmk_oex TT.O TT.iC TT.tI GI hr2 TT.b .nil pass0 rfl TT.gC (pa_cons pe_int pa_nil)))) pss_nil)
      (pss_cons (ps_set (i := 1) scSplit.nd rfl (.inl rfl) (pe_split (pv 0) pe_str))
      (pss_cons (ps_set (i := 2) scSplit.nd rfl (.inl rfl) (pe_lst pa_nil))
      (pss_cons (ps_for (passes_of rfl) rfl (pi_enumT (by rfl) TI.enumerate (pa_cons (pe_glob (v := .ref aW) rfl eW rfl) pa_nil)) (pg_tup rfl (pgs_cons (pg_name (i := 3) scSplit.nd rfl (.inl rfl)) (pgs_cons (pg_name (i := 4) scSplit.nd rfl (.inl rfl)) pgs_nil)))
        (pss_cons (ps_if (pt_cmpR op_eq (pv 3) (pe_callB call_len_seq (by rfl) T.len PySem.boot_len (pa_cons (pv 1) pa_nil)) (nomark _))
          (pss_one (ps_raise rfl (takes_of rfl rfl rfl rfl) (pmk_oex TT.O TT.iC TT.tI GI hr2 TT.b .nil pass0 rfl TT.gC (pa_cons (pv 3) pa_nil)))) pss_nil)
        (pss_cons (ps_asg (pe_split (pe_ix ix_list (pv 1) (pv 3) (fun _ _ => rfl)) pe_str) (pg_star rfl (pgs_cons (pg_name (i := 5) scSplit.nd rfl (.inl rfl)) (pgs_cons (pg_name (i := 6) scSplit.nd rfl (.inl rfl)) pgs_nil))))
        (pss_cons (ps_if (PW.pt (pw_or (pt_cmpR op_ne (pv 5) (pv 4) (nomark _)) (pw_or1 (pt_not (pt_val (pe_call GA hr rfl TO.gAA TO.FAA.kp TO.bAA .nil pass0 (pa_cons (pv 4) (pa_cons (pv 6) pa_nil))))))))
          (pss_one (ps_raise rfl (takes_of rfl rfl rfl rfl) (pmk_oex TT.O TT.iC TT.tI GI hr2 TT.b .nil pass0 rfl TT.gC (pa_cons (pv 3) pa_nil)))) pss_nil)
        (pss_one (ps_expr (pe_bm PySem.F.plainAttrs_list PySem.F.slot_list_append PySem.F.type_list_append mt_append (pv 2) (pa_cons (pv 6) pa_nil))))))))
      (pss_cons (ps_if (pt_cmpR op_gt (pe_callB call_len_seq (by rfl) T.len PySem.boot_len (pa_cons (pv 1) pa_nil)) (pe_callB call_len_seq (by rfl) T.len PySem.boot_len (pa_cons (pe_glob (v := .ref aW) rfl eW rfl) pa_nil)) (nomark _))
        (pss_one (ps_raise rfl (takes_of rfl rfl rfl rfl) (pmk_oex TT.O TT.iC TT.tI GI hr2 TT.b .nil pass0 rfl TT.gC (pa_cons (pe_callB call_len_seq (by rfl) T.len PySem.boot_len (pa_cons (pe_glob (v := .ref aW) rfl eW rfl) pa_nil)) pa_nil)))) pss_nil)
      (pss_one (ps_ret (pv 2))))))), ?_⟩
    refine ⟨_, rfl, _, _, _, _, _, rfl, .ty "str", tyx (.str x), kit_ty (kit_str (.str x)), _, rfl, iteF ?_⟩
    refine ⟨_, rfl, ⟨_, rfl⟩, x, nlS, rfl, rfl, sepNl.z, Nat.le_trans (by omega : x.length + 2 ≤ 10002) (by decide), fun l hl => ?_⟩
    refine ⟨Nat.zero_le _, fun r hrr => ?_⟩
    have sA : Same H (upd (upd H l (.lst ((Txt.split x nlS).map V.str))) r (.lst [])) := (same_upd hl).trans (same_upd hrr)
    have eL : (upd (upd H l (.lst ((Txt.split x nlS).map V.str))) r (.lst [])) l = some (.lst ((linesOf x).map V.str)) := same_upd hrr _ _ upd_same
    have eR : (upd (upd H l (.lst ((Txt.split x nlS).map V.str))) r (.lst [])) r = some (.lst (([] : List Addr).map V.ref)) := upd_same
    have nlr : l ≠ r := ne_of_none upd_same hrr
    have nHr : H r = none := (same_upd hl).free hrr
    have hbx := split_bound (x := x) sepNl
    have hbn : (linesOf x).length ≤ 10002 := Nat.le_trans (split_le x nlS) (by omega)
    have eF : fault x = faultL 0 (lineWords.drop 0) ((linesOf x).drop 0) := rfl
    generalize hHA : upd (upd H l (.lst ((Txt.split x nlS).map V.str))) r (.lst []) = HA at sA eL eR
    refine ⟨aW, _, rfl, sqtK hW, for_it walk_enumT
      (fun i σ H' => ∃ (v3 v4 v5 v6 : Option V) (as : List Addr), σ = [some (.str x), some (.ref l), some (.ref r), v3, v4, v5, v6] ∧ Same H H' ∧ H' l = some (.lst ((linesOf x).map V.str)) ∧ H' r = some (.lst (as.map V.ref)) ∧
        RowsAt H' as (((linesOf x).take i).map rowOf) ∧ r ∉ as ∧ i ≤ (linesOf x).length ∧ fault x = faultL i (lineWords.drop i) ((linesOf x).drop i))
      ⟨none, none, none, none, [], rfl, sA, eL, eR, .nil, by simp, Nat.zero_le _, eF⟩ (fun i σ H' _ _ => sqtK hW) ?_ ?_⟩
    · rintro i y σ H1 H2 hi ⟨v3, v4, v5, v6, as, rfl, s1, eL1, eR1, hR1, hra, hil, eF1⟩ ⟨Tp, y1, y2, rfl, hTp, rfl, e1, e2⟩
      cases e1
      obtain ⟨wd, ewd, rfl⟩ := map_at e2
      have sT := same_upd (o := .tup [.int (i : Nat), .str wd]) hTp
      refine ⟨Tp, _, rfl, SqT.of upd_same, rfl, _, _, rfl, _, _, rfl, rfl, ?_⟩
      have s2 := s1.trans sT
      have eL2 := sT _ _ eL1
      have eR2 := sT _ _ eR1
      have hR2 := hR1.mono sT
      generalize upd H1 Tp (.tup [.int (i : Nat), .str wd]) = H2 at s2 eL2 eR2 hR2
      refine ⟨_, rfl, _, rfl, l, _, rfl, .inl (SqL.of eL2), rfl, _, rfl, ?_⟩
      rw [List.length_map]
      by_cases c : i = (linesOf x).length
      · rw [decide_eq_true (congrArg V.int (by rw [c]) : V.int ((i : Nat) : Int) = V.int (((linesOf x).length : Nat) : Int))]
        refine iteT ⟨_, rfl, raise_tf (TFRaised.mono (k2 i ?_) s2)⟩
        rw [eF1, c, List.drop_length]
        have e4 : lineWords.drop i = wd :: lineWords.drop (i + 1) := by
          obtain ⟨h1, h2⟩ := List.getElem?_eq_some_iff.mp ewd
          rw [List.drop_eq_getElem_cons h1, h2]
        rw [← c, e4]; rfl
      · rw [decide_eq_false (fun q => c (by have := V.int.inj q; omega) : ¬ V.int ((i : Nat) : Int) = V.int (((linesOf x).length : Nat) : Int))]
        have hi2 : i < (linesOf x).length := by omega
        have elin : (linesOf x)[i]? = some (linesOf x)[i] := List.getElem?_eq_getElem hi2
        generalize (linesOf x)[i] = li at elin
        have hbi : li.length ≤ 10000 := Nat.le_trans (hbx li (List.mem_of_getElem? elin)) hz
        refine iteF ⟨_, rfl, _, rfl, l, _, _, .str li, rfl, rfl, SqL.of eL2, atI_nat (by rw [List.getElem?_map, elin]; rfl), ⟨_, rfl⟩, li, spS, rfl, rfl, sepSp.z, Nat.le_trans (by omega : li.length + 2 ≤ 10002) (by decide), fun q hq => ?_⟩
        obtain ⟨f0, r0, ef⟩ : ∃ f0 r0, Txt.split li spS = f0 :: r0 := by
          cases h : Txt.split li spS with
          | nil => exact absurd h (split_ne sepSp)
          | cons f0 r0 => exact ⟨f0, r0, rfl⟩
        have hbq := split_bound (x := li) sepSp
        have hbq2 := split_le li spS
        have sQ := same_upd (o := .lst ((Txt.split li spS).map V.str)) hq
        have eQ : (upd H2 q (.lst ((Txt.split li spS).map V.str))) q = some (.lst (V.str f0 :: r0.map V.str)) := by rw [upd_same, ef]; rfl
        have s3 := s2.trans sQ
        have eL3 := sQ _ _ eL2
        have eR3 := sQ _ _ eR2
        have hR3 := hR2.mono sQ
        rw [ef] at hbq hbq2
        have hr0 : r0.length ≤ 10002 := by rw [List.length_cons] at hbq2; omega
        generalize upd H2 q (.lst ((Txt.split li spS).map V.str)) = H3 at s3 eL3 eR3 hR3 eQ
        refine ⟨q, V.str f0, r0.map V.str, rfl, SqL.of eQ, by rw [List.length_map]; omega, fun D hD => ?_⟩
        have sD := same_upd (o := .lst (r0.map V.str)) hD
        have s4 := s3.trans sD
        have eL4 := sD _ _ eL3
        have eR4 := sD _ _ eR3
        have hR4 := hR3.mono sD
        have eD4 : (upd H3 D (.lst (r0.map V.str))) D = some (.lst (r0.map V.str)) := upd_same
        have nDr : D ≠ r := fun e => by rw [e, eR3] at hD; cases hD
        generalize upd H3 D (.lst (r0.map V.str)) = H4 at s4 eL4 eR4 hR4 eD4
        have st := fault_step (n := i) ewd elin ef
        refine ⟨_, _, rfl, _, _, rfl, rfl, ?_⟩
        refine ⟨_, rfl, _, rfl, rfl, _, rfl, ?_⟩
        by_cases cf : f0 = wd
        · have ecf : (!decide (V.str f0 = V.str wd)) = false := by rw [decide_eq_true (by rw [cf])]; rfl
          rw [ecf]
          refine iteF ⟨_, rfl, _, rfl, wd, D, r0, rfl, SqL.of eD4, by omega, fun y hy => Nat.le_trans (hbq y (List.mem_cons_of_mem _ hy)) (by omega), fun H5 s5 => ⟨_, rfl, ?_⟩⟩
          cases ca : areArgs wd r0 with
          | true =>
            rw [if_pos ⟨cf, ca⟩] at st
            have eR5 := s5 _ _ eR4
            refine iteF ⟨_, rfl, .inl ⟨rfl, _, SqL.of eR5⟩, _, rfl, r, _, _, rfl, rfl, eR5, ?_, ?_⟩
            · have : as.length = _ := hR4.len
              rw [List.length_map, List.length_take] at this
              rw [List.length_map]
              exact Nat.lt_of_le_of_lt (by omega : as.length ≤ 10002) (by decide)
            · have tK : ∀ b o, b ≠ r → H4 b = some o → (upd H5 r (.lst (as.map V.ref ++ [V.ref D]))) b = some o := fun b o nb h => by rw [upd_ne nb]; exact s5 _ _ h
              refine ⟨_, _, _, _, as ++ [D], rfl, fun b o eb => tK b o (fun e => by rw [e, nHr] at eb; cases eb) (s4 _ _ eb), tK _ _ nlr eL4, by rw [upd_same]; simp, ?_, ?_, by omega, ?_⟩
              · have e5 : ((linesOf x).take (i + 1)).map rowOf = ((linesOf x).take i).map rowOf ++ [r0] := by
                  rw [take_more elin, List.map_append]
                  show _ ++ [rowOf li] = _
                  unfold rowOf
                  rw [ef]; rfl
                rw [e5]
                refine RowsAt.app ?_ (tK _ _ nDr eD4)
                exact hR4.keep tK hra
              · intro hm
                rcases List.mem_append.mp hm with hm | hm
                · exact hra hm
                · exact nDr (List.mem_singleton.mp hm).symm
              · rw [eF1, st]
          | false =>
            rw [if_neg (fun q => by rw [ca] at q; cases q.2)] at st
            refine iteT ⟨_, rfl, raise_tf (TFRaised.mono (k2 i (by rw [eF1, st])) (s4.trans s5))⟩
        · have ecf : (!decide (V.str f0 = V.str wd)) = true := by rw [decide_eq_false fun q => cf (V.str.inj q)]; rfl
          rw [ecf]
          rw [if_neg (fun q => cf q.1)] at st
          exact iteT (iteT ⟨_, rfl, raise_tf (TFRaised.mono (k2 i (by rw [eF1, st])) s4)⟩)
    · rintro σ H1 ⟨v3, v4, v5, v6, as, rfl, s1, eL1, eR1, hR1, hra, hil, eF1⟩
      have h4 : (lineWords.map V.str).length = 4 := rfl
      rw [h4] at hR1 hil eF1
      have e4 : lineWords.drop 4 = [] := rfl
      rw [e4] at eF1
      have ell : ((linesOf x).map V.str).length = (linesOf x).length := List.length_map _
      refine ⟨_, rfl, l, _, rfl, .inl (SqL.of eL1), aW, _, rfl, .inr (sqtK hW), _, _, rfl, rfl, _, rfl, ?_⟩
      rw [ell, h4]
      by_cases c : 4 < (linesOf x).length
      · rw [decide_eq_true (by omega : ((4 : Nat) : Int) < (((linesOf x).length : Nat) : Int))]
        refine iteT ⟨aW, _, rfl, .inr (sqtK hW), ?_⟩
        rw [h4]
        refine raise_tf (TFRaised.mono (k2 4 ?_) s1)
        rw [eF1]
        cases hd : (linesOf x).drop 4 with
        | nil => exact absurd (List.drop_eq_nil_iff.mp hd) (by omega)
        | cons a b => rfl
      · rw [decide_eq_false (by omega : ¬ ((4 : Nat) : Int) < (((linesOf x).length : Nat) : Int))]
        have hl4 : (linesOf x).length = 4 := by omega
        refine iteF ⟨_, rfl, k1 ?_ H1 r as s1 nHr eR1 ?_⟩
        · rw [eF1, List.drop_eq_nil_of_le (by omega)]; rfl
        · rw [List.take_of_length_le (by omega)] at hR1; exact hR1
end
end Dk

set_option Elab.async false
set_option linter.all false
set_option maxRecDepth 100000
set_option maxHeartbeats 1000000
namespace Dk
open PySem PySem.Spec PyProof.Rows L2 TL
def numD : List Nat → Int
  | [a] => (a : Int) - 48
  | [a, b] => ((a : Int) - 48) * 10 + ((b : Int) - 48)
  | _ => 0
def numOf (x : Str) : Int := numD (tl x)
def nw2 : List (List Nat) := (List.range 10).map (fun a => [48 + a]) ++ ((List.range 9).flatMap fun a => (List.range 10).map fun b => [49 + a, 48 + b])
theorem nw_all : ∀ l ∈ nw2, PySem.intText? (⟨l.toArray⟩ : Str) = some (numD l) ∧ tl (Str.ofString (toString (numD l))) = l ∧ 0 ≤ numD l ∧ numD l ≤ 99 := by decide +kernel
theorem nw_mem {x : Str} (h : isNW x = true) : tl x ∈ nw2 := by
  unfold isNW at h
  have key : ∀ c, dig c = true → 48 ≤ c ∧ c ≤ 57 := fun c hc => by
    have := of_decide_eq_true hc
    rw [tl_dig] at this
    simp at this
    omega
  split at h
  · rename_i a ea
    have := key a h
    rw [ea]
    refine List.mem_append_left _ (List.mem_map.mpr ⟨a - 48, List.mem_range.mpr (by omega), by rw [show 48 + (a - 48) = a by omega]⟩)
  · rename_i a b ea
    simp only [Bool.and_eq_true, decide_eq_true_eq] at h
    have h1 := key a h.1.1
    have h2 := key b h.1.2
    have h3 := h.2
    rw [ea]
    refine List.mem_append_right _ (List.mem_flatMap.mpr ⟨a - 49, List.mem_range.mpr (by omega), List.mem_map.mpr ⟨b - 48, List.mem_range.mpr (by omega), ?_⟩⟩)
    rw [show 49 + (a - 49) = a by omega, show 48 + (b - 48) = b by omega]
  · cases h
theorem nw_num {x : Str} (h : isNW x = true) : PySem.intText? x = some (numOf x) ∧ Str.ofString (toString (numOf x)) = x ∧ 0 ≤ numOf x ∧ numOf x ≤ 99 := by
  have := nw_all _ (nw_mem h)
  rw [mk_tl] at this
  exact ⟨this.1, ext_tl this.2.1, this.2.2⟩
theorem nw_len {x : Str} (h : isNW x = true) : x.length ≤ 2 := by
  rw [len_tl x]
  unfold isNW at h
  split at h
  · rename_i a ea; rw [ea]; simp
  · rename_i a b ea; rw [ea]; simp
  · cases h
/-- a number from 0 to 99 is written as a number word -/
theorem num_nw_all : ∀ n ∈ List.range 100, isNW (Str.ofString (toString ((n : Nat) : Int))) = true ∧ numOf (Str.ofString (toString ((n : Nat) : Int))) = ((n : Nat) : Int) := by decide +kernel
theorem num_nw {i : Int} (h0 : 0 ≤ i) (h1 : i ≤ 99) : isNW (Str.ofString (toString i)) = true ∧ numOf (Str.ofString (toString i)) = i := by
  obtain ⟨n, rfl⟩ := Int.eq_ofNat_of_zero_le h0
  exact num_nw_all n (List.mem_range.mpr (by omega))
end Dk

set_option Elab.async false
set_option linter.all false
set_option maxRecDepth 100000
set_option maxHeartbeats 1000000
namespace Dk
open PySem PySem.Spec PyProof.Rows L2 TL
/-! ### the text of a house -/
def numS (i : Int) : Str := Str.ofString (toString i)
def remS (r : Pr) : Str := ((Str.empty ++ numS r.1) ++ colS) ++ numS r.2
def rowsT (ts : List Str) (k : Int) (cs : List Int) (rs : List Pr) : List (List Str) := [wTab :: ts, [wKey, numS k], wCar :: cs.map numS, wRem :: rs.map remS]
def textOf (ts : List Str) (k : Int) (cs : List Int) (rs : List Pr) : Str := Txt.join nlS ((rowsT ts k cs rs).map (Txt.join spS))
/-- numbers from 0 to 99, not too many of anything -/
structure Sizes (ts : List Str) (k : Int) (cs : List Int) (rs : List Pr) : Prop where
  tl : ts.length ≤ 6
  tb : ∀ t ∈ ts, t.length ≤ 1000
  k0 : 0 ≤ k
  k9 : k ≤ 99
  cl : cs.length ≤ 6
  cb : ∀ c ∈ cs, (0 : Int) ≤ c ∧ c ≤ 99
  rl : rs.length ≤ 10
  rb : ∀ r ∈ rs, (0 : Int) ≤ r.1 ∧ r.1 ≤ 99 ∧ (0 : Int) ≤ r.2 ∧ r.2 ≤ 99
structure HouseAt (K : PySem.W.Frag) (C : Addr) (H : Hp) (p : Addr) (ts : List Str) (k : Int) (cs : List Int) (rs : List Pr) : Prop where
  ex : ∃ dx aT aC aR xs, H p = some (.ins C dx (hFields (.ref aT) (.int k) (.ref aC) (.ref aR))) ∧ SqT K H aT (ts.map V.str) ∧ SqT K H aC (cs.map V.int) ∧ SqT K H aR xs ∧ Prs H xs rs
def spText (K : PySem.W.Frag) (C : Addr) : Sp := fun vs H Q _ => ∃ (p : Addr) (ts : List Str) (k : Int) (cs : List Int) (rs : List Pr), vs = [.ref p] ∧ HouseAt K C H p ts k cs rs ∧ Sizes ts k cs rs ∧ ∀ H', Same H H' → Q (.str (textOf ts k cs rs)) H'
theorem hf_tables (a b c d : V) : (hFields a b c d).lookup ("tables" : Str) = some a := by
  unfold hFields
  rw [lookup_putF, if_neg (by decide +kernel), lookup_putF, if_neg (by decide +kernel), lookup_putF, if_neg (by decide +kernel), lookup_putF, if_pos rfl]
theorem hf_keys (a b c d : V) : (hFields a b c d).lookup ("key_count" : Str) = some b := by
  unfold hFields
  rw [lookup_putF, if_neg (by decide +kernel), lookup_putF, if_neg (by decide +kernel), lookup_putF, if_pos rfl]
theorem hf_careful (a b c d : V) : (hFields a b c d).lookup ("careful" : Str) = some c := by
  unfold hFields
  rw [lookup_putF, if_neg (by decide +kernel), lookup_putF, if_pos rfl]
theorem hf_rem (a b c d : V) : (hFields a b c d).lookup ("reminders" : Str) = some d := by
  unfold hFields
  rw [lookup_putF, if_pos rfl]
theorem numS_len {i : Int} (h0 : 0 ≤ i) (h1 : i ≤ 99) : (numS i).length ≤ 2 := nw_len (num_nw h0 h1).1
theorem log_small {i : Int} (h0 : 0 ≤ i) (h1 : i ≤ 99) : i.natAbs.log2 < 1920 := by
  have := Nat.log2_le_self i.natAbs
  omega
theorem len_app (x y : Str) : (x ++ y).length = x.length + y.length := by
  rw [len_tl, len_tl x, len_tl y, tl_append, List.length_append]
theorem col_len : colS.length = 1 := by decide +kernel
theorem remS_len {r : Pr} (h : (0 : Int) ≤ r.1 ∧ r.1 ≤ 99 ∧ (0 : Int) ≤ r.2 ∧ r.2 ≤ 99) : (remS r).length ≤ 5 := by
  unfold remS
  rw [len_app, len_app, len_app, col_len]
  have h1 := numS_len h.1 h.2.1
  have h2 := numS_len h.2.2.1 h.2.2.2
  have h3 : Str.empty.length = 0 := rfl
  omega
theorem rowsAt_get {H : Hp} : ∀ {as : List Addr} {rows : List (List Str)} {i : Nat} {a : Addr}, RowsAt H as rows → as[i]? = some a → ∃ ws, rows[i]? = some ws ∧ H a = some (.lst (ws.map V.str))
  | [], [], _, _, .nil, e => by simp at e
  | _ :: _, _ :: _, 0, _, .cons h _, e => by simp at e; subst e; exact ⟨_, rfl, h⟩
  | _ :: _, _ :: _, i + 1, _, .cons _ t, e => by
    obtain ⟨ws, e1, e2⟩ := rowsAt_get (i := i) t (by simpa using e)
    exact ⟨ws, by simpa using e1, e2⟩
theorem joinL_len (S : List Nat) : ∀ ps : List (List Nat), (joinL S ps).length ≤ (ps.map List.length).sum + ps.length * S.length
  | [] => by simp [joinL]
  | [p] => by simp [joinL]
  | p :: q :: r => by
    have ih := joinL_len S (q :: r)
    show (p ++ (S ++ joinL S (q :: r))).length ≤ _
    rw [List.length_append, List.length_append, List.map_cons, List.sum_cons, List.length_cons (as := q :: r), Nat.succ_mul]
    omega
theorem join_len (y : Str) (ps : List Str) : (Txt.join y ps).length ≤ (ps.map (·.length)).sum + ps.length * y.length := by
  have h := joinL_len (tl y) (ps.map tl)
  rw [len_tl, join_eq, tl_join]
  rw [List.length_map, List.map_map, show List.length ∘ tl = fun p : Str => p.length from funext fun p => (len_tl p).symm, ← len_tl y] at h
  exact h
theorem row_size {ws : List Str} {n m : Nat} (h1 : ws.length ≤ n) (h2 : ∀ x ∈ ws, x.length ≤ m) (h3 : n * m + n ≤ 16000) : (ws.map (·.length)).sum + ws.length * spS.length ≤ 16000 := by
  have h4 := sum_len h2
  have h5 : spS.length = 1 := by decide +kernel
  rw [h5, Nat.mul_one]
  have h6 : ws.length * m ≤ n * m := Nat.mul_le_mul_right _ h1
  omega
theorem rows_small {ts : List Str} {k : Int} {cs : List Int} {rs : List Pr} (S : Sizes ts k cs rs) : ∀ ws ∈ rowsT ts k cs rs, ws.length ≤ 11 ∧ (ws.map (·.length)).sum + ws.length * spS.length ≤ 16000 := by
  have l1 : wTab.length = 6 := by decide +kernel
  have l2 : wKey.length = 4 := by decide +kernel
  have l3 : wCar.length = 7 := by decide +kernel
  have l4 : wRem.length = 6 := by decide +kernel
  intro ws h
  simp only [rowsT, List.mem_cons, List.not_mem_nil, or_false] at h
  rcases h with rfl | rfl | rfl | rfl
  · refine ⟨by rw [List.length_cons]; have := S.tl; omega, row_size (n := 7) (m := 1000) (by rw [List.length_cons]; have := S.tl; omega) (fun x hx => ?_) (by decide)⟩
    rcases List.mem_cons.mp hx with rfl | hx
    · omega
    · exact S.tb x hx
  · refine ⟨by simp, row_size (n := 7) (m := 1000) (by simp) (fun x hx => ?_) (by decide)⟩
    simp only [List.mem_cons, List.not_mem_nil, or_false] at hx
    rcases hx with rfl | rfl
    · omega
    · have := numS_len S.k0 S.k9; omega
  · refine ⟨by rw [List.length_cons, List.length_map]; have := S.cl; omega, row_size (n := 7) (m := 1000) (by rw [List.length_cons, List.length_map]; have := S.cl; omega) (fun x hx => ?_) (by decide)⟩
    rcases List.mem_cons.mp hx with rfl | hx
    · omega
    · obtain ⟨c, hc, rfl⟩ := List.mem_map.mp hx
      have := numS_len (S.cb c hc).1 (S.cb c hc).2; omega
  · refine ⟨by rw [List.length_cons, List.length_map]; have := S.rl; omega, row_size (n := 11) (m := 1000) (by rw [List.length_cons, List.length_map]; have := S.rl; omega) (fun x hx => ?_) (by decide)⟩
    rcases List.mem_cons.mp hx with rfl | hx
    · omega
    · obtain ⟨r, hr, rfl⟩ := List.mem_map.mp hx
      have := remS_len (S.rb r hr); omega
theorem text_size {ts : List Str} {k : Int} {cs : List Int} {rs : List Pr} (S : Sizes ts k cs rs) : (((rowsT ts k cs rs).map (Txt.join spS)).map (·.length)).sum + ((rowsT ts k cs rs).map (Txt.join spS)).length * nlS.length ≤ 16777216 := by
  have h1 : ∀ x ∈ (rowsT ts k cs rs).map (Txt.join spS), x.length ≤ 16000 := fun x hx => by
    obtain ⟨ws, hw, rfl⟩ := List.mem_map.mp hx
    exact Nat.le_trans (join_len _ _) (rows_small S ws hw).2
  have h2 := sum_len h1
  have h3 : nlS.length = 1 := by decide +kernel
  have h4 : ((rowsT ts k cs rs).map (Txt.join spS)).length = 4 := rfl
  rw [h4] at h2 ⊢
  omega
/-- the reading of [sep.join(row) for row in rows] -/
theorem comp_join {K : PySem.W.Frag} {l : Addr} {as : List Addr} {rows : List (List Str)} {H1 : Hp} {D : Addr} {σ : L2.St} {i : Nat} {vs : List Nat} {te : TE} {Qd : Hp → Prop} (hD : H1 D = none) (hl : SqL K H1 l (as.map V.ref)) (hR : RowsAt H1 as rows) (hz : rows.length ≤ 1000)
    (hte : ∀ (a : Addr) (ws : List Str) (H2 : Hp) (Q : VK), ws ∈ rows → H2 a = some (.lst (ws.map V.str)) → Q (.str (Txt.join spS ws)) H2 → te ((wipe σ vs).set i (some (.ref a))) H2 Q) (hw : ∀ x : V, wipe ((wipe σ vs).set i (some x)) vs = wipe σ vs)
    (hd : ∀ H2, Same H1 H2 → H2 D = some (.lst ((rows.map (Txt.join spS)).map V.str)) → Qd H2) :
    ∃ W : Nat → Nat → Hp → Prop, (∃ m, W 0 m (upd H1 D (.lst []))) ∧ ∀ i' m H, W i' m H →
      ((Itl K l).stop i' H ∧ Qd H) ∨ ((Itl K l).go i' H ∧ ∃ Nx : Hp → Prop, (∀ H', Nx H' → ∃ m', m' < m ∧ W (i' + 1) m' H') ∧ ∀ x H', (Itl K l).yld i' H x H' → gName i x (wipe σ vs) H' fun σ2 H2 => wipe σ2 vs = wipe σ vs ∧ tYes σ2 H2 fun b H3 =>
        if b = true then te σ2 H3 fun y H4 => ∃ acc, H4 D = some (.lst acc) ∧ acc.length < sizeLine ∧ Nx (upd H4 D (.lst (acc ++ [y]))) else Nx H3) := by
  have hlen := hR.len
  refine lc_list (K := K) (a := l) (xs := as.map V.ref) (g := gName i) (tt := tYes) (te := te) (vs := vs) (σ := σ) (Qd := Qd)
    (fun i H3 => Same H1 H3 ∧ H3 D = some (.lst (((rows.take i).map (Txt.join spS)).map V.str)))
    ⟨same_upd hD, upd_same⟩ (fun i H3 _ ⟨e, _⟩ => e.seq hl) ?_ ?_
  · rintro j y H3 hi ⟨s3, eD⟩
    obtain ⟨a, ha, rfl⟩ := map_at hi
    obtain ⟨ws, hws, ea⟩ := rowsAt_get hR ha
    have hj : j < rows.length := (List.getElem?_eq_some_iff.mp hws).1
    refine ⟨hw _, hte a ws H3 _ (List.mem_of_getElem? hws) (s3 _ _ ea) ⟨_, eD, ?_, fun b o eb => ?_, ?_⟩⟩
    · rw [List.length_map, List.length_map, List.length_take]
      exact Nat.lt_of_le_of_lt (Nat.le_trans (Nat.min_le_left _ _) (by omega : j ≤ 1000)) (by decide)
    · rw [upd_ne (ne_of_none eb hD)]; exact s3 _ _ eb
    · rw [upd_same, take_more hws, List.map_append, List.map_append]; rfl
  · rintro H3 ⟨s3, eD⟩
    rw [List.length_map, hlen, List.take_length] at eD
    exact hd H3 s3 eD
end Dk

set_option Elab.async false
set_option linter.all false
set_option maxRecDepth 100000
set_option maxHeartbeats 1000000
namespace Dk
open PySem PySem.Spec PyProof.Rows L2 TL
def rJoin (K : PySem.W.Frag) : V → List V → Hp → VK → Prop := fun x xs H Q => ∃ a p, ∃ ys : List Str, x = .str a ∧ xs = [.ref p] ∧ (SqL K H p (ys.map V.str) ∨ SqT K H p (ys.map V.str)) ∧ (ys.map (·.length)).sum + ys.length * a.length ≤ 16777216 ∧ Q (.str (Txt.join a ys)) H
def tRem : TE := fun σ H Q => tJs [tFmt (tVar 1), tC (.str colS), tFmt (tVar 2)] Str.empty σ H fun out H1 => Q (.str out) H1
def spKeysL : Sp := fun vs H Q _ => ∃ k : Int, vs = [.int k] ∧ 0 ≤ k ∧ k ≤ 99 ∧ Q (.str (Txt.join spS [wKey, numS k])) H
def spCarL (K : PySem.W.Frag) : Sp := fun vs H Q _ => ∃ (a : Addr) (cs : List Int), vs = [.ref a] ∧ SqT K H a (cs.map V.int) ∧ cs.length ≤ 6 ∧ (∀ c ∈ cs, (0 : Int) ≤ c ∧ c ≤ 99) ∧ ∀ H', Same H H' → Q (.str (Txt.join spS (wCar :: cs.map numS))) H'
def spRemL (K : PySem.W.Frag) : Sp := fun vs H Q _ => ∃ (a : Addr) (xs : List V) (rs : List Pr), vs = [.ref a] ∧ SqT K H a xs ∧ Prs H xs rs ∧ rs.length ≤ 10 ∧ (∀ r ∈ rs, (0 : Int) ≤ r.1 ∧ r.1 ≤ 99 ∧ (0 : Int) ≤ r.2 ∧ r.2 ≤ 99) ∧ ∀ H', Same H H' → Q (.str (Txt.join spS (wRem :: rs.map remS))) H'
structure TxtLn (K : PySem.W.Frag) (mg : Str → Option Value) : Prop where
  kl : ∃ f fd, mg "keys_line" = some (.ref f) ∧ Fun K "keys_line" "keys_line" sKeysL f fd ∧ Binds K fd ["keys"] []
  cl : ∃ f fd, mg "careful_line" = some (.ref f) ∧ Fun K "careful_line" "careful_line" sCarL f fd ∧ Binds K fd ["careful"] []
  rl : ∃ f fd, mg "remind_line" = some (.ref f) ∧ Fun K "remind_line" "remind_line" sRemL f fd ∧ Binds K fd ["reminders"] []
  str : mg "str" = none
def keyS : Str := "keys "
theorem key_line (k : Int) : (Str.empty ++ keyS) ++ numS k = Txt.join spS [wKey, numS k] := by
  apply ext_tl
  rw [join_eq, tl_join]
  simp only [tl_append, List.map_cons, List.map_nil, joinL]
  rw [show tl keyS = tl wKey ++ tl spS by decide +kernel, show tl Str.empty = [] by decide +kernel]
  simp
section
variable {P : Program} {w : World} {K : PySem.W.Frag} {mg : Str → Option Value} {base : Heap} {CH fP fT fK fC fR : Addr} {fdP fdT fdK fdC fdR : FuncData}
theorem scKeysL : FnScope ["keys"] ["keys"] (defScope sKeysL) := ⟨rfl, rfl, rfl, by decide +kernel, rfl, by decide +kernel, by decide +kernel⟩
theorem ok_keysl {f : Addr} {fd : FuncData} (F : Fun K "keys_line" "keys_line" sKeysL f fd) : FnOk P w K mg base CX0 1 f fd ["keys"] spKeysL := by
  refine F.ok scKeysL (fun vs H Q E h => ?_) (fun cdv A outer s H vs Q E hr h => ?_)
  · obtain ⟨k, rfl, _⟩ := h
    rfl
  · obtain ⟨kk, rfl, h0, h9, k⟩ := h
    have n1 := numS_len h0 h9
    have n0 : Str.empty.length = 0 := rfl
    have n5 : keyS.length = 5 := by decide +kernel
    refine ⟨_, pss_one (ps_ret (pe_joined (.cons pe_str (.cons (pe_fmt (pv 0)) .nil)))), ?_⟩
    refine ⟨keyS, rfl, ?_, _, rfl, .inr ⟨kk, rfl, log_small h0 h9, numS kk, rfl, ?_, ?_⟩⟩
    · rw [len_app]; exact Nat.le_trans (by omega : _ ≤ 1000) (by decide)
    · rw [len_app, len_app]; exact Nat.le_trans (by omega : _ ≤ 1000) (by decide)
    · show Q (.str ((Str.empty ++ keyS) ++ numS kk)) H
      rw [key_line]; exact k
theorem scCarL : FnScope ["careful", "person"] ["careful"] (defScope sCarL) := ⟨rfl, rfl, rfl, by decide +kernel, rfl, by decide +kernel, by decide +kernel⟩
theorem ok_carl {f : Addr} {fd : FuncData} (F : Fun K "careful_line" "careful_line" sCarL f fd) (gs : mg "str" = none) : FnOk P w K mg base CX0 1 f fd ["careful"] (spCarL K) := by
  refine F.ok scCarL (fun vs H Q E h => ?_) (fun cdv A outer s H vs Q E hr h => ?_)
  · obtain ⟨a, cs, rfl, _⟩ := h
    rfl
  · obtain ⟨aC, cs, rfl, hC, hl, hb, k⟩ := h
    refine ⟨_, pss_one (ps_ret (pe_join pe_str (pe_lst (pa_cons pe_str (StX.pa_star (pe_lc (own := [("person", 1)]) (g := gName 1) (by rfl) scCarL.nd (pi_tup (pv 0)) (blkOk_by (N := ["careful", "person"]) (sc := defScope sCarL) (by decide +kernel))
            (fun _ _ _ _ _ => pg_name (i := 1) scCarL.nd rfl (Or.inl rfl)) (fun _ _ _ _ _ => pts_nil) (fun _ _ _ _ _ => pe_callTy call_str_int (by rfl) gs (by decide +kernel) (pa_cons (pv 1) pa_nil))) pa_nil))))), ?_⟩
    refine ⟨⟨_, rfl⟩, _, rfl, aC, rfl, ⟨_, hC⟩, fun D hD => lc_tup (K := K) (a := aC) (xs := cs.map V.int)
      (fun i H3 => Same H H3 ∧ H3 D = some (.lst (((cs.take i).map numS).map V.str))) ⟨same_upd hD, upd_same⟩ (fun i H3 _ ⟨e, _⟩ => sSqT e hC) ?_ ?_⟩
    · rintro j y H3 hi ⟨s3, eD⟩
      obtain ⟨c, hc, rfl⟩ := map_at hi
      have hcm := hb c (List.mem_of_getElem? hc)
      refine ⟨rfl, _, rfl, c, rfl, log_small hcm.1 hcm.2, _, eD, ?_, fun b o eb => ?_, ?_⟩
      · rw [List.length_map, List.length_map, List.length_take]
        exact Nat.lt_of_le_of_lt (Nat.le_trans (Nat.min_le_right _ _) (by omega : _ ≤ 1000)) (by decide)
      · rw [upd_ne (ne_of_none eb hD)]; exact s3 _ _ eb
      · rw [upd_same, take_more hc, List.map_append, List.map_append]; rfl
    rintro H3 ⟨s3, eD⟩
    rw [List.length_map, List.take_length] at eD
    refine ⟨D, _, rfl, .inr (SqL.of eD), ?_, fun l3 hl3 => ?_⟩
    · show (V.str wCar :: ((cs.map numS).map V.str ++ [])).length ≤ sizeLine
      rw [List.append_nil, List.length_cons, List.length_map, List.length_map]
      exact Nat.le_trans (by omega : _ ≤ 1000) (by decide)
    have s4 := same_upd (o := .lst (V.str (Str.ofString "careful") :: ((cs.map numS).map V.str ++ []))) hl3
    have e3 : (upd H3 l3 (.lst (V.str (Str.ofString "careful") :: ((cs.map numS).map V.str ++ [])))) l3 = some (.lst ((wCar :: cs.map numS).map V.str)) := by rw [upd_same, List.append_nil]; rfl
    refine ⟨spS, l3, _, rfl, rfl, .inl (SqL.of e3), ?_, k _ (s3.trans s4)⟩
    refine Nat.le_trans (row_size (n := 7) (m := 1000) (by rw [List.length_cons, List.length_map]; omega) (fun x hx => ?_) (by decide)) (by decide)
    rcases List.mem_cons.mp hx with rfl | hx
    · have l3 : wCar.length = 7 := by decide +kernel
      omega
    · obtain ⟨c, hc, rfl⟩ := List.mem_map.mp hx
      have := numS_len (hb c hc).1 (hb c hc).2; omega
theorem scRemL : FnScope ["reminders", "tick", "person"] ["reminders"] (defScope sRemL) := ⟨rfl, rfl, rfl, by decide +kernel, rfl, by decide +kernel, by decide +kernel⟩
theorem ok_reml {f : Addr} {fd : FuncData} (F : Fun K "remind_line" "remind_line" sRemL f fd) : FnOk P w K mg base CX0 1 f fd ["reminders"] (spRemL K) := by
  refine F.ok scRemL (fun vs H Q E h => ?_) (fun cdv A outer s H vs Q E hr h => ?_)
  · obtain ⟨a, xs, rs, rfl, _⟩ := h
    rfl
  · obtain ⟨aR, xs, rs, rfl, hR, hP, hl, hb, k⟩ := h
    refine ⟨_, pss_one (ps_ret (pe_join pe_str (pe_lst (pa_cons pe_str (StX.pa_star (pe_lc (own := [("tick", 1), ("person", 2)]) (g := gTup K 2 (gCons (gName 1) (gCons (gName 2) gNil))) (te := tRem) (by rfl) scRemL.nd (pi_tup (pv 0)) (blkOk_by (N := ["reminders", "tick", "person"]) (sc := defScope sRemL) (by decide +kernel))
            (fun _ _ _ _ _ => by exact pg_tup rfl (pgs_cons (pg_name (i := 1) scRemL.nd rfl (Or.inl rfl)) (pgs_cons (pg_name (i := 2) scRemL.nd rfl (Or.inl rfl)) pgs_nil))) (fun _ _ _ _ _ => pts_nil)
            (fun _ _ _ _ _ => by exact pe_joined (.cons (pe_fmt (pv 1)) (.cons pe_str (.cons (pe_fmt (pv 2)) .nil))))) pa_nil))))), ?_⟩
    refine ⟨⟨_, rfl⟩, _, rfl, aR, rfl, ⟨_, hR⟩, fun D hD => lc_tup (K := K) (a := aR) (xs := xs)
      (fun i H5 => Same H H5 ∧ H5 D = some (.lst (((rs.take i).map remS).map V.str))) ⟨same_upd hD, upd_same⟩ (fun i H5 _ ⟨e, _⟩ => sSqT e hR) ?_ ?_⟩
    · rintro j y H5 hi ⟨s5, eD⟩
      have hj : j < xs.length := (List.getElem?_eq_some_iff.mp hi).1
      have hlen := hP.len
      have hrj : rs[j]? = some (rs[j]'(by omega)) := List.getElem?_eq_getElem _
      generalize rs[j]'(by omega) = r at hrj
      have hPr : PrAt H y r := by
        have hk : (xs.map (kf H))[j]? = some (kf H y) := by rw [List.getElem?_map, hi]; rfl
        rw [hP.kf, hrj] at hk
        have e := Option.some.inj hk
        rw [e]; exact hP.mem y (List.mem_of_getElem? hi)
      obtain ⟨t, rfl, ht⟩ := hPr
      have hb := hb r (List.mem_of_getElem? hrj)
      have n1 := numS_len hb.1 hb.2.1
      have n2 := numS_len hb.2.2.1 hb.2.2.2
      refine ⟨t, _, rfl, SqT.of (s5 _ _ ht), rfl, _, _, rfl, _, _, rfl, rfl, rfl, ?_⟩
      refine ⟨_, rfl, .inr ⟨r.1, rfl, log_small hb.1 hb.2.1, numS r.1, rfl, ?_, colS, rfl, ?_, _, rfl, .inr ⟨r.2, rfl, log_small hb.2.2.1 hb.2.2.2, numS r.2, rfl, ?_, ?_⟩⟩⟩
      · rw [len_app]; exact Nat.le_trans (by have : Str.empty.length = 0 := rfl; omega : _ ≤ 1000) (by decide)
      · rw [len_app, len_app, col_len]; exact Nat.le_trans (by have : Str.empty.length = 0 := rfl; omega : _ ≤ 1000) (by decide)
      · rw [len_app, len_app, len_app, col_len]; exact Nat.le_trans (by have : Str.empty.length = 0 := rfl; omega : _ ≤ 1000) (by decide)
      · refine ⟨_, eD, ?_, fun b o eb => ?_, ?_⟩
        · rw [List.length_map, List.length_map, List.length_take]
          exact Nat.lt_of_le_of_lt (Nat.le_trans (Nat.min_le_right _ _) (by omega : _ ≤ 1000)) (by decide)
        · rw [upd_ne (ne_of_none eb hD)]; exact s5 _ _ eb
        · rw [upd_same, take_more hrj, List.map_append, List.map_append]; rfl
    rintro H5 ⟨s5, eD⟩
    rw [hP.len, List.take_length] at eD
    refine ⟨D, _, rfl, .inr (SqL.of eD), ?_, fun l4 hl4 => ?_⟩
    · show (V.str wRem :: ((rs.map remS).map V.str ++ [])).length ≤ sizeLine
      rw [List.append_nil, List.length_cons, List.length_map, List.length_map]
      exact Nat.le_trans (by omega : _ ≤ 1000) (by decide)
    have s6 := same_upd (o := .lst (V.str (Str.ofString "remind") :: ((rs.map remS).map V.str ++ []))) hl4
    have e4 : (upd H5 l4 (.lst (V.str (Str.ofString "remind") :: ((rs.map remS).map V.str ++ [])))) l4 = some (.lst ((wRem :: rs.map remS).map V.str)) := by rw [upd_same, List.append_nil]; rfl
    refine ⟨spS, l4, _, rfl, rfl, .inl (SqL.of e4), ?_, k _ (s5.trans s6)⟩
    refine Nat.le_trans (row_size (n := 11) (m := 1000) (by rw [List.length_cons, List.length_map]; omega) (fun x hx => ?_) (by decide)) (by decide)
    rcases List.mem_cons.mp hx with rfl | hx
    · have l4 : wRem.length = 6 := by decide +kernel
      omega
    · obtain ⟨r, hr, rfl⟩ := List.mem_map.mp hx
      have := remS_len (hb r hr); omega
abbrev nText : List Str := ["self"]
theorem scText : FnScope nText ["self"] (defScope sText) := ⟨rfl, rfl, rfl, by decide +kernel, rfl, by decide +kernel, by decide +kernel⟩
theorem ok_text {f : Addr} {fd : FuncData} (F : Fun K "text" "House.text" sText f fd) (TL' : TxtL K mg CH fP fT fK fC fR fdP fdT fdK fdC fdR) (LN : TxtLn K mg) : FnOk P w K mg base CX0 2 f fd ["self"] (spText K CH) := by
  obtain ⟨fKl, fdKl, gKl, FKl, bKl⟩ := LN.kl
  obtain ⟨fCl, fdCl, gCl, FCl, bCl⟩ := LN.cl
  obtain ⟨fRl, fdRl, gRl, FRl, bRl⟩ := LN.rl
  have GK : FnOk P w K mg base CX0 1 fKl fdKl ["keys"] spKeysL := ok_keysl FKl
  have GC : FnOk P w K mg base CX0 1 fCl fdCl ["careful"] (spCarL K) := ok_carl FCl LN.str
  have GR : FnOk P w K mg base CX0 1 fRl fdRl ["reminders"] (spRemL K) := ok_reml FRl
  refine F.ok scText (fun vs H Q E h => ?_) (fun cdv A outer s H vs Q E hr h => ?_)
  · obtain ⟨p, ts, kk, cs, rs, rfl, _⟩ := h
    rfl
  · obtain ⟨p, ts, kk, cs, rs, rfl, ⟨dx, aT, aC, aR, xs, hp, hT, hC, hR, hP⟩, S, k⟩ := h
    refine ⟨_, pss_one (ps_ret (pe_join pe_str (pe_lst
        (pa_cons (pe_join pe_str (pe_lst (pa_cons pe_str (StX.pa_star (pe_fld (pv 0) rfl) pa_nil))))
        (pa_cons (pe_call GK hr rfl gKl FKl.kp bKl .nil pass0 (pa_cons (pe_fld (pv 0) rfl) pa_nil))
        (pa_cons (pe_call GC hr rfl gCl FCl.kp bCl .nil pass0 (pa_cons (pe_fld (pv 0) rfl) pa_nil))
        (pa_cons (pe_call GR hr rfl gRl FRl.kp bRl .nil pass0 (pa_cons (pe_fld (pv 0) rfl) pa_nil)) pa_nil))))))), ?_⟩
    refine ⟨⟨_, rfl⟩, ⟨_, rfl⟩, _, rfl, p, CH, dx, _, _, rfl, hp, TL'.cl, TL'.nT, hf_tables _ _ _ _, aT, _, rfl, .inl hT, ?_⟩
    refine ⟨?_, fun l1 hl1 => ?_⟩
    · show (V.str wTab :: (ts.map V.str ++ [])).length ≤ sizeLine
      rw [List.append_nil, List.length_cons, List.length_map]
      exact Nat.le_trans (by have := S.tl; omega : _ ≤ 1000) (by decide)
    have s1 := same_upd (o := .lst (V.str (Str.ofString "tables") :: (ts.map V.str ++ []))) hl1
    have e1 : (upd H l1 (.lst (V.str (Str.ofString "tables") :: (ts.map V.str ++ [])))) l1 = some (.lst ((wTab :: ts).map V.str)) := by rw [upd_same, List.append_nil]; rfl
    generalize upd H l1 (.lst (V.str (Str.ofString "tables") :: (ts.map V.str ++ []))) = H1 at s1 e1
    have rs1 := rows_small S
    refine ⟨spS, l1, _, rfl, rfl, .inl (SqL.of e1), Nat.le_trans (rs1 _ (by simp [rowsT])).2 (by decide), ?_⟩
    refine ⟨_, rfl, p, CH, dx, _, _, rfl, s1 _ _ hp, TL'.cl, TL'.nK, hf_keys _ _ _ _, kk, rfl, S.k0, S.k9, ?_⟩
    refine ⟨_, rfl, p, CH, dx, _, _, rfl, s1 _ _ hp, TL'.cl, TL'.nC, hf_careful _ _ _ _, aC, cs, rfl, sSqT s1 hC, S.cl, S.cb, fun H2 s2 => ?_⟩
    have s12 := s1.trans s2
    refine ⟨_, rfl, p, CH, dx, _, _, rfl, s12 _ _ hp, TL'.cl, TL'.nR, hf_rem _ _ _ _, aR, xs, rs, rfl, sSqT s12 hR, hP.mono fun t ys h => s12 _ _ h, S.rl, S.rb, fun H3 s3 => ?_⟩
    have s13 := s12.trans s3
    refine ⟨by show 4 ≤ sizeLine; decide, fun l hl => ?_⟩
    refine ⟨nlS, l, (rowsT ts kk cs rs).map (Txt.join spS), rfl, rfl, .inl (SqL.of upd_same), text_size S, k _ (s13.trans (same_upd hl))⟩
end
end Dk

set_option Elab.async false
set_option linter.all false
set_option maxRecDepth 100000
set_option maxHeartbeats 1000000
namespace Dk
open PySem PySem.Spec PyProof.Rows L2 TL
/-! ### cls(e, ..), cls a local name that holds an own class -/
def tMakeL (i : Nat) (C : Addr) (sp : Sp) (dvs : List V) (E : XK) (t : TA) : TE := fun σ H Q => σ[i]? = some (some (.ref C)) ∧ tMake C sp dvs E t σ H Q
section
variable {X : Cx} {CX : CXT} {k i : Nat} {f C : Addr} {fd : FuncData} {ps : List Str} {sp : Sp} {dvs : List V} {ds : List Value} {E : XK} {x : Str} {p pos : Pos} {e : Expr} {es : List Expr} {t : TA}
theorem pe_makeL (M : Mk X.K C f) (F : FnOk X.prog X.w X.K X.mg X.base CX k f fd ps sp) (hr : Room (k + 1) X.A) (hN : X.N[i]? = some x) (hv : Vis X.env.scope x) (hb : Binds X.K fd ps ds) (hd : Vals dvs ds) (hx : Passes CX X E) (ha : PA X (e :: es) t)
    (hdb : (x == ("__debug__" : Str)) = false := by decide) (hcd : (x == ("__classdict__" : Str)) = false := by decide)
    (he : starEach (e :: es) X.env = (false, eval e X.env) :: starEach es X.env := by rfl) (hpl : (backTo pos (starEach es X.env)).any (·.1) = false := by rfl) : PE X (.Call (.Name x p) (e :: es) [] pos) (tMakeL i C sp dvs E t) := by
  refine ⟨fun pins s σ H Q I h => ?_⟩
  obtain ⟨hs, ht⟩ := h
  refine wpAny_Call_Name_kw (thn ((pe_var (pos := p) hN hv hdb hcd).run pins s σ H (fun v H1 => v = .ref C ∧ H1 = H) I ⟨.ref C, hs, rfl, rfl⟩) fun u s1 ⟨v, H1, I1, r1, q1⟩ => ?_)
  obtain ⟨rfl, rfl⟩ := q1
  cases r1
  refine PySem.W.callWith_K (h₀ := X.base) I.ok.mod.kin M.kp (thn (ha.run pos pins s1 σ _ _ I1 ht) fun us s2 ⟨vs, H2, I2, r, q⟩ => ⟨I2.kIn, ?_⟩) he hpl
  exact run_make M F hr hb hd hx I2 r q
end
/-! ### reading a text -/
def remOf (x : Str) : Pr := match Txt.split x colS with
  | [a, b] => (numOf a, numOf b)
  | _ => (0, 0)
theorem rw_parts {x : Str} (h : isRW x = true) : ∃ a b, Txt.split x colS = [a, b] ∧ isNW a = true ∧ isNW b = true ∧ remOf x = (numOf a, numOf b) := by
  unfold isRW at h
  rw [Bool.and_eq_true] at h
  have hl : (Txt.split x colS).length = 2 := by simpa using h.1
  match e : Txt.split x colS, hl with
  | [a, b], _ =>
    rw [e] at h
    simp only [List.all_cons, List.all_nil, Bool.and_true, Bool.and_eq_true] at h
    exact ⟨a, b, rfl, h.2.1, h.2.2, by unfold remOf; rw [e]⟩
def spReadRem : Sp := fun vs H Q _ => ∃ x : Str, vs = [.str x] ∧ x.length ≤ 100000 ∧ isRW x = true ∧ ∀ (H' : Hp) (t : Addr), Same H H' → H t = none → H' t = some (.tup [.int (remOf x).1, .int (remOf x).2]) → Q (.ref t) H'
structure Rows4 (x : Str) (r0 : List Str) (wk : Str) (r2 r3 : List Str) : Prop where
  rows : (linesOf x).map rowOf = [r0, [wk], r2, r3]
  h0 : ∀ y ∈ r0, isTW y = true
  hk : isNW wk = true
  h2 : ∀ y ∈ r2, isNW y = true
  h3 : ∀ y ∈ r3, isRW y = true
  lines : (linesOf x).map (fun l => Txt.split l spS) = [wTab :: r0, [wKey, wk], wCar :: r2, wRem :: r3]
theorem fault_none {x : Str} (h : fault x = none) : ∃ r0 wk r2 r3, Rows4 x r0 wk r2 r3 := by
  unfold fault at h
  have d1 : ¬ wKey = wTab := by decide +kernel
  have d2 : ¬ wKey = wRem := by decide +kernel
  have d3 : ¬ wCar = wTab := by decide +kernel
  have d4 : ¬ wCar = wRem := by decide +kernel
  have d5 : ¬ wCar = wKey := by decide +kernel
  have d6 : ¬ wRem = wTab := by decide +kernel
  have step : ∀ {n : Nat} {w : Str} {ws ls : List Str}, faultL n (w :: ws) ls = none → ∃ l ls' r, ls = l :: ls' ∧ Txt.split l spS = w :: r ∧ areArgs w r = true ∧ faultL (n + 1) ws ls' = none := by
    intro n w ws ls h
    cases ls with
    | nil => cases h
    | cons l ls =>
      unfold faultL at h
      cases e : Txt.split l spS with
      | nil => rw [e] at h; cases h
      | cons f r =>
        rw [e] at h
        dsimp only at h
        by_cases c : f = w ∧ areArgs w r = true
        · rw [if_pos c] at h
          exact ⟨l, ls, r, rfl, by rw [e, c.1], c.2, h⟩
        · rw [if_neg c] at h; cases h
  obtain ⟨l0, ls0, r0, e0, p0, a0, h⟩ := step h
  obtain ⟨l1, ls1, r1, e1, p1, a1, h⟩ := step h
  obtain ⟨l2, ls2, r2, e2, p2, a2, h⟩ := step h
  obtain ⟨l3, ls3, r3, e3, p3, a3, h⟩ := step h
  have e4 : ls3 = [] := by
    cases ls3 with
    | nil => rfl
    | cons a b => cases h
  subst e1 e2 e3 e4
  have q0 : r0.all isTW = true := by unfold areArgs at a0; rw [if_pos rfl] at a0; exact a0
  have q1 : r1.length = 1 ∧ r1.all isNW = true := by
    unfold areArgs at a1
    rw [if_neg d1, if_neg d2] at a1
    by_cases c : r1.length = 1
    · rw [if_neg (fun q => q.2 c)] at a1; exact ⟨c, a1⟩
    · rw [if_pos ⟨rfl, c⟩] at a1; cases a1
  have q2 : r2.all isNW = true := by
    unfold areArgs at a2
    rw [if_neg d3, if_neg d4, if_neg (fun q => d5 q.1)] at a2; exact a2
  have q3 : r3.all isRW = true := by
    unfold areArgs at a3
    rw [if_neg d6, if_pos rfl] at a3; exact a3
  obtain ⟨wk, rfl⟩ : ∃ wk, r1 = [wk] := by
    match r1, q1.1 with
    | [a], _ => exact ⟨a, rfl⟩
  refine ⟨r0, wk, r2, r3, ?_, List.all_eq_true.mp q0, ?_, List.all_eq_true.mp q2, List.all_eq_true.mp q3, ?_⟩
  · rw [e0]
    simp only [List.map_cons, List.map_nil, rowOf, p0, p1, p2, p3, List.tail_cons]
  · have := q1.2
    simpa using this
  · rw [e0]
    simp only [List.map_cons, List.map_nil, p0, p1, p2, p3]
def spReadNs (K : PySem.W.Frag) : Sp := fun vs H Q _ => ∃ (a : Addr) (ws : List Str), vs = [.ref a] ∧ SqL K H a (ws.map V.str) ∧ ws.length ≤ 100000 ∧ (∀ x ∈ ws, isNW x = true) ∧ ∀ (H' : Hp) (q : Addr), Same H H' → H q = none → H' q = some (.tup ((ws.map numOf).map V.int)) → Q (.ref q) H'
def spReadRs (K : PySem.W.Frag) : Sp := fun vs H Q _ => ∃ (a : Addr) (ws : List Str), vs = [.ref a] ∧ SqL K H a (ws.map V.str) ∧ ws.length ≤ 100000 ∧ (∀ x ∈ ws, x.length ≤ 100000 ∧ isRW x = true) ∧ ∀ (H' : Hp) (q : Addr) (xs : List V), Same H H' → H q = none → H' q = some (.tup xs) → Prs H' xs (ws.map remOf) → Q (.ref q) H'
section
variable {P : Program} {w : World} {K : PySem.W.Frag} {mg : Str → Option Value} {base : Heap}
theorem scReadNs : FnScope ["words", "word"] ["words"] (defScope sReadNs) := ⟨rfl, rfl, rfl, by decide +kernel, rfl, by decide +kernel, by decide +kernel⟩
theorem ok_readns {f : Addr} {fd : FuncData} (F : Fun K "read_numbers" "read_numbers" sReadNs f fd) (gi : mg "int" = none) (gt : mg "tuple" = none) : FnOk P w K mg base CX0 1 f fd ["words"] (spReadNs K) := by
  refine F.ok scReadNs (fun vs H Q E h => ?_) (fun cdv A outer s H vs Q E hr h => ?_)
  · obtain ⟨a, ws, rfl, _⟩ := h
    rfl
  · obtain ⟨a2, ws, rfl, h2, hl, hw, k⟩ := h
    refine ⟨_, pss_one (ps_ret (pe_callTy call_tuple_of (by rfl) gt (by decide +kernel) (pa_cons (pe_lc (own := [("word", 1)]) (g := gName 1) (by rfl) scReadNs.nd (pi_list (pv 0)) (blkOk_by (N := ["words", "word"]) (sc := defScope sReadNs) (by decide +kernel))
            (fun _ _ _ _ _ => pg_name (i := 1) scReadNs.nd rfl (Or.inl rfl)) (fun _ _ _ _ _ => pts_nil) (fun _ _ _ _ _ => pe_callTy call_int_str (by rfl) gi (by decide +kernel) (pa_cons (pv 1) pa_nil))) pa_nil))), ?_⟩
    refine ⟨_, rfl, a2, rfl, ⟨_, h2⟩, fun D hD => lc_list (K := K) (a := a2) (xs := ws.map V.str)
              (fun i H3 => Same H H3 ∧ H3 D = some (.lst (((ws.take i).map numOf).map V.int))) ⟨same_upd hD, upd_same⟩ (fun i H3 _ ⟨e, _⟩ => e.seq h2) ?_ ?_⟩
    · rintro j y H3 hi ⟨s3, eD⟩
      obtain ⟨t, ht, rfl⟩ := map_at hi
      have hj : j < ws.length := (List.getElem?_eq_some_iff.mp ht).1
      have hnw := hw t (List.mem_of_getElem? ht)
      refine ⟨rfl, _, rfl, t, numOf t, rfl, (nw_num hnw).1, by have := nw_len hnw; omega, _, eD, ?_, fun b o eb => ?_, ?_⟩
      · rw [List.length_map, List.length_map, List.length_take]
        exact Nat.lt_of_le_of_lt (Nat.le_trans (Nat.min_le_left _ _) (by omega : j ≤ 100000)) (by decide)
      · rw [upd_ne (ne_of_none eb hD)]; exact s3 _ _ eb
      · rw [upd_same, take_more ht, List.map_append, List.map_append]; rfl
    rintro H3 ⟨s3, eD⟩
    rw [List.length_map, List.take_length] at eD
    refine ⟨D, _, rfl, .inl ⟨SqL.of eD, fun aC haC => ?_⟩⟩
    exact k _ aC (s3.trans (same_upd haC)) (s3.free haC) upd_same
theorem scReadRs : FnScope ["words", "word"] ["words"] (defScope sReadRs) := ⟨rfl, rfl, rfl, by decide +kernel, rfl, by decide +kernel, by decide +kernel⟩
theorem ok_readrs {f : Addr} {fd : FuncData} (F : Fun K "read_reminders" "read_reminders" sReadRs f fd) (gi : mg "int" = none) (gt : mg "tuple" = none) {fN : Addr} {fdN : FuncData} (gN : mg "read_numbers" = some (.ref fN)) (FN : Fun K "read_numbers" "read_numbers" sReadNs fN fdN) (bN : Binds K fdN ["words"] []) : FnOk P w K mg base CX0 2 f fd ["words"] (spReadRs K) := by
  have GN : FnOk P w K mg base CX0 1 fN fdN ["words"] (spReadNs K) := ok_readns FN gi gt
  refine F.ok scReadRs (fun vs H Q E h => ?_) (fun cdv A outer s H vs Q E hr h => ?_)
  · obtain ⟨a, ws, rfl, _⟩ := h
    rfl
  · obtain ⟨a3, ws, rfl, h3, hl, hw, k⟩ := h
    refine ⟨_, pss_one (ps_ret (pe_callTy call_tuple_of (by rfl) gt (by decide +kernel) (pa_cons (pe_lc (own := [("word", 1)]) (g := gName 1) (by rfl) scReadRs.nd (pi_list (pv 0)) (blkOk_by (N := ["words", "word"]) (sc := defScope sReadRs) (by decide +kernel))
            (fun _ _ _ _ _ => pg_name (i := 1) scReadRs.nd rfl (Or.inl rfl)) (fun _ _ _ _ _ => pts_nil) (fun _ _ _ _ _ => pe_call GN hr rfl gN FN.kp bN .nil pass0 (pa_cons (pe_split (pv 1) pe_str) pa_nil))) pa_nil))), ?_⟩
    refine ⟨_, rfl, a3, rfl, ⟨_, h3⟩, fun D hD => lc_list (K := K) (a := a3) (xs := ws.map V.str)
              (fun i H5 => ∃ xs, Same H H5 ∧ H5 D = some (.lst xs) ∧ Prs H5 xs ((ws.take i).map remOf)) ⟨[], same_upd hD, upd_same, .nil⟩ (fun i H5 _ ⟨_, e, _⟩ => e.seq h3) ?_ ?_⟩
    · rintro j y H5 hi ⟨xs, s5, eD, hP⟩
      obtain ⟨t, ht, rfl⟩ := map_at hi
      have hj : j < ws.length := (List.getElem?_eq_some_iff.mp ht).1
      obtain ⟨hz, hrw⟩ := hw t (List.mem_of_getElem? ht)
      obtain ⟨a, b, es, ha, hb, er⟩ := rw_parts hrw
      refine ⟨rfl, _, rfl, ⟨_, rfl⟩, t, colS, rfl, rfl, sepCol.z, Nat.le_trans (by omega : t.length + 2 ≤ 100002) (by decide), fun l hl => ?_⟩
      have s1 := same_upd (o := .lst ((Txt.split t colS).map V.str)) hl
      have eL : (upd H5 l (.lst ((Txt.split t colS).map V.str))) l = some (.lst ([a, b].map V.str)) := by rw [upd_same, es]
      generalize upd H5 l (.lst ((Txt.split t colS).map V.str)) = H6 at s1 eL
      refine ⟨l, [a, b], rfl, SqL.of eL, by simp, fun x hx => ?_, fun H7 q s7 hq eq => ⟨_, s7 _ _ (s1 _ _ eD), ?_, xs ++ [.ref q], fun b o eb => ?_, upd_same, ?_⟩⟩
      · simp only [List.mem_cons, List.not_mem_nil, or_false] at hx
        rcases hx with rfl | rfl
        · exact ha
        · exact hb
      · rw [hP.len, List.length_map, List.length_take]
        exact Nat.lt_of_le_of_lt (Nat.le_trans (Nat.min_le_left _ _) (by omega : j ≤ 100000)) (by decide)
      · rw [upd_ne (ne_of_none eb hD)]; exact s7 _ _ (s1 _ _ (s5 _ _ eb))
      · have tK : ∀ t' ys, H7 t' = some (.tup ys) → (upd H7 D (.lst (xs ++ [V.ref q]))) t' = some (.tup ys) := fun t' ys h => by
          rw [upd_ne (fun e => by rw [e, s7 _ _ (s1 _ _ eD)] at h; cases h)]; exact h
        rw [take_more ht, List.map_append]
        refine (hP.mono fun t' ys h => tK _ _ (s7 _ _ (s1 _ _ h))).app ⟨q, rfl, ?_⟩
        have e2 := tK _ _ eq
        rw [er]
        exact e2
    rintro H5 ⟨xs, s5, eD, hP⟩
    rw [List.length_map, List.take_length] at hP
    refine ⟨D, xs, rfl, .inl ⟨SqL.of eD, fun aR haR => ?_⟩⟩
    have sR := same_upd (o := .tup xs) haR
    exact k _ aR xs (s5.trans sR) (s5.free haR) upd_same (hP.mono fun t ys h => sR _ _ h)
end
end Dk

set_option Elab.async false
set_option linter.all false
set_option maxRecDepth 100000
set_option maxHeartbeats 1000000
namespace Dk
open PySem PySem.Spec PyProof.Rows L2 TL
def dStrs (ts : List Str) : PyData := .tuple (ts.map PyData.str)
def dInts (ns : List Int) : PyData := .tuple (ns.map PyData.int)
def dPrs (rs : List Pr) : PyData := .tuple (rs.map prR)
def spParse (K : PySem.W.Frag) (CH CI CT : Addr) : Sp := fun vs H Q E => ∃ x : Str, vs = [.ref CH, .str x] ∧ x.length ≤ 10000 ∧
  (∀ i, fault x = some i → TFRaised CT E H (i : Int)) ∧
  (∀ r0 wk r2 r3, Rows4 x r0 wk r2 r3 →
    (chkHouse (dStrs r0) (.int (numOf wk)) (dInts (r2.map numOf)) (dPrs (r3.map remOf)) = none → ∀ (H' : Hp) (p : Addr), Same H H' → H p = none → HouseAt K CH H' p r0 (numOf wk) (r2.map numOf) (r3.map remOf) → Q (.ref p) H') ∧
    (∀ part i, chkHouse (dStrs r0) (.int (numOf wk)) (dInts (r2.map numOf)) (dPrs (r3.map remOf)) = some (part, i) → Raised CI E H part (i : Int)))
structure TxtT (K : PySem.W.Frag) (mg : Str → Option Value) (fS fRR : Addr) (fdS fdRR : FuncData) : Prop where
  gS : mg "split_text" = some (.ref fS)
  FS : Fun K "split_text" "split_text" sSplit fS fdS
  bS : Binds K fdS ["text"] []
  gRR : mg "read_reminders" = some (.ref fRR)
  FRR : Fun K "read_reminders" "read_reminders" sReadRs fRR fdRR
  bRR : Binds K fdRR ["words"] []
  rn : ∃ f fd, mg "read_numbers" = some (.ref f) ∧ Fun K "read_numbers" "read_numbers" sReadNs f fd ∧ Binds K fd ["words"] []
theorem dpAll_ints {K : PySem.W.Frag} {H : Hp} : ∀ ns : List Int, DpAll K H (ns.map V.int) (ns.map PyData.int)
  | [] => .nil
  | n :: ns => .cons (.int n) (dpAll_ints ns)
theorem join_le {y : Str} {ps : List Str} : ∀ p ∈ ps, p.length ≤ (Txt.join y ps).length := by
  intro p hp
  rw [len_tl p, len_tl, join_eq, tl_join]
  have key : ∀ (S : List Nat) (l : List (List Nat)) (q : List Nat), q ∈ l → q.length ≤ (joinL S l).length := by
    intro S l
    induction l with
    | nil => intro q h; cases h
    | cons a l ih =>
      intro q h
      cases l with
      | nil => rw [List.mem_singleton.mp h]; exact Nat.le_refl _
      | cons b l =>
        show q.length ≤ (a ++ (S ++ joinL S (b :: l))).length
        rw [List.length_append, List.length_append]
        rcases List.mem_cons.mp h with rfl | h
        · omega
        · have := ih q h; omega
  exact key _ _ _ (List.mem_map.mpr ⟨p, hp, rfl⟩)
/-- every word of a text's lines is not larger than the text -/
theorem rows_bound {x : Str} {r0 r2 r3 : List Str} {wk : Str} (h : Rows4 x r0 wk r2 r3) : (∀ y ∈ r0, y.length ≤ x.length) ∧ (∀ y ∈ r2, y.length ≤ x.length) ∧ (∀ y ∈ r3, y.length ≤ x.length) ∧ r0.length ≤ x.length + 2 ∧ r2.length ≤ x.length + 2 ∧ r3.length ≤ x.length + 2 := by
  have hb := split_bound (x := x) sepNl
  have key : ∀ r ∈ (linesOf x).map rowOf, (∀ y ∈ r, y.length ≤ x.length) ∧ r.length ≤ x.length + 2 := by
    intro r hr
    obtain ⟨l, hl, rfl⟩ := List.mem_map.mp hr
    have h1 := hb l hl
    have h2 := split_bound (x := l) sepSp
    have h3 := split_le l spS
    refine ⟨fun y hy => Nat.le_trans (h2 y (List.mem_of_mem_tail hy)) h1, ?_⟩
    unfold rowOf
    rw [List.length_tail]
    omega
  rw [h.rows] at key
  have k0 := key r0 (by simp)
  have k2 := key r2 (by simp)
  have k3 := key r3 (by simp)
  exact ⟨k0.1, k2.1, k3.1, k0.2, k2.2, k3.2⟩
section
variable {P : Program} {w : World} {K : PySem.W.Frag} {mg : Str → Option Value} {base : Heap} {C fI : Addr} {fdI : FuncData} {fII fIB fHO : Addr} {fdII fdIB fdHO : FuncData} {fIT fIR fAs : Addr} {fdIT fdIR fdAs : FuncData}
  {CH fP fT fK fC fR : Addr} {fdP fdT fdK fdC fdR : FuncData} {fTW fNW fRW : Addr} {fdTW fdNW fdRW : FuncData} {CT fTI fAA : Addr} {fdTI fdAA : FuncData} {fS fRR : Addr} {fdS fdRR : FuncData} {fH : Addr} {fdH : FuncData} {dvs : List V}
abbrev nParse : List Str := ["cls", "text", "tables", "keys", "careful", "reminders"]
theorem scParse : FnScope nParse ["cls", "text"] (defScope sParse) := ⟨rfl, rfl, rfl, by decide +kernel, rfl, by decide +kernel, by decide +kernel⟩
theorem ok_parse {f : Addr} {fd : FuncData} (F : Fun K "parse" "House.parse" sParse f fd) (T : TxtA mg) (TC : TxtC mg) (TF : TxtF K mg fII fIB fHO fdII fdIB fdHO) (TI : TxtI K mg fIT fIR fAs fdIT fdIR fdAs) (TH : TxtIH K mg C fI fdI)
    (TL' : TxtL K mg CH fP fT fK fC fR fdP fdT fdK fdC fdR) (TM : TxtM K mg fTW fNW fRW fdTW fdNW fdRW) (TTF : TxtTF K mg CT fTI fdTI) (TO : TxtO K mg fAA fdAA) (TT : TxtT K mg fS fRR fdS fdRR)
    (FH : FunD K "__init__" "House.__init__" (defArgs sInit) (defBody sInit) (defScope sInit) dvs [] fH fdH) (bH : Binds K fdH ["self", "tables", "keys", "careful", "reminders"] []) (M : Mk K CH fH) :
    FnOk P w K mg base (L2.CX P w) 7 f fd ["cls", "text"] (spParse K CH C CT) := by
  have GS : FnOk P w K mg base (L2.CX P w) 5 fS fdS ["text"] (spSplitText CT) := ok_split TT.FS T TF TM TI TTF TO
  obtain ⟨fRN, fdRN, gRN, FRN, bRN⟩ := TT.rn
  have GN : FnOk P w K mg base CX0 1 fRN fdRN ["words"] (spReadNs K) := ok_readns FRN TF.int TF.tuple
  have GR : FnOk P w K mg base CX0 2 fRR fdRR ["words"] (spReadRs K) := ok_readrs TT.FRR TF.int TF.tuple gRN FRN bRN
  have GH : FnOk P w K mg base (L2.CX P w) 5 fH fdH ["self", "tables", "keys", "careful", "reminders"] (spInit K CH C) := ok_init FH T TC TF TI TH TL'
  refine F.okX scParse (fun vs H Q E h => ?_) (fun cdv A outer s H vs Q E hr h => ?_)
  · obtain ⟨x, rfl, _⟩ := h
    rfl
  · obtain ⟨x, rfl, hz, k1, k2⟩ := h
    have hr5 : Room 5 (A.deeper (envOfC (Str.ofString "House.parse") (defScope sParse) s.heap.objs.size f cdv)) := hr.mono (by decide)
    have hr1 : Room 1 (A.deeper (envOfC (Str.ofString "House.parse") (defScope sParse) s.heap.objs.size f cdv)) := hr.mono (by decide)
    have hr2 : Room 2 (A.deeper (envOfC (Str.ofString "House.parse") (defScope sParse) s.heap.objs.size f cdv)) := hr.mono (by decide)
    refine ⟨_, pss_cons (ps_asg (pe_call GS hr5 rfl TT.gS TT.FS.kp TT.bS .nil (passes_call (takes_of rfl rfl rfl rfl) (fun _ _ _ _ h => h)) (pa_cons (pv 1) pa_nil)) (pg_unl (n := 4) rfl (pgs_cons (pg_name (i := 2) scParse.nd rfl (.inl rfl)) (pgs_cons (pg_name (i := 3) scParse.nd rfl (.inl rfl)) (pgs_cons (pg_name (i := 4) scParse.nd rfl (.inl rfl)) (pgs_cons (pg_name (i := 5) scParse.nd rfl (.inl rfl)) pgs_nil))))))
      (pss_one (ps_ret (pe_makeL (i := 0) M GH hr rfl (.inl rfl) bH .nil (passes_call (takes_of rfl rfl rfl rfl) (fun _ _ _ _ h => h))
        (pa_cons (pe_callTy call_tuple_of (by rfl) TF.tuple (by decide +kernel) (pa_cons (pv 2) pa_nil))
        (pa_cons (pe_callTy call_int_str (by rfl) TF.int (by decide +kernel) (pa_cons (pe_ix ix_list (pv 3) pe_int (fun _ _ => rfl)) pa_nil))
        (pa_cons (pe_call GN hr1 rfl gRN FRN.kp bRN .nil pass0 (pa_cons (pv 4) pa_nil))
        (pa_cons (pe_call GR hr2 rfl TT.gRR TT.FRR.kp TT.bRR .nil pass0 (pa_cons (pv 5) pa_nil)) pa_nil))))))), ?_⟩
    refine ⟨_, rfl, x, rfl, hz, fun hF H1 a as s1 hna eA hR => ?_, k1⟩
    obtain ⟨r0, wk, r2, r3, R4⟩ := fault_none hF
    obtain ⟨k3, k4⟩ := k2 r0 wk r2 r3 R4
    obtain ⟨b0, b2, b3, c0, c2, c3⟩ := rows_bound R4
    rw [R4.rows] at hR
    cases hR with
    | cons h0 hR =>
      cases hR with
      | cons h1 hR =>
        cases hR with
        | cons h2 hR =>
          cases hR with
          | cons h3 hR =>
            cases hR
            rename_i a0 a1 a2 a3
            refine ⟨a, _, rfl, SqL.of eA, rfl, _, _, rfl, _, _, rfl, _, _, rfl, _, _, rfl, rfl, ?_⟩
            refine ⟨rfl, ?_⟩
            -- the timetables
            refine ⟨_, rfl, a0, _, rfl, .inl ⟨SqL.of h0, fun aT haT => ?_⟩⟩
            have sT := same_upd (o := .tup (r0.map V.str)) haT
            have eT : (upd H1 aT (.tup (r0.map V.str))) aT = some (.tup (r0.map V.str)) := upd_same
            have s2 := s1.trans sT
            have h1' := sT _ _ h1
            have h2' := sT _ _ h2
            have h3' := sT _ _ h3
            generalize upd H1 aT (.tup (r0.map V.str)) = H2 at sT eT s2 h1' h2' h3'
            -- the keys
            refine ⟨_, rfl, a1, _, 0, .str wk, rfl, rfl, SqL.of h1', at0, wk, numOf wk, rfl, (nw_num R4.hk).1, by have := nw_len R4.hk; omega, ?_⟩
            -- the careful persons
            refine ⟨_, rfl, a2, r2, rfl, SqL.of h2', by omega, R4.h2, fun H4 aC sC haC eC => ?_⟩
            have eT2 := sC _ _ eT
            have s4 := s2.trans sC
            have h3'' := sC _ _ h3'
            -- the reminders
            refine ⟨_, rfl, a3, r3, rfl, SqL.of h3'', by omega, fun t ht => ⟨Nat.le_trans (b3 t ht) (by omega), R4.h3 t ht⟩, fun H6 aR xs sR haR eR hP6 => ?_⟩
            have eT3 := sR _ _ eT2
            have eC3 := sR _ _ eC
            have s6 := s4.trans sR
            -- the house
            intro p dx hp hdx npd
            have sN : Same H6 (upd (upd H6 dx (.own p)) p (.ins CH dx [])) := fun b o e => by
              rw [upd_ne (ne_of_none e hp), upd_ne (ne_of_none e hdx)]; exact e
            refine ⟨p, dx, .ref aT, .int (numOf wk), .ref aC, .ref aR, dStrs r0, .int (numOf wk), dInts (r2.map numOf), dPrs (r3.map remOf), rfl,
              dpSame sN _ _ (.tup (SqT.of eT3) (dpAll_strs r0)), .int _, dpSame sN _ _ (.tup (SqT.of eC3) (dpAll_ints _)), dpSame sN _ _ (.tup (SqT.of eR) (dpAll_prs hP6)), ?_, upd_same, fun hc H7 k7 e7 => ⟨rfl, ?_⟩, fun part i hc => Raised.mono (k4 part i hc) (s6.trans sN)⟩
            · intro ds hds y hy
              cases hds
              obtain ⟨t, ht, rfl⟩ := List.mem_map.mp hy
              exact Nat.le_trans (b0 t ht) (by omega)
            · have s7 : Same H6 H7 := fun b o e => k7 b o (ne_of_none e hp) (sN _ _ e)
              exact k3 hc H7 p (s6.trans s7) (s6.free hp) ⟨⟨dx, aT, aC, aR, xs, e7, SqT.of (s7 _ _ eT3), SqT.of (s7 _ _ eC3), SqT.of (s7 _ _ eR), hP6.mono fun t ys h => s7 _ _ h⟩⟩
end
end Dk

set_option Elab.async false
set_option linter.all false
set_option maxRecDepth 100000
set_option maxHeartbeats 1000000
namespace Dk
open PySem PySem.Spec PyProof.Rows L2 TL
/-! ### valid parts are accepted -/
theorem getD_map {α : Type} (f : α → PyData) {l : List α} {i : Nat} {x : α} (h : l[i]? = some x) : (l.map f).getD i .none = f x := getD_of (by rw [List.getElem?_map, h]; rfl)
theorem pair_lt {α : Type} {R : α → α → Prop} : ∀ {l : List α} {j : Nat} {x y : α}, l.Pairwise R → l[j]? = some x → l[j + 1]? = some y → R x y
  | [], _, _, _, _, h, _ => by simp at h
  | a :: l, 0, x, y, hp, h1, h2 => by
    simp at h1; subst h1
    have h2' : l[0]? = some y := by simpa using h2
    exact (List.pairwise_cons.mp hp).1 y (List.mem_of_getElem? h2')
  | a :: l, j + 1, x, y, hp, h1, h2 => pair_lt (j := j) (List.pairwise_cons.mp hp).2 (by simpa using h1) (by simpa using h2)
theorem below_is {i n : Int} (h0 : 0 ≤ i) (h1 : i < n) : below (.int i) n = true := by
  show (decide ((0 : Int) ≤ i) && decide (i < n)) = true
  rw [decide_eq_true h0, decide_eq_true h1]; rfl
theorem careful_is {cs : List Int} {n : Int} (hp : cs.Pairwise (· < ·)) (hm : ∀ c ∈ cs, (0 : Int) ≤ c ∧ c < n) : chkCareful (dInts cs) n = none := by
  show bad1 _ 0 _ = none
  refine bad1_none.mpr fun j d hd => ?_
  rw [List.getElem?_map] at hd
  cases e : cs[j]? with
  | none => rw [e] at hd; cases hd
  | some c =>
    rw [e] at hd
    have ed : PyData.int c = d := Option.some.inj hd
    subst ed
    have hc := hm c (List.mem_of_getElem? e)
    rw [below_is hc.1 hc.2, Nat.zero_add]
    have : ascI (cs.map PyData.int) j = true := by
      cases j with
      | zero => rfl
      | succ i =>
        have hi : i < cs.length := by have := (List.getElem?_eq_some_iff.mp e).1; omega
        have e0 : cs[i]? = some cs[i] := List.getElem?_eq_getElem hi
        show decide (intOf _ < intOf _) = true
        rw [getD_map _ e0, getD_map _ e]
        exact decide_eq_true (pair_lt hp e0 e)
    rw [this]; rfl
theorem rem_is {rs : List Pr} {per n : Int} (hp : rs.Pairwise plt) (hm : ∀ r ∈ rs, (0 : Int) ≤ r.1 ∧ r.1 < per ∧ (0 : Int) ≤ r.2 ∧ r.2 < n) (h10 : rs.length ≤ 10) : chkRem (dPrs rs) per n = none := by
  show bad1 _ 0 _ = none
  refine bad1_none.mpr fun j d hd => ?_
  rw [List.getElem?_map] at hd
  cases e : rs[j]? with
  | none => rw [e] at hd; cases hd
  | some r =>
    rw [e] at hd
    have ed : prR r = d := Option.some.inj hd
    subst ed
    have hr := hm r (List.mem_of_getElem? e)
    have hj : j < rs.length := (List.getElem?_eq_some_iff.mp e).1
    have h1 : isRemD (prR r) per n = true := by
      show (below (.int r.1) per && below (.int r.2) n) = true
      rw [below_is hr.1 hr.2.1, below_is hr.2.2.1 hr.2.2.2]; rfl
    have h2 : (j == 10) = false := by simp; omega
    rw [h1, Nat.zero_add, h2]
    have : ascP (rs.map prR) j = true := by
      cases j with
      | zero => rfl
      | succ i =>
        have hi : i < rs.length := by omega
        have e0 : rs[i]? = some rs[i] := List.getElem?_eq_getElem hi
        have hlt := pair_lt hp e0 e
        show HT.lexLt _ _ = true
        rw [getD_map _ e0, getD_map _ e]
        generalize rs[i] = q at hlt
        obtain ⟨q1, q2⟩ := q
        obtain ⟨r1, r2⟩ := r
        show (if q1 = r1 then (if q2 = r2 then false else decide (q2 < r2)) else decide (q1 < r1)) = true
        rcases hlt with h | ⟨h, h'⟩
        · have h : q1 < r1 := h
          rw [if_neg (by omega)]; exact decide_eq_true h
        · have h : q1 = r1 := h
          have h' : q2 < r2 := h'
          rw [if_pos h, if_neg (by omega)]; exact decide_eq_true h'
    rw [this]; rfl
theorem parts_is {ts : List Str} {k : Int} {cs : List Int} {rs : List Pr} (h : Parts ts k cs rs) : chkHouse (dStrs ts) (.int k) (dInts cs) (dPrs rs) = none := by
  have h1 : chkTabs (dStrs ts) = none := tabs_is h.tabs h.n1 h.n6
  have h2 : chkKeys (.int k) = none := by unfold chkKeys; rw [if_pos (below_is h.k0 (by have := h.k9; omega))]
  have hl : (lenD (dStrs ts) : Int) = (ts.length : Int) := by show (((ts.map PyData.str).length : Nat) : Int) = _; rw [List.length_map]
  have hp : (perD (dStrs ts) : Int) = (per ts : Int) := by show (per ((ts.map PyData.str).map strOf) : Int) = _; rw [strs_back]
  have h3 : chkCareful (dInts cs) (lenD (dStrs ts) : Int) = none := by rw [hl]; exact careful_is h.cp h.cm
  have h4 : chkRem (dPrs rs) (perD (dStrs ts) : Int) (lenD (dStrs ts) : Int) = none := by rw [hl, hp]; exact rem_is h.rp h.rm h.r10
  unfold chkHouse
  rw [h1]; dsimp only
  rw [h2]; dsimp only
  rw [h3]; dsimp only
  rw [h4]
def spHouseF (K : PySem.W.Frag) (CH : Addr) : Sp := fun vs H Q _ => ∃ (a : Addr) (ts : List Str) (keys : Int) (cs : List Int) (rs : List Pr), vs = [.ref a] ∧ PartsAt H a ts keys cs rs ∧ Parts ts keys cs rs ∧
  ∀ (H' : Hp) (p : Addr), Same H H' → H p = none → HouseAt K CH H' p ts keys cs rs → Q (.ref p) H'
section
variable {P : Program} {w : World} {K : PySem.W.Frag} {mg : Str → Option Value} {base : Heap} {C fI : Addr} {fdI : FuncData} {fII fIB fHO : Addr} {fdII fdIB fdHO : FuncData} {fIT fIR fAs : Addr} {fdIT fdIR fdAs : FuncData}
  {CH fP fT fK fC fR : Addr} {fdP fdT fdK fdC fdR : FuncData} {fH : Addr} {fdH : FuncData} {dvs : List V}
theorem scHouseF : FnScope ["_law_parts_here"] ["_law_parts_here"] (defScope sHouseF) := ⟨rfl, rfl, rfl, by decide +kernel, rfl, by decide +kernel, by decide +kernel⟩
theorem ok_housef {f : Addr} {fd : FuncData} (F : Fun K "_law_house" "_law_house" sHouseF f fd) (T : TxtA mg) (TC : TxtC mg) (TF : TxtF K mg fII fIB fHO fdII fdIB fdHO) (TI : TxtI K mg fIT fIR fAs fdIT fdIR fdAs) (TH : TxtIH K mg C fI fdI)
    (TL' : TxtL K mg CH fP fT fK fC fR fdP fdT fdK fdC fdR)
    (FH : FunD K "__init__" "House.__init__" (defArgs sInit) (defBody sInit) (defScope sInit) dvs [] fH fdH) (bH : Binds K fdH ["self", "tables", "keys", "careful", "reminders"] []) (M : Mk K CH fH) (gH : mg "House" = some (.ref CH)) :
    FnOk P w K mg base CX0 7 f fd ["_law_parts_here"] (spHouseF K CH) := by
  have GH : FnOk P w K mg base (L2.CX P w) 5 fH fdH ["self", "tables", "keys", "careful", "reminders"] (spInit K CH C) := ok_init FH T TC TF TI TH TL'
  refine F.ok scHouseF (fun vs H Q E h => ?_) (fun cdv A outer s H vs Q E hr h => ?_)
  · obtain ⟨a, ts, kk, cs, rs, rfl, _⟩ := h
    rfl
  · obtain ⟨a, ts, kk, cs, rs, rfl, ⟨aT, aC, aR, xs, e1, e2, e3, e4, e5⟩, hp, k⟩ := h
    refine ⟨_, pss_one (ps_ret (pe_make M GH hr rfl gH bH .nil passL (pa_cons (pe_ix ix_tup (pv 0) pe_int (fun _ _ => rfl)) (pa_cons (pe_ix ix_tup (pv 0) pe_int (fun _ _ => rfl)) (pa_cons (pe_ix ix_tup (pv 0) pe_int (fun _ _ => rfl)) (pa_cons (pe_ix ix_tup (pv 0) pe_int (fun _ _ => rfl)) pa_nil)))))), ?_⟩
    refine ⟨_, rfl, a, _, 0, _, rfl, rfl, SqT.of e1, at0, _, rfl, a, _, 1, _, rfl, rfl, SqT.of e1, at1, _, rfl, a, _, 2, _, rfl, rfl, SqT.of e1, at2, _, rfl, a, _, 3, _, rfl, rfl, SqT.of e1, at3, ?_⟩
    intro p dx hpn hdx npd
    have sN : Same H (upd (upd H dx (.own p)) p (.ins CH dx [])) := fun b o e => by
      rw [upd_ne (ne_of_none e hpn), upd_ne (ne_of_none e hdx)]; exact e
    refine ⟨p, dx, .ref aT, .int kk, .ref aC, .ref aR, dStrs ts, .int kk, dInts cs, dPrs rs, rfl,
      dpSame sN _ _ (.tup (SqT.of e2) (dpAll_strs ts)), .int _, dpSame sN _ _ (.tup (SqT.of e3) (dpAll_ints _)), dpSame sN _ _ (.tup (SqT.of e4) (dpAll_prs e5)), ?_, upd_same, fun hc H7 k7 e7 => ⟨rfl, ?_⟩, fun part i hc => ?_⟩
    · intro ds hds y hy
      cases hds
      obtain ⟨t, ht, rfl⟩ := List.mem_map.mp hy
      show t.length ≤ 100000
      have := (hp.tabs t ht).pos.2
      rw [len_tl t]; omega
    · have s7 : Same H H7 := fun b o e => k7 b o (ne_of_none e hpn) (sN _ _ e)
      exact k H7 p s7 hpn ⟨⟨dx, aT, aC, aR, xs, e7, SqT.of (s7 _ _ e2), SqT.of (s7 _ _ e3), SqT.of (s7 _ _ e4), e5.mono fun t ys h => s7 _ _ h⟩⟩
    · rw [parts_is hp] at hc; cases hc
end
end Dk

set_option Elab.async false
set_option linter.all false
set_option maxRecDepth 100000
set_option maxHeartbeats 1000000
namespace Dk
open PySem PySem.Spec PyProof.Rows L2 TL
/-! ### equal data are found equal -/
def Flat : Nat → PyData → Prop
  | _, .none => True
  | _, .bool _ => True
  | _, .int _ => True
  | _, .str _ => True
  | 0, .list _ => False
  | 0, .tuple _ => False
  | n + 1, .list ds => ds.length ≤ 1000 ∧ ∀ d ∈ ds, Flat n d
  | n + 1, .tuple ds => ds.length ≤ 1000 ∧ ∀ d ∈ ds, Flat n d
  | _, .dict _ => False
def spE (K : PySem.W.Frag) : Nat → Sp
  | 0 => fun _ _ _ _ => False
  | n + 1 => fun vs H Q _ => ∃ (a b : V) (d : PyData), vs = [a, b] ∧ Dp K H a d ∧ Dp K H b d ∧ Flat n d ∧ ∀ H', Same H H' → Q (.bl true) H'
abbrev nEq : List Str := ["_law_actual", "_law_expected", "_law_k"]
theorem all_true {n : Nat} : ((List.replicate n true).map V.bl) = List.replicate n (V.bl true) := List.map_replicate ..
section
variable {P : Program} {w : World} {K : PySem.W.Frag} {mg : Str → Option Value} {base : Heap} {fII fIB fHO : Addr} {fdII fdIB fdHO : FuncData}
theorem scEqual : FnScope nEq ["_law_actual", "_law_expected"] (defScope sEqual) := ⟨rfl, rfl, rfl, by decide +kernel, rfl, by decide +kernel, by decide +kernel⟩
theorem ok_equal {f : Addr} {fd : FuncData} (F : Fun K "_law_equal" "_law_equal" sEqual f fd) (b : Binds K fd ["_law_actual", "_law_expected"] []) (g : mg "_law_equal" = some (.ref f)) (T : TxtA mg) (TF : TxtF K mg fII fIB fHO fdII fdIB fdHO) (gl : mg "list" = none) :
    ∀ n, FnOk P w K mg base CX0 (n + 1) f fd ["_law_actual", "_law_expected"] (spE K n)
  | 0 => F.ok scEqual (fun vs H Q E h => h.elim) (fun cdv A outer s H vs Q E hr h => h.elim)
  | n + 1 => by
    have G : FnOk P w K mg base CX0 (n + 1) f fd ["_law_actual", "_law_expected"] (spE K n) := ok_equal F b g T TF gl n
    refine F.ok scEqual (fun vs H Q E h => ?_) (fun cdv A outer s H vs Q E hr h => ?_)
    · obtain ⟨x, y, d, rfl, _⟩ := h
      rfl
    · obtain ⟨x, y, d, rfl, hx, hy, hf, k⟩ := h
      refine ⟨_, pss_cons (ps_if (pt_cmp (pc_isN (pv 1))) (pss_one (ps_ret (pe_cmp (pc_isN (pv 0)) rfl))) pss_nil)
        (pss_cons (ps_if (pt_val (pe_callB call_isi (by rfl) TF.isinstance (by decide +kernel) (pa_cons (pv 1) (pa_cons (pe_bltn (v := .ty "bool") (by rfl) TF.bool (by decide +kernel) rfl) pa_nil))))
          (pss_one (ps_ret (pe_and (pe_callB call_isi (by rfl) TF.isinstance (by decide +kernel) (pa_cons (pv 0) (pa_cons (pe_bltn (v := .ty "bool") (by rfl) TF.bool (by decide +kernel) rfl) pa_nil))) (pe_one (pe_cmpR op_eq (pv 0) (pv 1) (nomark _)))))) pss_nil)
        (pss_cons (ps_if (pt_val (pe_callB call_isi (by rfl) TF.isinstance (by decide +kernel) (pa_cons (pv 1) (pa_cons (pe_bltn (v := .ty "int") (by rfl) TF.int (by decide +kernel) rfl) pa_nil))))
          (pss_one (ps_ret (pe_and (pe_callB call_isi (by rfl) TF.isinstance (by decide +kernel) (pa_cons (pv 0) (pa_cons (pe_bltn (v := .ty "int") (by rfl) TF.int (by decide +kernel) rfl) pa_nil)))
            (pe_and (pe_not (pe_callB call_isi (by rfl) TF.isinstance (by decide +kernel) (pa_cons (pv 0) (pa_cons (pe_bltn (v := .ty "bool") (by rfl) TF.bool (by decide +kernel) rfl) pa_nil)))) (pe_one (pe_cmpR op_eq (pv 0) (pv 1) (nomark _))))))) pss_nil)
        (pss_cons (ps_if (pt_val (pe_callB call_isi (by rfl) TF.isinstance (by decide +kernel) (pa_cons (pv 1) (pa_cons (pe_bltn (v := .ty "str") (by rfl) TF.str (by decide +kernel) rfl) pa_nil))))
          (pss_one (ps_ret (pe_and (pe_callB call_isi (by rfl) TF.isinstance (by decide +kernel) (pa_cons (pv 0) (pa_cons (pe_bltn (v := .ty "str") (by rfl) TF.str (by decide +kernel) rfl) pa_nil))) (pe_one (pe_cmpR op_eq (pv 0) (pv 1) (nomark _)))))) pss_nil)
        (pss_cons (ps_if (pt_cmpR op_ne (pe_callB call_isi (by rfl) TF.isinstance (by decide +kernel) (pa_cons (pv 1) (pa_cons (pe_bltn (v := .ty "tuple") (by rfl) TF.tuple (by decide +kernel) rfl) pa_nil))) (pe_callB call_isi (by rfl) TF.isinstance (by decide +kernel) (pa_cons (pv 0) (pa_cons (pe_bltn (v := .ty "tuple") (by rfl) TF.tuple (by decide +kernel) rfl) pa_nil))) (nomark _)) (pss_one (ps_ret pe_bl)) pss_nil)
        (pss_cons (ps_if (pt_cmpR op_ne (pe_callB call_isi (by rfl) TF.isinstance (by decide +kernel) (pa_cons (pv 1) (pa_cons (pe_bltn (v := .ty "list") (by rfl) gl (by decide +kernel) rfl) pa_nil))) (pe_callB call_isi (by rfl) TF.isinstance (by decide +kernel) (pa_cons (pv 0) (pa_cons (pe_bltn (v := .ty "list") (by rfl) gl (by decide +kernel) rfl) pa_nil))) (nomark _)) (pss_one (ps_ret pe_bl)) pss_nil)
        (pss_cons (ps_if (pt_cmpR op_ne (pe_callB call_len_seq (by rfl) T.len PySem.boot_len (pa_cons (pv 0) pa_nil)) (pe_callB call_len_seq (by rfl) T.len PySem.boot_len (pa_cons (pv 1) pa_nil)) (nomark _)) (pss_one (ps_ret pe_bl)) pss_nil)
        (pss_one (ps_ret (pe_callB (cr_all rfl) (by rfl) TF.all (by decide +kernel) (pa_cons (pe_lc (own := [("_law_k", 2)]) (g := gName 2) (te := tCall (spE K n) [] E0 (tCons (tOp (rIx K) (tVar 0) (tVar 2)) (tCons (tOp (rIx K) (tVar 1) (tVar 2)) tNil))) (by rfl) scEqual.nd
            (pi_range1 rfl T.range (pa_cons (pe_callB call_len_seq (by rfl) T.len PySem.boot_len (pa_cons (pv 1) pa_nil)) pa_nil)) (blkOk_by (N := nEq) (sc := defScope sEqual) (by decide +kernel))
            (fun _ _ _ _ _ => pg_name (i := 2) scEqual.nd rfl (Or.inl rfl)) (fun _ _ _ _ _ => pts_nil)
            (fun _ _ _ _ _ => by exact pe_call G hr rfl g F.kp b .nil pass0 (pa_cons (pe_ix ix_seq (pv 0) (pv 2) (fun _ _ => rfl)) (pa_cons (pe_ix ix_seq (pv 1) (pv 2) (fun _ _ => rfl)) pa_nil)))) pa_nil)))))))))), ?_⟩
      have sc : ∀ {A B : Prop}, A → (if true = true then A else B) := fun h => by rw [if_pos rfl]; exact h
      cases hy with
      | non =>
        cases hx
        refine ⟨_, rfl, _, rfl, iteT ⟨_, rfl, ?_⟩⟩
        exact k H (Same.refl H)
      | bl c =>
        cases hx
        refine ⟨_, rfl, _, rfl, iteF ?_⟩
        refine ⟨_, rfl, _, _, _, _, _, rfl, .ty "bool", .base (.bl c), kit_ty (kit_bool (.bool c)), _, rfl, iteT ?_⟩
        refine ⟨_, rfl, _, _, _, _, _, rfl, .ty "bool", .base (.bl c), kit_ty (kit_bool (.bool c)), _, rfl, iteT ⟨_, rfl, _, rfl, rfl, ?_⟩⟩
        have e : decide (V.bl c = V.bl c) = true := decide_eq_true rfl
        have := k H (Same.refl H)
        rw [← e] at this; exact this
      | int i =>
        cases hx
        refine ⟨_, rfl, _, rfl, iteF ?_⟩
        refine ⟨_, rfl, _, _, _, _, _, rfl, .ty "bool", .base (.int i), kit_ty (kit_bool (.int i)), _, rfl, iteF ?_⟩
        refine ⟨_, rfl, _, _, _, _, _, rfl, .ty "int", .base (.int i), kit_ty (kit_int (.int i)), _, rfl, iteT ?_⟩
        refine ⟨_, rfl, _, _, _, _, _, rfl, .ty "int", .base (.int i), kit_ty (kit_int (.int i)), _, rfl, iteT ?_⟩
        refine ⟨_, rfl, _, _, _, _, _, rfl, .ty "bool", .base (.int i), kit_ty (kit_bool (.int i)), _, rfl, _, rfl, iteT ⟨_, rfl, _, rfl, rfl, ?_⟩⟩
        have e : decide (V.int i = V.int i) = true := decide_eq_true rfl
        have := k H (Same.refl H)
        rw [← e] at this; exact this
      | str t =>
        cases hx
        refine ⟨_, rfl, _, rfl, iteF ?_⟩
        refine ⟨_, rfl, _, _, _, _, _, rfl, .ty "bool", .base (.str t), kit_ty (kit_bool (.str t)), _, rfl, iteF ?_⟩
        refine ⟨_, rfl, _, _, _, _, _, rfl, .ty "int", .base (.str t), kit_ty (kit_int (.str t)), _, rfl, iteF ?_⟩
        refine ⟨_, rfl, _, _, _, _, _, rfl, .ty "str", .base (.str t), kit_ty (kit_str (.str t)), _, rfl, iteT ?_⟩
        refine ⟨_, rfl, _, _, _, _, _, rfl, .ty "str", .base (.str t), kit_ty (kit_str (.str t)), _, rfl, iteT ⟨_, rfl, _, rfl, rfl, ?_⟩⟩
        have e : decide (V.str t = V.str t) = true := decide_eq_true rfl
        have := k H (Same.refl H)
        rw [← e] at this; exact this
      | @lst a ys ds hs ha =>
        cases hx with
        | @lst a2 xs _ hs2 ha2 =>
          cases n with
          | zero => exact hf.elim
          | succ n =>
            have l1 := dpAll_len ha
            have l2 := dpAll_len ha2
            have hz : ds.length ≤ 1000 := hf.1
            refine ⟨_, rfl, _, rfl, iteF ?_⟩
            refine ⟨_, rfl, _, _, _, _, _, rfl, .ty "bool", tyx (.lst hs ha), kit_ty (kit_bool (.list ds)), _, rfl, iteF ?_⟩
            refine ⟨_, rfl, _, _, _, _, _, rfl, .ty "int", tyx (.lst hs ha), kit_ty (kit_int (.list ds)), _, rfl, iteF ?_⟩
            refine ⟨_, rfl, _, _, _, _, _, rfl, .ty "str", tyx (.lst hs ha), kit_ty (kit_str (.list ds)), _, rfl, iteF ?_⟩
            refine ⟨_, rfl, _, _, _, _, _, rfl, .ty "tuple", tyx (.lst hs ha), kit_ty (kit_tup (.list ds)), _, rfl, _, _, _, _, _, rfl, .ty "tuple", tyx (.lst hs2 ha2), kit_ty (kit_tup (.list ds)), rfl, _, rfl, ?_⟩
            refine ⟨_, rfl, _, _, _, _, _, rfl, .ty "list", tyx (.lst hs ha), kit_ty (kit_lst (.list ds)), _, rfl, _, _, _, _, _, rfl, .ty "list", tyx (.lst hs2 ha2), kit_ty (kit_lst (.list ds)), rfl, _, rfl, ?_⟩
            refine ⟨_, rfl, a2, xs, rfl, .inl hs2, _, rfl, a, ys, rfl, .inl hs, rfl, _, rfl, ?_⟩
            rw [l1, l2]
            have e : (!decide (V.int ((ds.length : Nat) : Int) = V.int ((ds.length : Nat) : Int))) = false := by rw [decide_eq_true rfl]; rfl
            rw [e]
            refine iteF ⟨_, rfl, a, ys, rfl, .inl hs, _, rfl, by omega, by omega, fun D hD => lc_range (lo := 0) (n := ((ys.length : Nat) : Int).toNat)
              (fun i H3 => Same H H3 ∧ H3 D = some (.lst ((List.replicate i true).map V.bl))) ⟨same_upd hD, upd_same⟩ ?_ ?_⟩
            · rintro i H3 hi ⟨s3, eD⟩
              have hi' : i < ds.length := by omega
              obtain ⟨y, hy⟩ : ∃ y, ys[i]? = some y := ⟨_, List.getElem?_eq_getElem (by omega)⟩
              obtain ⟨x, hx⟩ : ∃ x, xs[i]? = some x := ⟨_, List.getElem?_eq_getElem (by omega)⟩
              obtain ⟨d1, ed1, hd1⟩ := dpAll_get ha hy
              obtain ⟨d2, ed2, hd2⟩ := dpAll_get ha2 hx
              rw [ed1] at ed2
              cases ed2
              refine ⟨rfl, _, rfl, _, rfl, .inl ⟨a2, xs, _, x, rfl, rfl, s3.seq hs2, (by rw [Int.zero_add]; exact atI_nat hx), ?_⟩⟩
              refine ⟨_, rfl, _, rfl, .inl ⟨a, ys, _, y, rfl, rfl, s3.seq hs, (by rw [Int.zero_add]; exact atI_nat hy), ?_⟩⟩
              refine ⟨x, y, d1, rfl, dpSame s3 _ _ hd2, dpSame s3 _ _ hd1, hf.2 d1 (List.mem_of_getElem? ed1), fun H4 s4 => ⟨_, s4 _ _ eD, ?_, fun b o eb => ?_, ?_⟩⟩
              · rw [List.length_map, List.length_replicate]; exact Nat.lt_of_le_of_lt (by omega : i ≤ 1000) (by decide)
              · rw [upd_ne (ne_of_none eb hD)]; exact s4 _ _ (s3 _ _ eb)
              · rw [upd_same, List.replicate_succ', List.map_append]; rfl
            · rintro H3 ⟨s3, eD⟩
              refine ⟨D, _, rfl, SqL.of eD, ?_⟩
              have e2 : (List.replicate ((ys.length : Nat) : Int).toNat true).all id = true := List.all_eq_true.mpr fun z hz => by rw [List.eq_of_mem_replicate hz]; rfl
              rw [e2]
              exact k _ s3
      | @tup a ys ds hs ha =>
        cases hx with
        | @tup a2 xs _ hs2 ha2 =>
          cases n with
          | zero => exact hf.elim
          | succ n =>
            have l1 := dpAll_len ha
            have l2 := dpAll_len ha2
            have hz : ds.length ≤ 1000 := hf.1
            refine ⟨_, rfl, _, rfl, iteF ?_⟩
            refine ⟨_, rfl, _, _, _, _, _, rfl, .ty "bool", tyx (.tup hs ha), kit_ty (kit_bool (.tuple ds)), _, rfl, iteF ?_⟩
            refine ⟨_, rfl, _, _, _, _, _, rfl, .ty "int", tyx (.tup hs ha), kit_ty (kit_int (.tuple ds)), _, rfl, iteF ?_⟩
            refine ⟨_, rfl, _, _, _, _, _, rfl, .ty "str", tyx (.tup hs ha), kit_ty (kit_str (.tuple ds)), _, rfl, iteF ?_⟩
            refine ⟨_, rfl, _, _, _, _, _, rfl, .ty "tuple", tyx (.tup hs ha), kit_ty (kit_tup (.tuple ds)), _, rfl, _, _, _, _, _, rfl, .ty "tuple", tyx (.tup hs2 ha2), kit_ty (kit_tup (.tuple ds)), rfl, _, rfl, ?_⟩
            refine ⟨_, rfl, _, _, _, _, _, rfl, .ty "list", tyx (.tup hs ha), kit_ty (kit_lst (.tuple ds)), _, rfl, _, _, _, _, _, rfl, .ty "list", tyx (.tup hs2 ha2), kit_ty (kit_lst (.tuple ds)), rfl, _, rfl, ?_⟩
            refine ⟨_, rfl, a2, xs, rfl, .inr hs2, _, rfl, a, ys, rfl, .inr hs, rfl, _, rfl, ?_⟩
            rw [l1, l2]
            have e : (!decide (V.int ((ds.length : Nat) : Int) = V.int ((ds.length : Nat) : Int))) = false := by rw [decide_eq_true rfl]; rfl
            rw [e]
            refine iteF ⟨_, rfl, a, ys, rfl, .inr hs, _, rfl, by omega, by omega, fun D hD => lc_range (lo := 0) (n := ((ys.length : Nat) : Int).toNat)
              (fun i H3 => Same H H3 ∧ H3 D = some (.lst ((List.replicate i true).map V.bl))) ⟨same_upd hD, upd_same⟩ ?_ ?_⟩
            · rintro i H3 hi ⟨s3, eD⟩
              have hi' : i < ds.length := by omega
              obtain ⟨y, hy⟩ : ∃ y, ys[i]? = some y := ⟨_, List.getElem?_eq_getElem (by omega)⟩
              obtain ⟨x, hx⟩ : ∃ x, xs[i]? = some x := ⟨_, List.getElem?_eq_getElem (by omega)⟩
              obtain ⟨d1, ed1, hd1⟩ := dpAll_get ha hy
              obtain ⟨d2, ed2, hd2⟩ := dpAll_get ha2 hx
              rw [ed1] at ed2
              cases ed2
              refine ⟨rfl, _, rfl, _, rfl, .inr (.inl ⟨a2, xs, _, x, rfl, rfl, sSqT s3 hs2, (by rw [Int.zero_add]; exact atI_nat hx), ?_⟩)⟩
              refine ⟨_, rfl, _, rfl, .inr (.inl ⟨a, ys, _, y, rfl, rfl, sSqT s3 hs, (by rw [Int.zero_add]; exact atI_nat hy), ?_⟩)⟩
              refine ⟨x, y, d1, rfl, dpSame s3 _ _ hd2, dpSame s3 _ _ hd1, hf.2 d1 (List.mem_of_getElem? ed1), fun H4 s4 => ⟨_, s4 _ _ eD, ?_, fun b o eb => ?_, ?_⟩⟩
              · rw [List.length_map, List.length_replicate]; exact Nat.lt_of_le_of_lt (by omega : i ≤ 1000) (by decide)
              · rw [upd_ne (ne_of_none eb hD)]; exact s4 _ _ (s3 _ _ eb)
              · rw [upd_same, List.replicate_succ', List.map_append]; rfl
            · rintro H3 ⟨s3, eD⟩
              refine ⟨D, _, rfl, SqL.of eD, ?_⟩
              have e2 : (List.replicate ((ys.length : Nat) : Int).toNat true).all id = true := List.all_eq_true.mpr fun z hz => by rw [List.eq_of_mem_replicate hz]; rfl
              rw [e2]
              exact k _ s3
end
end Dk

set_option Elab.async false
set_option linter.all false
set_option maxRecDepth 100000
set_option maxHeartbeats 1000000
namespace Dk
open PySem PySem.Spec PyProof.Rows L2 TL
/-! ### the text of valid parts is read back -/
theorem mem_joinL {S : List Nat} : ∀ {ls : List (List Nat)} {c : Nat}, c ∈ joinL S ls → c ∈ S ∨ ∃ p ∈ ls, c ∈ p
  | [], c, h => by cases h
  | [p], c, h => .inr ⟨p, List.mem_cons_self .., h⟩
  | p :: q :: r, c, h => by
    have h' : c ∈ p ++ (S ++ joinL S (q :: r)) := h
    rcases List.mem_append.mp h' with h' | h'
    · exact .inr ⟨p, List.mem_cons_self .., h'⟩
    · rcases List.mem_append.mp h' with h' | h'
      · exact .inl h'
      · rcases mem_joinL h' with e | ⟨x, hx, hc⟩
        · exact .inl e
        · exact .inr ⟨x, List.mem_cons_of_mem _ hx, hc⟩
theorem mem_join {y : Str} {ps : List Str} {c : Nat} (h : c ∈ tl (Txt.join y ps)) : c ∈ tl y ∨ ∃ p ∈ ps, c ∈ tl p := by
  rw [join_eq, tl_join] at h
  rcases mem_joinL h with h | ⟨p, hp, hc⟩
  · exact .inl h
  · obtain ⟨x, hx, rfl⟩ := List.mem_map.mp hp
    exact .inr ⟨x, hx, hc⟩
structure Wd (x : Str) : Prop where
  sp : 32 ∉ tl x
  nl : 10 ∉ tl x
  len : x.length ≤ 24
theorem wd_of {x : Str} {l : List Nat} (e : tl x = l) (h1 : 32 ∉ l) (h2 : 10 ∉ l) (h3 : l.length ≤ 24) : Wd x := ⟨by rw [e]; exact h1, by rw [e]; exact h2, by rw [len_tl, e]; exact h3⟩
theorem wd_tab : Wd wTab := ⟨by decide +kernel, by decide +kernel, by decide +kernel⟩
theorem wd_key : Wd wKey := ⟨by decide +kernel, by decide +kernel, by decide +kernel⟩
theorem wd_car : Wd wCar := ⟨by decide +kernel, by decide +kernel, by decide +kernel⟩
theorem wd_rem : Wd wRem := ⟨by decide +kernel, by decide +kernel, by decide +kernel⟩
theorem nw2_digs : ∀ l ∈ nw2, ∀ c ∈ l, 48 ≤ c ∧ c ≤ 57 := by decide +kernel
theorem numS_digs {i : Int} (h0 : 0 ≤ i) (h1 : i ≤ 99) : ∀ c ∈ tl (numS i), 48 ≤ c ∧ c ≤ 57 := nw2_digs _ (nw_mem (num_nw h0 h1).1)
theorem wd_num {i : Int} (h0 : 0 ≤ i) (h1 : i ≤ 99) : Wd (numS i) :=
  ⟨fun h => by have := numS_digs h0 h1 _ h; omega, fun h => by have := numS_digs h0 h1 _ h; omega, by have := numS_len h0 h1; omega⟩
theorem wd_table {t : Str} (h : IsTab t) : Wd t :=
  ⟨fun q => by have := h.ho _ q; omega, fun q => by have := h.ho _ q; omega, by rw [len_tl]; exact h.pos.2⟩
abbrev RB (r : Pr) : Prop := (0 : Int) ≤ r.1 ∧ r.1 ≤ 99 ∧ (0 : Int) ≤ r.2 ∧ r.2 ≤ 99
theorem tl_remS (r : Pr) : tl (remS r) = tl (numS r.1) ++ (58 :: tl (numS r.2)) := by
  unfold remS
  rw [tl_append, tl_append, tl_append, tl_col, show tl Str.empty = [] from rfl, List.nil_append, List.append_assoc]; rfl
theorem wd_remS {r : Pr} (h : RB r) : Wd (remS r) := by
  have h1 := numS_digs h.1 h.2.1
  have h2 := numS_digs h.2.2.1 h.2.2.2
  have key : ∀ c ∈ tl (remS r), 48 ≤ c ∧ c ≤ 58 := fun c hc => by
    rw [tl_remS] at hc
    rcases List.mem_append.mp hc with hc | hc
    · have := h1 c hc; omega
    · rcases List.mem_cons.mp hc with rfl | hc
      · omega
      · have := h2 c hc; omega
  exact ⟨fun q => by have := key _ q; omega, fun q => by have := key _ q; omega, by have := remS_len h; omega⟩
theorem split_remS {r : Pr} (h : RB r) : Txt.split (remS r) colS = [numS r.1, numS r.2] := by
  have e : remS r = Txt.join colS [numS r.1, numS r.2] := ext_tl (by
    rw [tl_remS, join_eq, tl_join, tl_col]; rfl)
  rw [e]
  refine split_join (s := 58) (S := []) tl_col (by decide +kernel) (by simp) fun p hp => ?_
  simp only [List.mem_cons, List.not_mem_nil, or_false] at hp
  rcases hp with rfl | rfl
  · exact fun q => by have := numS_digs h.1 h.2.1 _ q; omega
  · exact fun q => by have := numS_digs h.2.2.1 h.2.2.2 _ q; omega
theorem rw_remS {r : Pr} (h : RB r) : isRW (remS r) = true ∧ remOf (remS r) = r := by
  have e := split_remS h
  have n1 := num_nw h.1 h.2.1
  have n2 := num_nw h.2.2.1 h.2.2.2
  constructor
  · unfold isRW
    rw [e]
    simp only [List.length_cons, List.length_nil, List.all_cons, List.all_nil, Bool.and_true]
    rw [show isNW (numS r.1) = true from n1.1, show isNW (numS r.2) = true from n2.1]; rfl
  · unfold remOf
    rw [e]
    show (numOf (numS r.1), numOf (numS r.2)) = r
    rw [show numOf (numS r.1) = r.1 from n1.2, show numOf (numS r.2) = r.2 from n2.2]
theorem tw_table {t : Str} (h : IsTab t) : isTW t = true := by
  unfold isTW
  have h1 : (tl t).isEmpty = false := by
    cases e : tl t with
    | nil => have := h.pos.1; rw [e] at this; simp at this
    | cons a b => rfl
  rw [h1]
  show (true && only t hoS) = true
  have := isTab_is h
  have h' : (decide ((t.length : Int) ∈ tabLens) && only t hoS) = true := this
  rw [Bool.and_eq_true] at h'
  rw [h'.2]; rfl
theorem parts_sizes {ts : List Str} {k : Int} {cs : List Int} {rs : List Pr} (h : Parts ts k cs rs) : Sizes ts k cs rs := by
  have hp := per_le h.tabs
  refine ⟨h.n6, fun t ht => ?_, h.k0, by have := h.k9; omega, ?_, fun c hc => ?_, h.r10, fun r hr => ?_⟩
  · have := (h.tabs t ht).pos.2; rw [len_tl]; omega
  · -- at most six different persons
    have hb : ∀ (l : List Int) (lo : Int), l.Pairwise (· < ·) → (∀ c ∈ l, lo ≤ c ∧ c < (ts.length : Int)) → (l.length : Int) ≤ max 0 ((ts.length : Int) - lo) := by
      intro l
      induction l with
      | nil => intro lo _ _; show (0 : Int) ≤ max 0 ((ts.length : Int) - lo); omega
      | cons a l ih =>
        intro lo hp hm
        have ha := hm a (List.mem_cons_self ..)
        have := ih (a + 1) (List.pairwise_cons.mp hp).2 fun c hc => by
          have h1 := (List.pairwise_cons.mp hp).1 c hc
          have h2 := hm c (List.mem_cons_of_mem _ hc)
          omega
        rw [List.length_cons]
        omega
    have := hb cs 0 h.cp h.cm
    have := h.n6
    omega
  · have := h.cm c hc; have := h.n6; omega
  · have := h.rm r hr; have := h.n6; omega
/-- the words of the four rows -/
theorem rows_wd {ts : List Str} {k : Int} {cs : List Int} {rs : List Pr} (h : Parts ts k cs rs) : ∀ ws ∈ rowsT ts k cs rs, ws ≠ [] ∧ ws.length ≤ 11 ∧ ∀ x ∈ ws, Wd x := by
  have S := parts_sizes h
  intro ws hw
  have hl := (rows_small S ws hw).1
  simp only [rowsT, List.mem_cons, List.not_mem_nil, or_false] at hw
  rcases hw with rfl | rfl | rfl | rfl
  · refine ⟨by simp, hl, fun x hx => ?_⟩
    rcases List.mem_cons.mp hx with rfl | hx
    · exact wd_tab
    · exact wd_table (h.tabs x hx)
  · refine ⟨by simp, hl, fun x hx => ?_⟩
    simp only [List.mem_cons, List.not_mem_nil, or_false] at hx
    rcases hx with rfl | rfl
    · exact wd_key
    · exact wd_num S.k0 S.k9
  · refine ⟨by simp, hl, fun x hx => ?_⟩
    rcases List.mem_cons.mp hx with rfl | hx
    · exact wd_car
    · obtain ⟨c, hc, rfl⟩ := List.mem_map.mp hx
      exact wd_num (S.cb c hc).1 (S.cb c hc).2
  · refine ⟨by simp, hl, fun x hx => ?_⟩
    rcases List.mem_cons.mp hx with rfl | hx
    · exact wd_rem
    · obtain ⟨r, hr, rfl⟩ := List.mem_map.mp hx
      exact wd_remS (S.rb r hr)
theorem split_row {ws : List Str} (h : ws ≠ [] ∧ ws.length ≤ 11 ∧ ∀ x ∈ ws, Wd x) : Txt.split (Txt.join spS ws) spS = ws :=
  split_join (s := 32) (S := []) tl_sp (by decide +kernel) h.1 fun p hp => (h.2.2 p hp).sp
theorem row_nl {ws : List Str} (h : ws ≠ [] ∧ ws.length ≤ 11 ∧ ∀ x ∈ ws, Wd x) : 10 ∉ tl (Txt.join spS ws) := fun q => by
  rcases mem_join q with q | ⟨p, hp, hc⟩
  · rw [tl_sp] at q; simp at q
  · exact (h.2.2 p hp).nl hc
theorem row_len {ws : List Str} (h : ws ≠ [] ∧ ws.length ≤ 11 ∧ ∀ x ∈ ws, Wd x) : (Txt.join spS ws).length ≤ 300 := by
  have h1 := join_len spS ws
  have h2 := sum_len (l := ws) (n := 24) fun p hp => (h.2.2 p hp).len
  have h3 : spS.length = 1 := by decide +kernel
  rw [h3, Nat.mul_one] at h1
  have h4 : ws.length * 24 ≤ 11 * 24 := Nat.mul_le_mul_right _ h.2.1
  have := h.2.1
  omega
theorem lines_text {ts : List Str} {k : Int} {cs : List Int} {rs : List Pr} (h : Parts ts k cs rs) : linesOf (textOf ts k cs rs) = (rowsT ts k cs rs).map (Txt.join spS) := by
  unfold linesOf textOf
  refine split_join (s := 10) (S := []) tl_nl (by decide +kernel) (by simp [rowsT]) fun p hp => ?_
  obtain ⟨ws, hw, rfl⟩ := List.mem_map.mp hp
  exact row_nl (rows_wd h ws hw)
theorem text_len {ts : List Str} {k : Int} {cs : List Int} {rs : List Pr} (h : Parts ts k cs rs) : (textOf ts k cs rs).length ≤ 10000 := by
  have h1 := join_len nlS ((rowsT ts k cs rs).map (Txt.join spS))
  have h2 := sum_len (l := (rowsT ts k cs rs).map (Txt.join spS)) (n := 300) fun p hp => by
    obtain ⟨ws, hw, rfl⟩ := List.mem_map.mp hp
    exact row_len (rows_wd h ws hw)
  have h3 : nlS.length = 1 := by decide +kernel
  have h4 : ((rowsT ts k cs rs).map (Txt.join spS)).length = 4 := rfl
  rw [h3, h4] at h1
  rw [h4] at h2
  show (Txt.join nlS _).length ≤ _
  omega
theorem map_rows {ts : List Str} {k : Int} {cs : List Int} {rs : List Pr} (h : Parts ts k cs rs) : ((rowsT ts k cs rs).map (Txt.join spS)).map (fun l => Txt.split l spS) = rowsT ts k cs rs := by
  rw [List.map_map]
  have : ∀ ws ∈ rowsT ts k cs rs, ((fun l => Txt.split l spS) ∘ Txt.join spS) ws = ws := fun ws hw => split_row (rows_wd h ws hw)
  exact (List.map_congr_left this).trans (List.map_id _)
theorem fault_text {ts : List Str} {k : Int} {cs : List Int} {rs : List Pr} (h : Parts ts k cs rs) : fault (textOf ts k cs rs) = none := by
  have S := parts_sizes h
  unfold fault
  rw [lines_text h]
  have hm := map_rows h
  have w := rows_wd h
  have s0 := split_row (w (wTab :: ts) (by simp [rowsT]))
  have s1 := split_row (w [wKey, numS k] (by simp [rowsT]))
  have s2 := split_row (w (wCar :: cs.map numS) (by simp [rowsT]))
  have s3 := split_row (w (wRem :: rs.map remS) (by simp [rowsT]))
  have d1 : ¬ wKey = wTab := by decide +kernel
  have d2 : ¬ wKey = wRem := by decide +kernel
  have d3 : ¬ wCar = wTab := by decide +kernel
  have d4 : ¬ wCar = wRem := by decide +kernel
  have d5 : ¬ wCar = wKey := by decide +kernel
  have d6 : ¬ wRem = wTab := by decide +kernel
  have a0 : areArgs wTab ts = true := by unfold areArgs; rw [if_pos rfl]; exact List.all_eq_true.mpr fun t ht => tw_table (h.tabs t ht)
  have a1 : areArgs wKey [numS k] = true := by
    unfold areArgs
    rw [if_neg d1, if_neg d2, if_neg (fun q => q.2 rfl)]
    simp only [List.all_cons, List.all_nil, Bool.and_true]
    exact (num_nw S.k0 S.k9).1
  have a2 : areArgs wCar (cs.map numS) = true := by
    unfold areArgs
    rw [if_neg d3, if_neg d4, if_neg (fun q => d5 q.1)]
    refine List.all_eq_true.mpr fun x hx => ?_
    obtain ⟨c, hc, rfl⟩ := List.mem_map.mp hx
    exact (num_nw (S.cb c hc).1 (S.cb c hc).2).1
  have a3 : areArgs wRem (rs.map remS) = true := by
    unfold areArgs
    rw [if_neg d6, if_pos rfl]
    refine List.all_eq_true.mpr fun x hx => ?_
    obtain ⟨r, hr, rfl⟩ := List.mem_map.mp hx
    exact (rw_remS (S.rb r hr)).1
  have step : ∀ {n : Nat} {w : Str} {r : List Str} {ws ls : List Str} {l : Str}, Txt.split l spS = w :: r → areArgs w r = true → faultL n (w :: ws) (l :: ls) = faultL (n + 1) ws ls := by
    intro n w r ws ls l e a
    show (match Txt.split l spS with | [] => some n | f :: r => if f = w ∧ areArgs w r = true then faultL (n + 1) ws ls else some n) = _
    rw [e]
    dsimp only
    rw [if_pos ⟨rfl, a⟩]
  show faultL 0 [wTab, wKey, wCar, wRem] [Txt.join spS (wTab :: ts), Txt.join spS [wKey, numS k], Txt.join spS (wCar :: cs.map numS), Txt.join spS (wRem :: rs.map remS)] = none
  rw [step s0 a0, step s1 a1, step s2 a2, step s3 a3]
  rfl
theorem rows_text {ts : List Str} {k : Int} {cs : List Int} {rs : List Pr} (h : Parts ts k cs rs) : (linesOf (textOf ts k cs rs)).map rowOf = [ts, [numS k], cs.map numS, rs.map remS] := by
  rw [lines_text h]
  have e : rowOf = List.tail ∘ (fun l => Txt.split l spS) := rfl
  rw [e, ← List.map_map, map_rows h]
  rfl
theorem nums_back {cs : List Int} (h : ∀ c ∈ cs, (0 : Int) ≤ c ∧ c ≤ 99) : (cs.map numS).map numOf = cs := by
  rw [List.map_map]
  exact (List.map_congr_left (g := id) fun c hc => (num_nw (h c hc).1 (h c hc).2).2).trans (List.map_id _)
theorem rems_back {rs : List Pr} (h : ∀ r ∈ rs, RB r) : (rs.map remS).map remOf = rs := by
  rw [List.map_map]
  exact (List.map_congr_left (g := id) fun r hr => (rw_remS (h r hr)).2).trans (List.map_id _)
end Dk

set_option Elab.async false
set_option linter.all false
set_option maxRecDepth 100000
set_option maxHeartbeats 1000000
namespace Dk
open PySem PySem.Spec PyProof.Rows L2 TL
/-! ### the law -/
def spLaw (K : PySem.W.Frag) : Sp := fun vs H Q _ => ∃ (a : Addr) (ns : List Int), vs = [.ref a] ∧ SqL K H a (ns.map V.int) ∧ ns.length ≤ 63 ∧ ∀ H', Q (.bl true) H'
structure TxtW (K : PySem.W.Frag) (mg : Str → Option Value) (CH : Addr) (mc : Value) (fRa fPa fEq fHo pP gP pT gT : Addr) (fdRa fdPa fdEq fdHo fdP fdT : FuncData) : Prop where
  gRa : mg "_law_random" = some (.ref fRa)
  FRa : Fun K "_law_random" "_law_random" sRandom fRa fdRa
  bRa : Binds K fdRa ["_law_script", "_law_salt"] []
  gPa : mg "_law_parts" = some (.ref fPa)
  FPa : Fun K "_law_parts" "_law_parts" sParts fPa fdPa
  bPa : Binds K fdPa ["_law_d", "_law_most"] []
  gEq : mg "_law_equal" = some (.ref fEq)
  FEq : Fun K "_law_equal" "_law_equal" sEqual fEq fdEq
  bEq : Binds K fdEq ["_law_actual", "_law_expected"] []
  gHo : mg "_law_house" = some (.ref fHo)
  FHo : Fun K "_law_house" "_law_house" sHouseF fHo fdHo
  bHo : Binds K fdHo ["_law_parts_here"] []
  rd : ClX.CRead K CH mc
  cm : ClX.CMet K CH mc "parse" pP gP
  FP : Fun K "parse" "House.parse" sParse gP fdP
  bP : Binds K fdP ["cls", "text"] []
  po : PropOf K CH "text" pT gT
  FT : Fun K "text" "House.text" sText gT fdT
  bT : Binds K fdT ["self"] []
  list : mg "list" = none
  ln : TxtLn K mg
abbrev nLaw : List Str := ["_law_script", "_law_d", "_law_step", "_law_parts_here", "_law_rows", "_law_text", "_law_house_here", "_law_k", "_law_tick", "_law_person", "_law_row"]
section
variable {P : Program} {w : World} {K : PySem.W.Frag} {mg : Str → Option Value} {base : Heap} {C fI : Addr} {fdI : FuncData} {fII fIB fHO : Addr} {fdII fdIB fdHO : FuncData} {fIT fIR fAs : Addr} {fdIT fdIR fdAs : FuncData}
  {CH fP fT fK fC fR : Addr} {fdP fdT fdK fdC fdR : FuncData} {fTW fNW fRW : Addr} {fdTW fdNW fdRW : FuncData} {CT fTI fAA : Addr} {fdTI fdAA : FuncData} {fS fRR : Addr} {fdS fdRR : FuncData} {fH : Addr} {fdH : FuncData} {dvs : List V}
  {fB fTb fLn : Addr} {fdB fdTb fdLn : FuncData} {mc : Value} {fRa fPa fEq fHo pP gP pT gT : Addr} {fdRa fdPa fdEq fdHo fdPp fdTt : FuncData}
theorem scLaw : FnScope nLaw ["_law_script"] (defScope sLaw) := ⟨rfl, rfl, rfl, by decide +kernel, rfl, by decide +kernel, by decide +kernel⟩
abbrev rAddS : R2 := fun x y H Q => ∃ i j, x = .str i ∧ y = .str j ∧ i.length + j.length ≤ sizeLine ∧ Q (.str (i ++ j)) H
abbrev rStrI : List V → Hp → VK → Prop := fun xs H Q => ∃ i, xs = [.int i] ∧ i.natAbs.log2 < 1920 ∧ Q (.str (toString i)) H
abbrev tRem2 : TE := tOp rAddS (tOp rAddS (tCB rStrI (tCons (tVar 8) tNil)) (tC (.str colS))) (tCB rStrI (tCons (tVar 9) tNil))
theorem same_set {H H' : Hp} {l : Addr} {o : HO} (s : Same H H') (n : H l = none) : Same H (upd H' l o) := fun b u e => by rw [upd_ne (ne_of_none e n)]; exact s b u e
theorem flat_parts {ts : List Str} {k : Int} {cs : List Int} {rs : List Pr} (h : Parts ts k cs rs) : Flat 3 (.list [dStrs ts, .int k, dInts cs, dPrs rs]) := by
  have S := parts_sizes h
  refine ⟨by show 4 ≤ 1000; decide, fun d hd => ?_⟩
  simp only [List.mem_cons, List.not_mem_nil, or_false] at hd
  rcases hd with rfl | rfl | rfl | rfl
  · refine ⟨by rw [List.length_map]; have := S.tl; omega, fun x hx => ?_⟩
    obtain ⟨t, _, rfl⟩ := List.mem_map.mp hx
    trivial
  · trivial
  · refine ⟨by rw [List.length_map]; have := S.cl; omega, fun x hx => ?_⟩
    obtain ⟨t, _, rfl⟩ := List.mem_map.mp hx
    trivial
  · refine ⟨by rw [List.length_map]; have := S.rl; omega, fun x hx => ?_⟩
    obtain ⟨r, _, rfl⟩ := List.mem_map.mp hx
    refine ⟨by show 2 ≤ 1000; decide, fun y hy => ?_⟩
    simp only [List.mem_cons, List.not_mem_nil, or_false] at hy
    rcases hy with rfl | rfl <;> trivial
theorem remS_law (r : Pr) : (numS r.1 ++ colS) ++ numS r.2 = remS r := by
  apply ext_tl
  unfold remS
  simp only [tl_append]
  rfl
theorem ok_law {f : Addr} {fd : FuncData} (F : Fun K "law" "law" sLaw f fd) (T : TxtA mg) (B : TxtB K mg fB fdB) (D' : TxtD K mg fTb fLn fdTb fdLn) (TC : TxtC mg) (TF : TxtF K mg fII fIB fHO fdII fdIB fdHO) (TI : TxtI K mg fIT fIR fAs fdIT fdIR fdAs) (TH : TxtIH K mg C fI fdI)
    (TL' : TxtL K mg CH fP fT fK fC fR fdP fdT fdK fdC fdR) (TM : TxtM K mg fTW fNW fRW fdTW fdNW fdRW) (TTF : TxtTF K mg CT fTI fdTI) (TO : TxtO K mg fAA fdAA) (TT : TxtT K mg fS fRR fdS fdRR)
    (FH : FunD K "__init__" "House.__init__" (defArgs sInit) (defBody sInit) (defScope sInit) dvs [] fH fdH) (bH : Binds K fdH ["self", "tables", "keys", "careful", "reminders"] []) (M : Mk K CH fH) (gH : mg "House" = some (.ref CH))
    (W : TxtW K mg CH mc fRa fPa fEq fHo pP gP pT gT fdRa fdPa fdEq fdHo fdPp fdTt) :
    FnOk P w K mg base CX0 8 f fd ["_law_script"] (spLaw K) := by
  have GRa : FnOk P w K mg base CX0 1 fRa fdRa ["_law_script", "_law_salt"] (spRandom K) := ok_random W.FRa T
  have GPa : FnOk P w K mg base CX0 3 fPa fdPa ["_law_d", "_law_most"] spParts := ok_parts W.FPa T B D'
  have GEq : FnOk P w K mg base CX0 5 fEq fdEq ["_law_actual", "_law_expected"] (spE K 4) := ok_equal W.FEq W.bEq W.gEq T TF W.list 4
  have GHo : FnOk P w K mg base CX0 7 fHo fdHo ["_law_parts_here"] (spHouseF K CH) := ok_housef W.FHo T TC TF TI TH TL' FH bH M gH
  have GP0 : FnOk P w K mg base (L2.CX P w) 7 gP fdPp ["cls", "text"] (spParse K CH C CT) := ok_parse W.FP T TC TF TI TH TL' TM TTF TO TT FH bH M
  have GP : FnR P w K mg base (L2.CX P w) 7 gP (spParse K CH C CT) := (GP0.raw W.bP .nil).imp fun vs H Q E h => by rw [List.append_nil]; exact h
  have GT : FnOk P w K mg base CX0 2 gT fdTt ["self"] (spText K CH) := ok_text W.FT TL' W.ln
  refine F.ok scLaw (fun vs H Q E h => ?_) (fun cdv A outer s H vs Q E hr h => ?_)
  · obtain ⟨a, ns, rfl, _⟩ := h
    rfl
  · obtain ⟨a, ns, rfl, hS, hlen, k⟩ := h
    have hr5 : Room 5 (A.deeper (envOfC (Str.ofString "law") (defScope sLaw) s.heap.objs.size f cdv)) := hr.mono (by decide)
    have hr3 : Room 3 (A.deeper (envOfC (Str.ofString "law") (defScope sLaw) s.heap.objs.size f cdv)) := hr.mono (by decide)
    have hr2 : Room 2 (A.deeper (envOfC (Str.ofString "law") (defScope sLaw) s.heap.objs.size f cdv)) := hr.mono (by decide)
    have hr1 : Room 1 (A.deeper (envOfC (Str.ofString "law") (defScope sLaw) s.heap.objs.size f cdv)) := hr.mono (by decide)
    have hr3 : Room 3 (A.deeper (envOfC (Str.ofString "law") (defScope sLaw) s.heap.objs.size f cdv)) := hr.mono (by decide)
    refine ⟨_, pss_cons (ps_set (i := 1) scLaw.nd rfl (.inl rfl) (pe_call GRa hr1 rfl W.gRa W.FRa.kp W.bRa .nil pass0 (pa_cons (pv 0) (pa_cons pe_int pa_nil))))
      (pss_cons (ps_for PassesOwn.never rfl (pi_range1 rfl T.range (pa_cons pe_int pa_nil)) (pg_name (i := 2) scLaw.nd rfl (.inl rfl))
        (pss_cons (ps_set (i := 3) scLaw.nd rfl (.inl rfl) (pe_call GPa hr3 rfl W.gPa W.FPa.kp W.bPa .nil pass0 (pa_cons (pv 1) (pa_cons pe_int pa_nil))))
        (pss_cons (ps_set (i := 4) scLaw.nd rfl (.inl rfl) (pe_lst
          (pa_cons (pe_op op_cat (pe_lst (pa_cons pe_str pa_nil)) (pe_callTy call_list_of (by rfl) W.list (by decide +kernel) (pa_cons (pe_ix ix_tup (pv 3) pe_int (fun _ _ => rfl)) pa_nil)))
          (pa_cons (pe_lst (pa_cons pe_str (pa_cons (pe_callTy call_str_int (by rfl) TF.str (by decide +kernel) (pa_cons (pe_ix ix_tup (pv 3) pe_int (fun _ _ => rfl)) pa_nil)) pa_nil)))
          (pa_cons (pe_op op_cat (pe_lst (pa_cons pe_str pa_nil)) (pe_lc (own := [("_law_k", 7)]) (g := gName 7) (by rfl) scLaw.nd (pi_tup (pe_ix ix_tup (pv 3) pe_int (fun _ _ => rfl))) (blkOk_by (N := nLaw) (sc := defScope sLaw) (by decide +kernel))
            (fun _ _ _ _ _ => pg_name (i := 7) scLaw.nd rfl (Or.inl rfl)) (fun _ _ _ _ _ => pts_nil) (fun _ _ _ _ _ => pe_callTy call_str_int (by rfl) TF.str (by decide +kernel) (pa_cons (pv 7) pa_nil)))) pa_nil)))))
        (pss_cons (ps_expr (pe_bm PySem.F.plainAttrs_list PySem.F.slot_list_append PySem.F.type_list_append mt_append (pv 4) (pa_cons
          (pe_op op_cat (pe_lst (pa_cons pe_str pa_nil)) (pe_lc (own := [("_law_tick", 8), ("_law_person", 9)]) (g := gTup K 2 (gCons (gName 8) (gCons (gName 9) gNil))) (te := tRem2) (by rfl) scLaw.nd (pi_tup (pe_ix ix_tup (pv 3) pe_int (fun _ _ => rfl))) (blkOk_by (N := nLaw) (sc := defScope sLaw) (by decide +kernel))
            (fun _ _ _ _ _ => by exact pg_tup rfl (pgs_cons (pg_name (i := 8) scLaw.nd rfl (Or.inl rfl)) (pgs_cons (pg_name (i := 9) scLaw.nd rfl (Or.inl rfl)) pgs_nil))) (fun _ _ _ _ _ => pts_nil)
            (fun _ _ _ _ _ => by exact pe_op op_add_str (pe_op op_add_str (pe_callTy call_str_int (by rfl) TF.str (by decide +kernel) (pa_cons (pv 8) pa_nil)) pe_str) (pe_callTy call_str_int (by rfl) TF.str (by decide +kernel) (pa_cons (pv 9) pa_nil))))) pa_nil)))
        (pss_cons (ps_set (i := 5) scLaw.nd rfl (.inl rfl) (pe_join pe_str (pe_lc (own := [("_law_row", 10)]) (g := gName 10) (te := tM1 (rJoin K) (tC (.str spS)) (tVar 10)) (by rfl) scLaw.nd (pi_list (pv 4)) (blkOk_by (N := nLaw) (sc := defScope sLaw) (by decide +kernel))
          (fun _ _ _ _ _ => pg_name (i := 10) scLaw.nd rfl (Or.inl rfl)) (fun _ _ _ _ _ => pts_nil) (fun _ _ _ _ _ => by exact pe_join pe_str (pv 10)))))
        (pss_cons (ps_set (i := 6) scLaw.nd rfl (.inl rfl) (ClX.pe_cmeth (pe_glob (v := .ref CH) (by rfl) gH rfl) W.rd W.cm GP hr passL (pa_cons (pv 5) pa_nil)))
        (pss_cons (ps_if (pt_not (pt_val (pe_call GEq hr5 rfl W.gEq W.FEq.kp W.bEq .nil pass0 (pa_cons (pe_lst (pa_cons (pe_prop (pv 6) TL'.cl W.po GT hr3 W.bT .nil pass0 rfl) (pa_cons (pe_prop (pe_call GHo hr rfl W.gHo W.FHo.kp W.bHo .nil pass0 (pa_cons (pv 3) pa_nil)) TL'.cl W.po GT hr3 W.bT .nil pass0 rfl) pa_nil)))
            (pa_cons (pe_lst (pa_cons (pv 5) (pa_cons (pv 5) pa_nil))) pa_nil))))) (pss_one (ps_ret pe_bl)) pss_nil)
        (pss_one (ps_if (pt_not (pt_val (pe_call GEq hr5 rfl W.gEq W.FEq.kp W.bEq .nil pass0 (pa_cons (pe_lst (pa_cons (pe_fld (pv 6) rfl) (pa_cons (pe_fld (pv 6) rfl) (pa_cons (pe_fld (pv 6) rfl) (pa_cons (pe_fld (pv 6) rfl) pa_nil)))))
            (pa_cons (pe_callTy call_list_of (by rfl) W.list (by decide +kernel) (pa_cons (pv 3) pa_nil)) pa_nil))))) (pss_one (ps_ret pe_bl)) pss_nil)))))))))
      (pss_one (ps_ret pe_bl))), ?_⟩
    refine ⟨_, rfl, a, ns, 14, rfl, hS, hlen, by decide, by decide, fun H1 d st s1 _ hd hg => ?_⟩
    refine ⟨_, rfl, by decide, by decide, for_range (lo := 0) (n := 5) (fun i σ H2 => ∃ (st2 : List Int) (v2 v3 v4 v5 v6 v7 v8 v9 v10 : Option V), σ = [some (.ref a), some (.ref d), v2, v3, v4, v5, v6, v7, v8, v9, v10] ∧ Kp d H1 H2 ∧ H2 d = some (.lst (st2.map V.int)) ∧ Good st2) ⟨st, _, _, _, _, _, _, _, _, _, rfl, Kp.refl, hd, hg⟩ ?_ ?_⟩
    · rintro i σ H2 hi ⟨st2, v2, v3, v4, v5, v6, v7, v8, v9, v10, rfl, k2, hd2, hg2⟩
      refine ⟨_, rfl, d, 6, st2, rfl, hd2, hg2, by decide, by decide, fun H3 st3 pa ts kk cs rs k3 hd3 hg3 hPA hPP => ?_⟩
      have k13 := k2.trans k3
      have S := parts_sizes hPP
      obtain ⟨aT, aC, aR, xs, e1, e2, e3, e4, e5⟩ := hPA
      clear k2 k3 hd2 hg2
      -- the row of the timetables
      refine ⟨by show 1 ≤ sizeLine; decide, fun q1 hq1 => ?_⟩
      have s3 := same_upd (o := .lst [V.str (Str.ofString "tables")]) hq1
      have f1 : (upd H3 q1 (.lst [V.str (Str.ofString "tables")])) q1 = some (.lst [V.str (Str.ofString "tables")]) := upd_same
      generalize upd H3 q1 (.lst [V.str (Str.ofString "tables")]) = H4 at s3 f1
      refine ⟨_, rfl, pa, _, 0, _, rfl, rfl, SqT.of (s3 _ _ e1), at0, aT, _, rfl, .inr (SqT.of (s3 _ _ e2)), fun q2 hq2 => ?_⟩
      have s4 := same_upd (o := .lst (ts.map V.str)) hq2
      have f2 : (upd H4 q2 (.lst (ts.map V.str))) q2 = some (.lst (ts.map V.str)) := upd_same
      have f1' := s4 _ _ f1
      have s5 := s3.trans s4
      generalize upd H4 q2 (.lst (ts.map V.str)) = H5 at s4 f2 f1' s5
      refine ⟨q1, q2, _, _, rfl, rfl, f1', f2, ?_, fun lT hlT => ?_⟩
      · rw [List.length_map]; exact Nat.le_trans (by have := S.tl; show 1 + ts.length ≤ 1000; omega) (by decide)
      have s6 := same_upd (o := .lst ([V.str (Str.ofString "tables")] ++ ts.map V.str)) hlT
      have gT1 : (upd H5 lT (.lst ([V.str (Str.ofString "tables")] ++ ts.map V.str))) lT = some (.lst ((wTab :: ts).map V.str)) := by rw [upd_same]; rfl
      have s7 := s5.trans s6
      generalize upd H5 lT (.lst ([V.str (Str.ofString "tables")] ++ ts.map V.str)) = H6 at s6 gT1 s7
      clear f1 f2 f1' s3 s4 s5 s6 hq1 hq2 hlT
      -- the row of the keys
      refine ⟨_, rfl, pa, _, 1, _, rfl, rfl, SqT.of (s7 _ _ e1), at1, kk, rfl, log_small S.k0 S.k9, by show 2 ≤ sizeLine; decide, fun lK hlK => ?_⟩
      have s8 := same_upd (o := .lst [V.str (Str.ofString "keys"), V.str (Str.ofString (toString kk))]) hlK
      have gK1 : (upd H6 lK (.lst [V.str (Str.ofString "keys"), V.str (Str.ofString (toString kk))])) lK = some (.lst ([wKey, numS kk].map V.str)) := by rw [upd_same]; rfl
      have gT2 := s8 _ _ gT1
      have s9 := s7.trans s8
      generalize upd H6 lK (.lst [V.str (Str.ofString "keys"), V.str (Str.ofString (toString kk))]) = H7 at s8 gK1 gT2 s9
      clear gT1 s7 s8 hlK
      -- the row of the careful persons
      refine ⟨by show 1 ≤ sizeLine; decide, fun q3 hq3 => ?_⟩
      have s3 := same_upd (o := .lst [V.str (Str.ofString "careful")]) hq3
      have f1 : (upd H7 q3 (.lst [V.str (Str.ofString "careful")])) q3 = some (.lst [V.str (Str.ofString "careful")]) := upd_same
      have gK2 := s3 _ _ gK1
      have gT3 := s3 _ _ gT2
      have s4 := s9.trans s3
      generalize upd H7 q3 (.lst [V.str (Str.ofString "careful")]) = H8 at s3 f1 gK2 gT3 s4
      clear gK1 gT2 s9 s3 hq3
      refine ⟨_, rfl, pa, _, 2, _, rfl, rfl, SqT.of (s4 _ _ e1), at2, aC, rfl, ⟨_, SqT.of (s4 _ _ e3)⟩, fun D hD => lc_tup (K := K) (a := aC) (xs := cs.map V.int)
        (fun i H9 => Same H8 H9 ∧ H9 D = some (.lst (((cs.take i).map numS).map V.str))) ⟨same_upd hD, upd_same⟩ (fun i H9 _ ⟨e, _⟩ => SqT.of (e _ _ (s4 _ _ e3))) ?_ ?_⟩
      · rintro j y H9 hi ⟨s9, eD⟩
        obtain ⟨c, hc, rfl⟩ := map_at hi
        have hcm := S.cb c (List.mem_of_getElem? hc)
        refine ⟨rfl, _, rfl, c, rfl, log_small hcm.1 hcm.2, _, eD, ?_, fun b o eb => ?_, ?_⟩
        · rw [List.length_map, List.length_map, List.length_take]
          exact Nat.lt_of_le_of_lt (Nat.le_trans (Nat.min_le_right _ _) (by have := S.cl; omega : _ ≤ 1000)) (by decide)
        · rw [upd_ne (ne_of_none eb hD)]; exact s9 _ _ eb
        · rw [upd_same, take_more hc, List.map_append, List.map_append]; rfl
      rintro H9 ⟨s9, eD⟩
      rw [List.length_map, List.take_length] at eD
      refine ⟨q3, D, _, _, rfl, rfl, s9 _ _ f1, eD, ?_, fun lC hlC => ?_⟩
      · rw [List.length_map, List.length_map]; exact Nat.le_trans (by have := S.cl; show 1 + cs.length ≤ 1000; omega) (by decide)
      have s10 := same_upd (o := .lst ([V.str (Str.ofString "careful")] ++ (cs.map numS).map V.str)) hlC
      have gC1 : (upd H9 lC (.lst ([V.str (Str.ofString "careful")] ++ (cs.map numS).map V.str))) lC = some (.lst ((wCar :: cs.map numS).map V.str)) := by rw [upd_same]; rfl
      have gK3 := s10 _ _ (s9 _ _ gK2)
      have gT4 := s10 _ _ (s9 _ _ gT3)
      have s11 := (s4.trans s9).trans s10
      generalize upd H9 lC (.lst ([V.str (Str.ofString "careful")] ++ (cs.map numS).map V.str)) = H10 at s10 gC1 gK3 gT4 s11
      clear gK2 gT3 s4 s9 s10 f1 eD hD hlC
      -- the rows so far
      refine ⟨by show 3 ≤ sizeLine; decide, fun l hl => ?_⟩
      have s3 := same_upd (o := .lst [V.ref lT, V.ref lK, V.ref lC]) hl
      have eL : (upd H10 l (.lst [V.ref lT, V.ref lK, V.ref lC])) l = some (.lst [V.ref lT, V.ref lK, V.ref lC]) := upd_same
      have nT : lT ≠ l := ne_of_none gT4 hl
      have nK : lK ≠ l := ne_of_none gK3 hl
      have nC : lC ≠ l := ne_of_none gC1 hl
      have nH : H3 l = none := s11.free hl
      have gT5 := s3 _ _ gT4
      have gK4 := s3 _ _ gK3
      have gC2 := s3 _ _ gC1
      have s4 := s11.trans s3
      generalize upd H10 l (.lst [V.ref lT, V.ref lK, V.ref lC]) = H11 at s3 eL gT5 gK4 gC2 s4
      clear gT4 gK3 gC1 s11 s3 hl
      -- the row of the reminders
      refine ⟨_, rfl, .inl ⟨rfl, _, SqL.of eL⟩, by show 1 ≤ sizeLine; decide, fun q4 hq4 => ?_⟩
      have s3 := same_upd (o := .lst [V.str (Str.ofString "remind")]) hq4
      have f1 : (upd H11 q4 (.lst [V.str (Str.ofString "remind")])) q4 = some (.lst [V.str (Str.ofString "remind")]) := upd_same
      have gT6 := s3 _ _ gT5
      have gK5 := s3 _ _ gK4
      have gC3 := s3 _ _ gC2
      have eL2 := s3 _ _ eL
      have s5 := s4.trans s3
      generalize upd H11 q4 (.lst [V.str (Str.ofString "remind")]) = H12 at s3 f1 gT6 gK5 gC3 eL2 s5
      clear gT5 gK4 gC2 eL s4 s3 hq4
      have hP12 : Prs H12 xs rs := e5.mono fun t ys h => s5 _ _ h
      refine ⟨_, rfl, pa, _, 3, _, rfl, rfl, SqT.of (s5 _ _ e1), at3, aR, rfl, ⟨_, SqT.of (s5 _ _ e4)⟩, fun D hD => lc_tup (K := K) (a := aR) (xs := xs)
        (fun i H13 => Same H12 H13 ∧ H13 D = some (.lst (((rs.take i).map remS).map V.str))) ⟨same_upd hD, upd_same⟩ (fun i H13 _ ⟨e, _⟩ => SqT.of (e _ _ (s5 _ _ e4))) ?_ ?_⟩
      · rintro j y H13 hi ⟨s13, eD⟩
        have hj : j < xs.length := (List.getElem?_eq_some_iff.mp hi).1
        have hlen := hP12.len
        have hrj : rs[j]? = some (rs[j]'(by omega)) := List.getElem?_eq_getElem _
        generalize rs[j]'(by omega) = r at hrj
        have hPr : PrAt H12 y r := by
          have hk : (xs.map (kf H12))[j]? = some (kf H12 y) := by rw [List.getElem?_map, hi]; rfl
          rw [hP12.kf, hrj] at hk
          have e := Option.some.inj hk
          rw [e]; exact hP12.mem y (List.mem_of_getElem? hi)
        obtain ⟨t, rfl, ht⟩ := hPr
        have hb := S.rb r (List.mem_of_getElem? hrj)
        have n1 := numS_len hb.1 hb.2.1
        have n2 := numS_len hb.2.2.1 hb.2.2.2
        refine ⟨t, _, rfl, SqT.of (s13 _ _ ht), rfl, _, _, rfl, _, _, rfl, rfl, rfl, ?_⟩
        refine ⟨_, rfl, r.1, rfl, log_small hb.1 hb.2.1, numS r.1, colS, rfl, rfl, ?_, _, rfl, r.2, rfl, log_small hb.2.2.1 hb.2.2.2, numS r.1 ++ colS, numS r.2, rfl, rfl, ?_, ?_⟩
        · rw [col_len]; exact Nat.le_trans (by omega : _ ≤ 1000) (by decide)
        · rw [len_app, col_len]; exact Nat.le_trans (by omega : _ ≤ 1000) (by decide)
        rw [remS_law]
        refine ⟨_, eD, ?_, fun b o eb => ?_, ?_⟩
        · rw [List.length_map, List.length_map, List.length_take]
          exact Nat.lt_of_le_of_lt (Nat.le_trans (Nat.min_le_right _ _) (by have := S.rl; omega : _ ≤ 1000)) (by decide)
        · rw [upd_ne (ne_of_none eb hD)]; exact s13 _ _ eb
        · rw [upd_same, take_more hrj, List.map_append, List.map_append]; rfl
      rintro H13 ⟨s13, eD⟩
      rw [hP12.len, List.take_length] at eD
      refine ⟨q4, D, _, _, rfl, rfl, s13 _ _ f1, eD, ?_, fun lR hlR => ?_⟩
      · rw [List.length_map, List.length_map]; exact Nat.le_trans (by have := S.rl; show 1 + rs.length ≤ 1000; omega) (by decide)
      have s10 := same_upd (o := .lst ([V.str (Str.ofString "remind")] ++ (rs.map remS).map V.str)) hlR
      have gR1 : (upd H13 lR (.lst ([V.str (Str.ofString "remind")] ++ (rs.map remS).map V.str))) lR = some (.lst ((wRem :: rs.map remS).map V.str)) := by rw [upd_same]; rfl
      have gC4 := s10 _ _ (s13 _ _ gC3)
      have gK6 := s10 _ _ (s13 _ _ gK5)
      have gT7 := s10 _ _ (s13 _ _ gT6)
      have eL3 := s10 _ _ (s13 _ _ eL2)
      have nR : lR ≠ l := (ne_of_none (s13 _ _ eL2) hlR).symm
      have s11 := (s5.trans s13).trans s10
      generalize upd H13 lR (.lst ([V.str (Str.ofString "remind")] ++ (rs.map remS).map V.str)) = H14 at s10 gR1 gC4 gK6 gT7 eL3 s11
      clear gC3 gK5 gT6 eL2 s13 s10 s5 f1 eD hD hlR hP12
      refine ⟨l, _, _, rfl, rfl, eL3, by show 3 < sizeLine; decide, ?_⟩
      have s6 := same_set (o := .lst ([V.ref lT, V.ref lK, V.ref lC] ++ [V.ref lR])) s11 nH
      have hRows : RowsAt (upd H14 l (.lst ([V.ref lT, V.ref lK, V.ref lC] ++ [V.ref lR]))) [lT, lK, lC, lR] (rowsT ts kk cs rs) :=
        .cons (by rw [upd_ne nT]; exact gT7) (.cons (by rw [upd_ne nK]; exact gK6) (.cons (by rw [upd_ne nC]; exact gC4) (.cons (by rw [upd_ne nR]; exact gR1) .nil)))
      have eL4 : SqL K (upd H14 l (.lst ([V.ref lT, V.ref lK, V.ref lC] ++ [V.ref lR]))) l ([lT, lK, lC, lR].map V.ref) := SqL.of upd_same
      generalize upd H14 l (.lst ([V.ref lT, V.ref lK, V.ref lC] ++ [V.ref lR])) = H15 at s6 hRows eL4
      clear gT7 gK6 gC4 gR1 nT nK nC nR eL3 s11
      -- the text
      refine ⟨⟨_, rfl⟩, _, rfl, l, rfl, ⟨_, eL4⟩, fun D hD => comp_join (i := 10) (vs := [10]) hD eL4 hRows (by show 4 ≤ 1000; decide) (fun a ws H8 Q2 hw ea hq => ?_) (fun _ => rfl) (fun H16 s16 eD => ?_)⟩
      · refine ⟨⟨_, rfl⟩, _, rfl, spS, a, ws, rfl, rfl, .inl (SqL.of ea), ?_, hq⟩
        have := (rows_small S ws hw).2; omega
      refine ⟨nlS, D, _, rfl, rfl, .inl (SqL.of eD), text_size S, ?_⟩
      have s7 := s6.trans s16
      clear s6 hRows eL4 s16 eD hD
      -- the house that is read
      refine ⟨rfl, _, rfl, ?_⟩
      refine ⟨textOf ts kk cs rs, rfl, text_len hPP, fun i (hf : fault (textOf ts kk cs rs) = some i) => ?_, fun r0 wk r2 r3 R4 => ?_⟩
      · rw [fault_text hPP] at hf; cases hf
      have hR := R4.rows
      rw [rows_text hPP] at hR
      injection hR with h0 hR
      injection hR with h1 hR
      injection h1 with h1 _
      injection hR with h2 hR
      injection hR with h3 _
      subst h0 h1 h2 h3
      clear R4
      have hk : numOf (numS kk) = kk := (num_nw S.k0 S.k9).2
      rw [nums_back S.cb, rems_back S.rb, hk]
      refine ⟨fun _ H17 p s17 hp hA => ?_, fun part i hc => by rw [parts_is hPP] at hc; cases hc⟩
      have s8 := s7.trans s17
      clear s7 s17
      -- both texts
      obtain ⟨dx, bT, bC, bR, ys, g1, g2, g3, g4, g5⟩ := id hA.ex
      refine ⟨_, rfl, p, dx, _, rfl, g1, p, ts, kk, cs, rs, rfl, hA, S, fun H18 s18 => ?_⟩
      have s9 := s8.trans s18
      have s19 := s18
      refine ⟨_, rfl, pa, ts, kk, cs, rs, rfl, ⟨⟨aT, aC, aR, xs, s9 _ _ e1, s9 _ _ e2, s9 _ _ e3, s9 _ _ e4, e5.mono fun t ys h => s9 _ _ h⟩⟩, hPP, fun H20 p2 s20 hp2 hA2 => ?_⟩
      obtain ⟨dx2, bT2, bC2, bR2, ys2, j1, _⟩ := id hA2.ex
      refine ⟨p2, dx2, _, rfl, j1, p2, ts, kk, cs, rs, rfl, hA2, S, fun H21 s21 => ?_⟩
      have s22 : Same H17 H21 := (s18.trans s20).trans s21
      refine ⟨by show 2 ≤ sizeLine; decide, fun lA hlA => ?_⟩
      have s23 := same_upd (o := .lst [V.str (textOf ts kk cs rs), V.str (textOf ts kk cs rs)]) hlA
      have gA : (upd H21 lA (.lst [V.str (textOf ts kk cs rs), V.str (textOf ts kk cs rs)])) lA = some (.lst [V.str (textOf ts kk cs rs), V.str (textOf ts kk cs rs)]) := upd_same
      have s24 := s22.trans s23
      refine ⟨_, rfl, _, rfl, by show 2 ≤ sizeLine; decide, fun lB hlB => ?_⟩
      change (upd H21 lA (.lst [V.str (textOf ts kk cs rs), V.str (textOf ts kk cs rs)])) lB = none at hlB
      generalize upd H21 lA (.lst [V.str (textOf ts kk cs rs), V.str (textOf ts kk cs rs)]) = H22 at *
      have s25 := same_upd (o := .lst [V.str (textOf ts kk cs rs), V.str (textOf ts kk cs rs)]) hlB
      have gB : (upd H22 lB (.lst [V.str (textOf ts kk cs rs), V.str (textOf ts kk cs rs)])) lB = some (.lst [V.str (textOf ts kk cs rs), V.str (textOf ts kk cs rs)]) := upd_same
      have gA2 := s25 _ _ gA
      have s26 := s24.trans s25
      refine ⟨.ref lA, .ref lB, .list [.str (textOf ts kk cs rs), .str (textOf ts kk cs rs)], rfl, .lst (SqL.of gA2) (.cons (.str _) (.cons (.str _) .nil)), .lst (SqL.of gB) (.cons (.str _) (.cons (.str _) .nil)), ⟨by show 2 ≤ 1000; decide, fun y hy => ?_⟩, fun H27 s27 => ?_⟩
      · simp only [List.mem_cons, List.not_mem_nil, or_false] at hy
        rcases hy with rfl | rfl <;> trivial
      refine ⟨_, rfl, iteF ?_⟩
      have s28 := s26.trans s27
      have s29 := s8.trans s28
      clear s9 s18 s19 s20 s21 s22 s23 s24 s25 s26 s27 gA gA2 gB hlA hlB hA hA2 j1 hp2 s8
      have g1' := s28 _ _ g1
      -- all parts
      refine ⟨_, rfl, p, CH, dx, _, _, rfl, g1', TL'.cl, TL'.nT, hf_tables _ _ _ _, _, rfl, p, CH, dx, _, _, rfl, g1', TL'.cl, TL'.nK, hf_keys _ _ _ _, _, rfl, p, CH, dx, _, _, rfl, g1', TL'.cl, TL'.nC, hf_careful _ _ _ _,
        _, rfl, p, CH, dx, _, _, rfl, g1', TL'.cl, TL'.nR, hf_rem _ _ _ _, by show 4 ≤ sizeLine; decide, fun lA hlA => ?_⟩
      have s30 := same_upd (o := .lst [V.ref bT, V.int kk, V.ref bC, V.ref bR]) hlA
      have gA : (upd H27 lA (.lst [V.ref bT, V.int kk, V.ref bC, V.ref bR])) lA = some (.lst [V.ref bT, V.int kk, V.ref bC, V.ref bR]) := upd_same
      have s31 := s28.trans s30
      have s32 := s29.trans s30
      generalize upd H27 lA (.lst [V.ref bT, V.int kk, V.ref bC, V.ref bR]) = H33 at s30 gA s31 s32
      clear s30 s28 s29 hlA
      refine ⟨_, rfl, pa, _, rfl, .inr (SqT.of (s32 _ _ e1)), fun lB hlB => ?_⟩
      have s33 := same_upd (o := .lst [V.ref aT, V.int kk, V.ref aC, V.ref aR]) hlB
      have gB : (upd H33 lB (.lst [V.ref aT, V.int kk, V.ref aC, V.ref aR])) lB = some (.lst [V.ref aT, V.int kk, V.ref aC, V.ref aR]) := upd_same
      have gA2 := s33 _ _ gA
      have s34 := s31.trans s33
      have s35 := s32.trans s33
      generalize upd H33 lB (.lst [V.ref aT, V.int kk, V.ref aC, V.ref aR]) = H34 at s33 gA2 gB s34 s35
      clear s31 s32 s33 gA hlB
      refine ⟨.ref lA, .ref lB, .list [dStrs ts, .int kk, dInts cs, dPrs rs], rfl,
        .lst (SqL.of gA2) (.cons (.tup (sSqT s34 g2) (dpAll_strs ts)) (.cons (.int _) (.cons (.tup (sSqT s34 g3) (dpAll_ints _)) (.cons (.tup (sSqT s34 g4) (dpAll_prs (g5.mono fun t ys h => s34 _ _ h))) .nil)))),
        .lst (SqL.of gB) (.cons (.tup (SqT.of (s35 _ _ e2)) (dpAll_strs ts)) (.cons (.int _) (.cons (.tup (SqT.of (s35 _ _ e3)) (dpAll_ints _)) (.cons (.tup (SqT.of (s35 _ _ e4)) (dpAll_prs (e5.mono fun t ys h => s35 _ _ h))) .nil)))),
        flat_parts hPP, fun H36 s36 => ?_⟩
      refine ⟨_, rfl, iteF ?_⟩
      have s37 := s35.trans s36
      exact ⟨st3, _, _, _, _, _, _, _, _, _, rfl, k13.trans (sKp s37), s37 _ _ hd3, hg3⟩
    · rintro σ H2 ⟨st2, v2, v3, v4, v5, v6, v7, v8, v9, v10, rfl, k2, hd2, hg2⟩
      exact k _
end
end Dk

set_option Elab.async false
set_option linter.all false
set_option maxRecDepth 100000
set_option maxHeartbeats 4000000
namespace Dk
open PySem PySem.Spec PyProof.Rows L2 TL
/-! ### what the top has written -/
structure FnAt (K : PySem.W.Frag) (x : Str) (st : Stmt) (f : Addr) (fd : FuncData) : Prop where
  g : PySem.W.nsIn K mainGlobals x = some (some (.ref f))
  F : Fun K x x st f fd
theorem fnAt_mk {K : PySem.W.Frag} {x : Str} {st : Stmt} {f : Addr} {oc : Value} {od an : Option Addr} {osl : Array (Option Value)} {kV doc pm cdv ct : Value} (a : PySem.W.nsIn K mainGlobals x = some (some (.ref f)))
    (l : K.lookup f = some ⟨oc, od, .func (PySem.W.fnOf x x (defArgs st) (defBody st) (defScope st) .none kV doc pm an cdv ct), osl⟩)
    (c : PySem.W.codeIn K cdv x = true) (k : PySem.W.keepIn K (.ref f) = true) : FnAt K x st f (PySem.W.fnOf x x (defArgs st) (defBody st) (defScope st) .none kV doc pm an cdv ct) := ⟨a, fun_mk l c k⟩
/-- an error of the program's own -/
structure ErrAt (K : PySem.W.Frag) (x q : Str) (st : Stmt) (C f : Addr) (fd : FuncData) : Prop where
  g : PySem.W.nsIn K mainGlobals x = some (some (.ref C))
  O : OexC K C
  i : PySem.W.findIn K (.ref C) "__init__" = some (some (.ref f))
  t : PySem.W.typeIn K (.ref f) = some (.type "function")
  F : Fun K "__init__" q st f fd
theorem errAt_mk {K : PySem.W.Frag} {x q : Str} {st : Stmt} {C C0 f : Addr} {nm qn : Str} {N : Addr} {bs : List Value} {sn : List Str} {sub : List Value} {ab : Bool} {col : Option Bool} {dd : Option Addr} {m0 m1 m2 m3 m5 : Option Value}
    {oc : Value} {od an : Option Addr} {osl : Array (Option Value)} {kV doc pm cdv ct : Value}
    (a : PySem.W.nsIn K mainGlobals x = some (some (.ref C)))
    (xL : K.lookup C = some (excClassObj nm qn C N bs [.ref C0, .type "ValueError", .type "Exception", .type "BaseException", .type "object"] true sn sub ab col dd m0 m1 m2 m3 m5 "ValueError.__new__"))
    (sa : PySem.W.findIn K (.ref C) "__setattr__" = some (some (.builtin "object.__setattr__"))) (eC : PySem.W.subIn K (.ref C) (.type "BaseException") = some true) (tC : PySem.W.typeIn K (.ref C) = some (.type "type")) (kC : PySem.W.keepIn K (.ref C) = true)
    (i : PySem.W.findIn K (.ref C) "__init__" = some (some (.ref f))) (t : PySem.W.typeIn K (.ref f) = some (.type "function"))
    (l : K.lookup f = some ⟨oc, od, .func (PySem.W.fnOf "__init__" q (defArgs st) (defBody st) (defScope st) .none kV doc pm an cdv ct), osl⟩)
    (c : PySem.W.codeIn K cdv q = true) (k : PySem.W.keepIn K (.ref f) = true) : ErrAt K x q st C f (PySem.W.fnOf "__init__" q (defArgs st) (defBody st) (defScope st) .none kV doc pm an cdv ct) :=
  ⟨a, ⟨⟨nm, qn, N, bs, _, sn, sub, ab, col, dd, m0, m1, m2, m3, m5, xL, (by decide +kernel : PySem.HandSPX.refsVE [.type "ValueError", .type "Exception", .type "BaseException", .type "object"] = true)⟩, sa, eC, tC, kC⟩, i, t, fun_mk l c k⟩
/-- a tuple of texts or numbers among the globals -/
def TupAt (K : PySem.W.Frag) (x : Str) (xs : List V) : Prop := ∃ a, PySem.W.nsIn K mainGlobals x = some (some (.ref a)) ∧ SqT K (fun _ => none) a xs
theorem tupAt_mk {K : PySem.W.Frag} {x : Str} {xs : List V} {a : Addr} {od : Option Addr} {osl : Array (Option Value)} {its : Array Value} {n : Nat} (g : PySem.W.nsIn K mainGlobals x = some (some (.ref a)))
    (l : K.lookup a = some ⟨.type "tuple", od, .seq its n, osl⟩) (z : its.size ≤ sizeLine) (v : Vals xs its.toList) : TupAt K x xs := ⟨a, g, .inr ⟨_, its, n, l, rfl, rfl, z, v⟩⟩
def IntAt (K : PySem.W.Frag) (x : Str) (i : Int) : Prop := ∃ t, PySem.W.nsIn K mainGlobals x = some (some (.int i t))
theorem intAt_mk {K : PySem.W.Frag} {x : Str} {i : Int} {t : Nat} (g : PySem.W.nsIn K mainGlobals x = some (some (.int i t))) : IntAt K x i := ⟨t, g⟩
def StrAt (K : PySem.W.Frag) (x : Str) (i : Str) : Prop := ∃ t, PySem.W.nsIn K mainGlobals x = some (some (.str i t))
theorem strAt_mk {K : PySem.W.Frag} {x : Str} {i : Str} {t : Nat} (g : PySem.W.nsIn K mainGlobals x = some (some (.str i t))) : StrAt K x i := ⟨t, g⟩
/-- the class of houses -/
structure HouAt (K : PySem.W.Frag) (CH : Addr) (mc : Value) (fH gP pP gT pT : Addr) (fdH fdP fdT : FuncData) (dvs : List V) : Prop where
  g : PySem.W.nsIn K mainGlobals "House" = some (some (.ref CH))
  cl : Cls K CH
  nT : NoAttr K CH "tables"
  nK : NoAttr K CH "key_count"
  nC : NoAttr K CH "careful"
  nR : NoAttr K CH "reminders"
  M : Mk K CH fH
  FH : FunD K "__init__" "House.__init__" (defArgs sInit) (defBody sInit) (defScope sInit) dvs [] fH fdH
  two : dvs.length = 2
  rd : ClX.CRead K CH mc
  cm : ClX.CMet K CH mc "parse" pP gP
  FP : Fun K "parse" "House.parse" sParse gP fdP
  po : PropOf K CH "text" pT gT
  FT : Fun K "text" "House.text" sText gT fdT
theorem houAt_mk {K : PySem.W.Frag} {CH : Addr} {fH gP pP gT pT T e1 e2 : Addr} {ocH dcH pmH cdH ctH kVH ocT ocP kVP dcP pmP cdP ctP ocX kVX dcX pmX cdX ctX : Value} {odH anH odT odP anP odX anX : Option Addr} {slH slT slP slX : Array (Option Value)} {nT : Nat} {rp rt : List Value}
    (g : PySem.W.nsIn K mainGlobals "House" = some (some (.ref CH)))
    (pg : PySem.W.plainGet K CH Str.empty = true) (hd : PySem.W.hasDictIn K CH = true) (po : PySem.W.plainOver K CH = true) (sa : PySem.W.findIn K (.ref CH) "__setattr__" = some (some (.builtin "object.__setattr__")))
    (n1 : PySem.W.findIn K (.ref CH) "tables" = some none) (n2 : PySem.W.findIn K (.ref CH) "key_count" = some none) (n3 : PySem.W.findIn K (.ref CH) "careful" = some none) (n4 : PySem.W.findIn K (.ref CH) "reminders" = some none)
    (mk : PySem.W.makesIn K CH = true) (i : PySem.W.findIn K (.ref CH) "__init__" = some (some (.ref fH))) (fn : PySem.W.isFn K (.ref fH) = true) (kc : PySem.W.keepIn K (.ref CH) = true)
    (lH : K.lookup fH = some ⟨ocH, odH, .func (PySem.W.fnOf "__init__" "House.__init__" (defArgs sInit) (defBody sInit) (defScope sInit) (.ref T) kVH dcH pmH anH cdH ctH), slH⟩) (cH : PySem.W.codeIn K cdH "House.__init__" = true) (kH : PySem.W.keepIn K (.ref fH) = true)
    (lT : K.lookup T = some ⟨ocT, odT, .seq #[.ref e1, .ref e2] nT, slT⟩)
    (rd : PySem.W.readsIn K CH (.type "type") = true) (ga : PySem.W.specialIn K (.ref CH) "__getattribute__" = some (some (.builtin "type.__getattribute__")))
    (cmA : PySem.W.findCls K (.ref CH) (.type "type") "parse" = some (.get (.builtin "classmethod.__get__") (.ref pP) .none (.ref CH))) (cmR : PySem.W.recIn K pP "classmethod" = some (.ref gP :: rp)) (cmF : PySem.W.fnIn K gP = true)
    (lP : K.lookup gP = some ⟨ocP, odP, .func (PySem.W.fnOf "parse" "House.parse" (defArgs sParse) (defBody sParse) (defScope sParse) .none kVP dcP pmP anP cdP ctP), slP⟩) (cP : PySem.W.codeIn K cdP "House.parse" = true) (kP : PySem.W.keepIn K (.ref gP) = true)
    (pA : PySem.W.findIn K (.ref CH) "text" = some (some (.ref pT))) (pG : PySem.W.specialIn K (.ref pT) "__get__" = some (some (.builtin "property.__get__"))) (pK : PySem.W.takesIn K (.ref pT) = some true) (pR : PySem.W.recIn K pT "property" = some (.ref gT :: rt))
    (lX : K.lookup gT = some ⟨ocX, odX, .func (PySem.W.fnOf "text" "House.text" (defArgs sText) (defBody sText) (defScope sText) .none kVX dcX pmX anX cdX ctX), slX⟩) (cX : PySem.W.codeIn K cdX "House.text" = true) (kX : PySem.W.keepIn K (.ref gT) = true) :
    HouAt K CH (.type "type") fH gP pP gT pT (PySem.W.fnOf "__init__" "House.__init__" (defArgs sInit) (defBody sInit) (defScope sInit) (.ref T) kVH dcH pmH anH cdH ctH) (PySem.W.fnOf "parse" "House.parse" (defArgs sParse) (defBody sParse) (defScope sParse) .none kVP dcP pmP anP cdP ctP) (PySem.W.fnOf "text" "House.text" (defArgs sText) (defBody sText) (defScope sText) .none kVX dcX pmX anX cdX ctX) [.ref e1, .ref e2] :=
  ⟨g, ⟨pg, hd, po, sa⟩, n1, n2, n3, n4, ⟨mk, i, fn, kc⟩, ⟨⟨ocH, odH, _, _, _, _, _, _, _, _, rfl, lH, cH, .inr ⟨by simp, T, _, [.ref e1, .ref e2], nT, rfl, lT, rfl, .cons rfl (.cons rfl .nil)⟩, .inl rfl⟩, kH⟩, rfl,
    ⟨rd, ga⟩, ⟨cmA, ⟨_, cmR⟩, cmF⟩, fun_mk lP cP kP, ⟨pA, pG, pK, ⟨_, pR⟩⟩, fun_mk lX cX kX⟩
theorem all_mk {l : PySem.W.OpenLaw} {w : World} {K : PySem.W.Frag} {h : Heap} {mg : Str → Option Value} {fa : Addr} (X : K.In h) (G : h.Ns mainGlobals mg) (hfa : mg "law" = some (.ref fa))
    {f_ii f_ib f_pe f_ct f_ck f_cc f_cr f_it f_ir f_as f_ho f_sp f_aa f_tw f_nw f_rw f_rn f_rr f_kl f_cl f_rl f_ra f_be f_ta f_le f_pa f_eq f_hs f_lw C_i f_i C_t f_t CH fH gP pP gT pT : Addr} {d_ii d_ib d_pe d_ct d_ck d_cc d_cr d_it d_ir d_as d_ho d_sp d_aa d_tw d_nw d_rw d_rn d_rr d_kl d_cl d_rl d_ra d_be d_ta d_le d_pa d_eq d_hs d_lw d_i d_t d_h d_p d_x : FuncData} {mc : Value} {dvs : List V}
    (h_ii : FnAt K "is_integer" sIsInt f_ii d_ii) (h_ib : FnAt K "is_below" sIsBelow f_ib d_ib) (h_pe : FnAt K "common_period" sPeriod f_pe d_pe) (h_ct : FnAt K "check_tables" sChkTables f_ct d_ct) (h_ck : FnAt K "check_keys" sChkKeys f_ck d_ck) (h_cc : FnAt K "check_careful" sChkCareful f_cc d_cc) (h_cr : FnAt K "check_reminders" sChkRem f_cr d_cr) (h_it : FnAt K "is_table" sIsTable f_it d_it) (h_ir : FnAt K "is_reminder" sIsRem f_ir d_ir) (h_as : FnAt K "is_ascending_at" sAsc f_as d_as) (h_ho : FnAt K "has_only" sHasOnly f_ho d_ho) (h_sp : FnAt K "split_text" sSplit f_sp d_sp) (h_aa : FnAt K "are_arguments" sAreArgs f_aa d_aa) (h_tw : FnAt K "is_table_word" sIsTW f_tw d_tw) (h_nw : FnAt K "is_number_word" sIsNW f_nw d_nw) (h_rw : FnAt K "is_reminder_word" sIsRW f_rw d_rw) (h_rn : FnAt K "read_numbers" sReadNs f_rn d_rn) (h_rr : FnAt K "read_reminders" sReadRs f_rr d_rr) (h_kl : FnAt K "keys_line" sKeysL f_kl d_kl) (h_cl : FnAt K "careful_line" sCarL f_cl d_cl) (h_rl : FnAt K "remind_line" sRemL f_rl d_rl) (h_ra : FnAt K "_law_random" sRandom f_ra d_ra) (h_be : FnAt K "_law_below" sBelow f_be d_be) (h_ta : FnAt K "_law_table" sTable f_ta d_ta) (h_le : FnAt K "_law_length" sLength f_le d_le) (h_pa : FnAt K "_law_parts" sParts f_pa d_pa) (h_eq : FnAt K "_law_equal" sEqual f_eq d_eq) (h_hs : FnAt K "_law_house" sHouseF f_hs d_hs) (h_lw : FnAt K "law" sLaw f_lw d_lw)
    (e_i : ErrAt K "InvalidHouse" "InvalidHouse.__init__" sIHInit C_i f_i d_i) (np : PySem.W.findIn K (.ref C_i) "part" = some none) (ni : PySem.W.findIn K (.ref C_i) "index" = some none)
    (e_t : ErrAt K "TextFault" "TextFault.__init__" sTFInit C_t f_t d_t) (nl : PySem.W.findIn K (.ref C_t) "line" = some none)
    (hh : HouAt K CH mc fH gP pP gT pT d_h d_p d_x dvs)
    (c1 : TupAt K "TABLE_LENGTHS" (tabLens.map V.int)) (c2 : TupAt K "LINE_WORDS" (lineWords.map V.str)) (c3 : IntAt K "MOST_PERSONS" 6) (c4 : IntAt K "MOST_KEYS" 9) (c5 : IntAt K "MOST_REMINDERS" 10) (c6 : StrAt K "LETTERS" hoS) (c7 : StrAt K "DIGITS" digS)
    (zl : PySem.W.nsIn K mainGlobals "lcm" = some (some (.builtin "math.lcm")))
    (z_abs : PySem.W.nsIn K mainGlobals "abs" = some none) (z_len : PySem.W.nsIn K mainGlobals "len" = some none) (z_range : PySem.W.nsIn K mainGlobals "range" = some none) (z_tuple : PySem.W.nsIn K mainGlobals "tuple" = some none) (z_sorted : PySem.W.nsIn K mainGlobals "sorted" = some none) (z_enumerate : PySem.W.nsIn K mainGlobals "enumerate" = some none) (z_isinstance : PySem.W.nsIn K mainGlobals "isinstance" = some none) (z_int : PySem.W.nsIn K mainGlobals "int" = some none) (z_bool : PySem.W.nsIn K mainGlobals "bool" = some none) (z_str : PySem.W.nsIn K mainGlobals "str" = some none) (z_all : PySem.W.nsIn K mainGlobals "all" = some none) (z_list : PySem.W.nsIn K mainGlobals "list" = some none) :
    ∃ fd : FuncData, (∀ (s : Shared) (v : Value), BindsTo s fd ⟨[v], []⟩ [("_law_script", v)]) ∧ ∀ base : Heap, K.In base → base.Ns mainGlobals mg → FnOk l.prog w K mg base CX0 8 fa fd ["_law_script"] (spLaw K) := by
  have e := hfa.symm.trans (PySem.W.mg_of X G h_lw.g)
  cases e
  have g_ii := PySem.W.mg_of X G h_ii.g
  have b_ii := h_ii.F.binds (ps := ["value"]) fun _ _ _ _ _ _ us hl => match us, hl with | [_], _ => rfl
  have g_ib := PySem.W.mg_of X G h_ib.g
  have b_ib := h_ib.F.binds (ps := ["value", "limit"]) fun _ _ _ _ _ _ us hl => match us, hl with | [_, _], _ => rfl
  have g_pe := PySem.W.mg_of X G h_pe.g
  have b_pe := h_pe.F.binds (ps := ["tables"]) fun _ _ _ _ _ _ us hl => match us, hl with | [_], _ => rfl
  have g_ct := PySem.W.mg_of X G h_ct.g
  have b_ct := h_ct.F.binds (ps := ["tables"]) fun _ _ _ _ _ _ us hl => match us, hl with | [_], _ => rfl
  have g_ck := PySem.W.mg_of X G h_ck.g
  have b_ck := h_ck.F.binds (ps := ["keys"]) fun _ _ _ _ _ _ us hl => match us, hl with | [_], _ => rfl
  have g_cc := PySem.W.mg_of X G h_cc.g
  have b_cc := h_cc.F.binds (ps := ["careful", "persons"]) fun _ _ _ _ _ _ us hl => match us, hl with | [_, _], _ => rfl
  have g_cr := PySem.W.mg_of X G h_cr.g
  have b_cr := h_cr.F.binds (ps := ["reminders", "period", "persons"]) fun _ _ _ _ _ _ us hl => match us, hl with | [_, _, _], _ => rfl
  have g_it := PySem.W.mg_of X G h_it.g
  have b_it := h_it.F.binds (ps := ["table"]) fun _ _ _ _ _ _ us hl => match us, hl with | [_], _ => rfl
  have g_ir := PySem.W.mg_of X G h_ir.g
  have b_ir := h_ir.F.binds (ps := ["reminder", "period", "persons"]) fun _ _ _ _ _ _ us hl => match us, hl with | [_, _, _], _ => rfl
  have g_as := PySem.W.mg_of X G h_as.g
  have b_as := h_as.F.binds (ps := ["items", "index"]) fun _ _ _ _ _ _ us hl => match us, hl with | [_, _], _ => rfl
  have g_ho := PySem.W.mg_of X G h_ho.g
  have b_ho := h_ho.F.binds (ps := ["word", "characters"]) fun _ _ _ _ _ _ us hl => match us, hl with | [_, _], _ => rfl
  have g_sp := PySem.W.mg_of X G h_sp.g
  have b_sp := h_sp.F.binds (ps := ["text"]) fun _ _ _ _ _ _ us hl => match us, hl with | [_], _ => rfl
  have g_aa := PySem.W.mg_of X G h_aa.g
  have b_aa := h_aa.F.binds (ps := ["word", "rest"]) fun _ _ _ _ _ _ us hl => match us, hl with | [_, _], _ => rfl
  have g_tw := PySem.W.mg_of X G h_tw.g
  have b_tw := h_tw.F.binds (ps := ["word"]) fun _ _ _ _ _ _ us hl => match us, hl with | [_], _ => rfl
  have g_nw := PySem.W.mg_of X G h_nw.g
  have b_nw := h_nw.F.binds (ps := ["word"]) fun _ _ _ _ _ _ us hl => match us, hl with | [_], _ => rfl
  have g_rw := PySem.W.mg_of X G h_rw.g
  have b_rw := h_rw.F.binds (ps := ["word"]) fun _ _ _ _ _ _ us hl => match us, hl with | [_], _ => rfl
  have g_rn := PySem.W.mg_of X G h_rn.g
  have b_rn := h_rn.F.binds (ps := ["words"]) fun _ _ _ _ _ _ us hl => match us, hl with | [_], _ => rfl
  have g_rr := PySem.W.mg_of X G h_rr.g
  have b_rr := h_rr.F.binds (ps := ["words"]) fun _ _ _ _ _ _ us hl => match us, hl with | [_], _ => rfl
  have g_kl := PySem.W.mg_of X G h_kl.g
  have b_kl := h_kl.F.binds (ps := ["keys"]) fun _ _ _ _ _ _ us hl => match us, hl with | [_], _ => rfl
  have g_cl := PySem.W.mg_of X G h_cl.g
  have b_cl := h_cl.F.binds (ps := ["careful"]) fun _ _ _ _ _ _ us hl => match us, hl with | [_], _ => rfl
  have g_rl := PySem.W.mg_of X G h_rl.g
  have b_rl := h_rl.F.binds (ps := ["reminders"]) fun _ _ _ _ _ _ us hl => match us, hl with | [_], _ => rfl
  have g_ra := PySem.W.mg_of X G h_ra.g
  have b_ra := h_ra.F.binds (ps := ["_law_script", "_law_salt"]) fun _ _ _ _ _ _ us hl => match us, hl with | [_, _], _ => rfl
  have g_be := PySem.W.mg_of X G h_be.g
  have b_be := h_be.F.binds (ps := ["_law_d", "_law_limit"]) fun _ _ _ _ _ _ us hl => match us, hl with | [_, _], _ => rfl
  have g_ta := PySem.W.mg_of X G h_ta.g
  have b_ta := h_ta.F.binds (ps := ["_law_d"]) fun _ _ _ _ _ _ us hl => match us, hl with | [_], _ => rfl
  have g_le := PySem.W.mg_of X G h_le.g
  have b_le := h_le.F.binds (ps := ["_law_tables"]) fun _ _ _ _ _ _ us hl => match us, hl with | [_], _ => rfl
  have g_pa := PySem.W.mg_of X G h_pa.g
  have b_pa := h_pa.F.binds (ps := ["_law_d", "_law_most"]) fun _ _ _ _ _ _ us hl => match us, hl with | [_, _], _ => rfl
  have g_eq := PySem.W.mg_of X G h_eq.g
  have b_eq := h_eq.F.binds (ps := ["_law_actual", "_law_expected"]) fun _ _ _ _ _ _ us hl => match us, hl with | [_, _], _ => rfl
  have g_hs := PySem.W.mg_of X G h_hs.g
  have b_hs := h_hs.F.binds (ps := ["_law_parts_here"]) fun _ _ _ _ _ _ us hl => match us, hl with | [_], _ => rfl
  have y_abs := PySem.W.mg_none_of X G z_abs
  have y_len := PySem.W.mg_none_of X G z_len
  have y_range := PySem.W.mg_none_of X G z_range
  have y_tuple := PySem.W.mg_none_of X G z_tuple
  have y_sorted := PySem.W.mg_none_of X G z_sorted
  have y_enumerate := PySem.W.mg_none_of X G z_enumerate
  have y_isinstance := PySem.W.mg_none_of X G z_isinstance
  have y_int := PySem.W.mg_none_of X G z_int
  have y_bool := PySem.W.mg_none_of X G z_bool
  have y_str := PySem.W.mg_none_of X G z_str
  have y_all := PySem.W.mg_none_of X G z_all
  have y_list := PySem.W.mg_none_of X G z_list
  have b_i := e_i.F.binds (ps := ["self", "part", "index"]) fun _ _ _ _ _ _ us hl => match us, hl with | [_, _, _], _ => rfl
  have b_t := e_t.F.binds (ps := ["self", "line"]) fun _ _ _ _ _ _ us hl => match us, hl with | [_, _], _ => rfl
  have b_p := hh.FP.binds (ps := ["cls", "text"]) fun _ _ _ _ _ _ us hl => match us, hl with | [_, _], _ => rfl
  have b_x := hh.FT.binds (ps := ["self"]) fun _ _ _ _ _ _ us hl => match us, hl with | [_], _ => rfl
  have b_h : Binds K d_h ["self", "tables", "keys", "careful", "reminders"] [] := by
    have hq := hh.FH.binds1 (ps := ["self", "tables", "keys", "careful", "reminders"]) 5 2 (fun q => by have := hh.two; rw [q] at this; cases this) (by rw [hh.two]; rfl)
      (fun T kV doc pm an cdv ct us its hl hi => by
        rw [hh.two] at hi
        match us, hl, its, hi with
        | [_, _, _, _, _], _, [_, _], _ => exact ⟨_, rfl, rfl⟩)
    obtain ⟨ds, hv, hb⟩ := hq
    rw [show dvs.drop 2 = [] from List.drop_of_length_le (by rw [hh.two]; exact Nat.le_refl _)] at hv
    cases hv
    exact hb
  obtain ⟨a1, g1, q1⟩ := c1
  obtain ⟨a2, g2, q2⟩ := c2
  obtain ⟨t3, g3⟩ := c3
  obtain ⟨t4, g4⟩ := c4
  obtain ⟨t5, g5⟩ := c5
  obtain ⟨t6, g6⟩ := c6
  obtain ⟨t7, g7⟩ := c7
  have TA : TxtA mg := { abs := y_abs, len := y_len, range := y_range }
  have TB : TxtB K mg f_be d_be := { g := g_be, F := h_be.F, b := b_be }
  have TD : TxtD K mg f_ta f_le d_ta d_le := { gT := g_ta, FT := h_ta.F, bT := b_ta, gL := g_le, FL := h_le.F, bL := b_le, tuple := y_tuple, sorted := y_sorted }
  have TC : TxtC mg := { lcm := PySem.W.mg_of X G zl }
  have TF : TxtF K mg f_ii f_ib f_ho d_ii d_ib d_ho := { isinstance := y_isinstance, int := y_int, bool := y_bool, str := y_str, tuple := y_tuple, all := y_all, gII := g_ii, FII := h_ii.F, bII := b_ii, gIB := g_ib, FIB := h_ib.F, bIB := b_ib, gHO := g_ho, FHO := h_ho.F, bHO := b_ho, letters := ⟨t6, PySem.W.mg_of X G g6⟩, lengths := ⟨a1, PySem.W.mg_of X G g1, q1⟩ }
  have TI : TxtI K mg f_it f_ir f_as d_it d_ir d_as := { enumerate := y_enumerate, most := ⟨t3, PySem.W.mg_of X G g3⟩, keys := ⟨t4, PySem.W.mg_of X G g4⟩, rems := ⟨t5, PySem.W.mg_of X G g5⟩, gIT := g_it, FIT := h_it.F, bIT := b_it, gIR := g_ir, FIR := h_ir.F, bIR := b_ir, gAs := g_as, FAs := h_as.F, bAs := b_as }
  have TH : TxtIH K mg C_i f_i d_i := { gC := PySem.W.mg_of X G e_i.g, O := e_i.O, iC := e_i.i, tI := e_i.t, F := e_i.F, b := b_i, nP := np, nI := ni }
  have TT : TxtTF K mg C_t f_t d_t := { gC := PySem.W.mg_of X G e_t.g, O := e_t.O, iC := e_t.i, tI := e_t.t, F := e_t.F, b := b_t, nL := nl }
  have TL' : TxtL K mg CH f_pe f_ct f_ck f_cc f_cr d_pe d_ct d_ck d_cc d_cr := { cl := hh.cl, nT := hh.nT, nK := hh.nK, nC := hh.nC, nR := hh.nR, gP := g_pe, FP := h_pe.F, bP := b_pe, gT := g_ct, FT := h_ct.F, bT := b_ct, gK := g_ck, FK := h_ck.F, bK := b_ck, gCa := g_cc, FC := h_cc.F, bC := b_cc, gR := g_cr, FR := h_cr.F, bR := b_cr }
  have TM : TxtM K mg f_tw f_nw f_rw d_tw d_nw d_rw := { digits := ⟨t7, PySem.W.mg_of X G g7⟩, gTW := g_tw, FTW := h_tw.F, bTW := b_tw, gNW := g_nw, FNW := h_nw.F, bNW := b_nw, gRW := g_rw, FRW := h_rw.F, bRW := b_rw }
  have TO : TxtO K mg f_aa d_aa := { gAA := g_aa, FAA := h_aa.F, bAA := b_aa, words := ⟨a2, PySem.W.mg_of X G g2, q2⟩ }
  have TS : TxtT K mg f_sp f_rr d_sp d_rr := { gS := g_sp, FS := h_sp.F, bS := b_sp, gRR := g_rr, FRR := h_rr.F, bRR := b_rr, rn := ⟨_, _, g_rn, h_rn.F, b_rn⟩ }
  have TW : TxtW K mg CH mc f_ra f_pa f_eq f_hs pP gP pT gT d_ra d_pa d_eq d_hs d_p d_x := { gRa := g_ra, FRa := h_ra.F, bRa := b_ra, gPa := g_pa, FPa := h_pa.F, bPa := b_pa, gEq := g_eq, FEq := h_eq.F, bEq := b_eq, gHo := g_hs, FHo := h_hs.F, bHo := b_hs, rd := hh.rd, cm := hh.cm, FP := hh.FP, bP := b_p, po := hh.po, FT := hh.FT, bT := b_x, list := y_list, ln := { kl := ⟨_, _, g_kl, h_kl.F, b_kl⟩, cl := ⟨_, _, g_cl, h_cl.F, b_cl⟩, rl := ⟨_, _, g_rl, h_rl.F, b_rl⟩, str := y_str } }
  refine ⟨d_lw, fun s v => ?_, fun base _ _ => ok_law h_lw.F TA TB TD TC TF TI TH TL' TM TT TO TS hh.FH b_h hh.M (PySem.W.mg_of X G hh.g) TW⟩
  obtain ⟨oc, od, kV, doc, pm, an, cdv, ct, osl, rfl, lk, hcd⟩ := h_lw.F.ex
  exact .of_eq rfl
end Dk
open PySem PySem.W PyProof.Rows
set_option Elab.async false
set_option maxRecDepth 100000 in
set_option maxHeartbeats 0 in
open_top hd for PySem.Challenge.rw_doorkeys_k14_texts_of_houses
set_option Elab.async false
set_option linter.all false
open PySem PySem.W PyProof.Rows
set_option maxRecDepth 100000 in
set_option maxHeartbeats 0 in
theorem PySem.Challenge.cw_doorkeys_k14_texts_of_houses_holds : PySem.Challenge.rw_doorkeys_k14_texts_of_houses.Holds :=
  hd (by
  k_fill
  refine L2.walk_ofK (l := PySem.Challenge.rw_doorkeys_k14_texts_of_houses) (n := 63) (k := 8) (x := "_law_script") (CX := L2.CX0) (sp := Dk.spLaw) rfl (by decide) rfl ⟨rfl, by decide, by decide⟩ (fun w h Y => PySem.W.kIn_of Y) ?F (fun _ _ a ns hl _ hS => ⟨a, ns, rfl, hS, hl, fun _ => rfl⟩) fun _ _ _ _ z => z
  case F =>
    intro w mg fa h KX G hmg
    refine' Dk.all_mk KX G hmg ?h_ii ?h_ib ?h_pe ?h_ct ?h_ck ?h_cc ?h_cr ?h_it ?h_ir ?h_as ?h_ho ?h_sp ?h_aa ?h_tw ?h_nw ?h_rw ?h_rn ?h_rr ?h_kl ?h_cl ?h_rl ?h_ra ?h_be ?h_ta ?h_le ?h_pa ?h_eq ?h_hs ?h_lw ?e_i ?np ?ni ?e_t ?nl ?hh ?c1 ?c2 ?c3 ?c4 ?c5 ?c6 ?c7 ?zl ?z_abs ?z_len ?z_range ?z_tuple ?z_sorted ?z_enumerate ?z_isinstance ?z_int ?z_bool ?z_str ?z_all ?z_list
    (case h_ii => refine' Dk.fnAt_mk ?a ?l ?c ?k; (case a => k_is); (case l => k_is); (case c => k_is); (case k => k_is))
    (case h_ib => refine' Dk.fnAt_mk ?a ?l ?c ?k; (case a => k_is); (case l => k_is); (case c => k_is); (case k => k_is))
    (case h_pe => refine' Dk.fnAt_mk ?a ?l ?c ?k; (case a => k_is); (case l => k_is); (case c => k_is); (case k => k_is))
    (case h_ct => refine' Dk.fnAt_mk ?a ?l ?c ?k; (case a => k_is); (case l => k_is); (case c => k_is); (case k => k_is))
    (case h_ck => refine' Dk.fnAt_mk ?a ?l ?c ?k; (case a => k_is); (case l => k_is); (case c => k_is); (case k => k_is))
    (case h_cc => refine' Dk.fnAt_mk ?a ?l ?c ?k; (case a => k_is); (case l => k_is); (case c => k_is); (case k => k_is))
    (case h_cr => refine' Dk.fnAt_mk ?a ?l ?c ?k; (case a => k_is); (case l => k_is); (case c => k_is); (case k => k_is))
    (case h_it => refine' Dk.fnAt_mk ?a ?l ?c ?k; (case a => k_is); (case l => k_is); (case c => k_is); (case k => k_is))
    (case h_ir => refine' Dk.fnAt_mk ?a ?l ?c ?k; (case a => k_is); (case l => k_is); (case c => k_is); (case k => k_is))
    (case h_as => refine' Dk.fnAt_mk ?a ?l ?c ?k; (case a => k_is); (case l => k_is); (case c => k_is); (case k => k_is))
    (case h_ho => refine' Dk.fnAt_mk ?a ?l ?c ?k; (case a => k_is); (case l => k_is); (case c => k_is); (case k => k_is))
    (case h_sp => refine' Dk.fnAt_mk ?a ?l ?c ?k; (case a => k_is); (case l => k_is); (case c => k_is); (case k => k_is))
    (case h_aa => refine' Dk.fnAt_mk ?a ?l ?c ?k; (case a => k_is); (case l => k_is); (case c => k_is); (case k => k_is))
    (case h_tw => refine' Dk.fnAt_mk ?a ?l ?c ?k; (case a => k_is); (case l => k_is); (case c => k_is); (case k => k_is))
    (case h_nw => refine' Dk.fnAt_mk ?a ?l ?c ?k; (case a => k_is); (case l => k_is); (case c => k_is); (case k => k_is))
    (case h_rw => refine' Dk.fnAt_mk ?a ?l ?c ?k; (case a => k_is); (case l => k_is); (case c => k_is); (case k => k_is))
    (case h_rn => refine' Dk.fnAt_mk ?a ?l ?c ?k; (case a => k_is); (case l => k_is); (case c => k_is); (case k => k_is))
    (case h_rr => refine' Dk.fnAt_mk ?a ?l ?c ?k; (case a => k_is); (case l => k_is); (case c => k_is); (case k => k_is))
    (case h_kl => refine' Dk.fnAt_mk ?a ?l ?c ?k; (case a => k_is); (case l => k_is); (case c => k_is); (case k => k_is))
    (case h_cl => refine' Dk.fnAt_mk ?a ?l ?c ?k; (case a => k_is); (case l => k_is); (case c => k_is); (case k => k_is))
    (case h_rl => refine' Dk.fnAt_mk ?a ?l ?c ?k; (case a => k_is); (case l => k_is); (case c => k_is); (case k => k_is))
    (case h_ra => refine' Dk.fnAt_mk ?a ?l ?c ?k; (case a => k_is); (case l => k_is); (case c => k_is); (case k => k_is))
    (case h_be => refine' Dk.fnAt_mk ?a ?l ?c ?k; (case a => k_is); (case l => k_is); (case c => k_is); (case k => k_is))
    (case h_ta => refine' Dk.fnAt_mk ?a ?l ?c ?k; (case a => k_is); (case l => k_is); (case c => k_is); (case k => k_is))
    (case h_le => refine' Dk.fnAt_mk ?a ?l ?c ?k; (case a => k_is); (case l => k_is); (case c => k_is); (case k => k_is))
    (case h_pa => refine' Dk.fnAt_mk ?a ?l ?c ?k; (case a => k_is); (case l => k_is); (case c => k_is); (case k => k_is))
    (case h_eq => refine' Dk.fnAt_mk ?a ?l ?c ?k; (case a => k_is); (case l => k_is); (case c => k_is); (case k => k_is))
    (case h_hs => refine' Dk.fnAt_mk ?a ?l ?c ?k; (case a => k_is); (case l => k_is); (case c => k_is); (case k => k_is))
    (case h_lw => refine' Dk.fnAt_mk ?a ?l ?c ?k; (case a => k_is); (case l => k_is); (case c => k_is); (case k => k_is))
    (case e_i => refine' Dk.errAt_mk ?a ?xL ?sa ?eC ?tC ?kC ?i ?t ?l ?c ?k; (case a => k_is); (case xL => k_is); (case sa => k_is); (case eC => k_is); (case tC => k_is); (case kC => k_is); (case i => k_is); (case t => k_is); (case l => k_is); (case c => k_is); (case k => k_is))
    (case np => k_is)
    (case ni => k_is)
    (case e_t => refine' Dk.errAt_mk ?a ?xL ?sa ?eC ?tC ?kC ?i ?t ?l ?c ?k; (case a => k_is); (case xL => k_is); (case sa => k_is); (case eC => k_is); (case tC => k_is); (case kC => k_is); (case i => k_is); (case t => k_is); (case l => k_is); (case c => k_is); (case k => k_is))
    (case nl => k_is)
    (case hh => refine' Dk.houAt_mk ?qg ?qpg ?qhd ?qpo ?qsa ?qn1 ?qn2 ?qn3 ?qn4 ?qmk ?qi ?qfn ?qkc ?qlH ?qcH ?qkH ?qlT ?qrd ?qga ?qcmA ?qcmR ?qcmF ?qlP ?qcP ?qkP ?qpA ?qpG ?qpK ?qpR ?qlX ?qcX ?qkX; (case qg => k_is); (case qpg => k_is); (case qhd => k_is); (case qpo => k_is); (case qsa => k_is); (case qn1 => k_is); (case qn2 => k_is); (case qn3 => k_is); (case qn4 => k_is); (case qmk => k_is); (case qi => k_is); (case qfn => k_is); (case qkc => k_is); (case qlH => k_is); (case qcH => k_is); (case qkH => k_is); (case qlT => k_is); (case qrd => k_is); (case qga => k_is); (case qcmA => k_is); (case qcmR => k_is); (case qcmF => k_is); (case qlP => k_is); (case qcP => k_is); (case qkP => k_is); (case qpA => k_is); (case qpG => k_is); (case qpK => k_is); (case qpR => k_is); (case qlX => k_is); (case qcX => k_is); (case qkX => k_is))
    (case c1 => refine' Dk.tupAt_mk ?a ?b ?z ?v; (case a => k_is); (case b => k_is); (case z => decide); (case v => repeat (first | exact .nil | refine .cons rfl ?_ | refine .cons ⟨_, rfl⟩ ?_)))
    (case c2 => refine' Dk.tupAt_mk ?a ?b ?z ?v; (case a => k_is); (case b => k_is); (case z => decide); (case v => repeat (first | exact .nil | refine .cons rfl ?_ | refine .cons ⟨_, rfl⟩ ?_)))
    (case c3 => refine' Dk.intAt_mk ?a; (case a => k_is))
    (case c4 => refine' Dk.intAt_mk ?a; (case a => k_is))
    (case c5 => refine' Dk.intAt_mk ?a; (case a => k_is))
    (case c6 => refine' Dk.strAt_mk ?a; (case a => k_is))
    (case c7 => refine' Dk.strAt_mk ?a; (case a => k_is))
    (case zl => k_is)
    (case z_abs => k_is)
    (case z_len => k_is)
    (case z_range => k_is)
    (case z_tuple => k_is)
    (case z_sorted => k_is)
    (case z_enumerate => k_is)
    (case z_isinstance => k_is)
    (case z_int => k_is)
    (case z_bool => k_is)
    (case z_str => k_is)
    (case z_all => k_is)
    (case z_list => k_is)
    )
