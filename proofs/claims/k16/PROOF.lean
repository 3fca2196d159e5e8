import PyProof.Rows.All
import Wide.All
import OpenK.AllK
import Wide.FinOn
import HandS.Iter
import HandS.Walk
import KE.GoesEnum
import HandS.List
import HandS.NoneIn
import KE.KUnpackStar
import HandS.Base
import HandS.Call
import HandS.Comp
import HandS.Dict
import HandS.Text
import HandS.More
import HandS.Ends
import HandS.Words
import HandS.Defaults
import HandS.Gcd
import KE.KMathG
import HandS.Deep
import HandS.SortRule
import HandS.IsInst
import HandS.WordsExc
import HandS.ExcInit
import HandS.Star
import HandS.FStr
import HandS.Property
import HandS.ClsMeth
import HandS.Replace
import HandS.Conv
import KE.KNestM
import PySem.Challenge.RW_doorkeys_k16_encoded_houses
set_option Elab.async false
set_option linter.all false
set_option maxRecDepth 100000
set_option maxHeartbeats 4000000
/-! enumerate(tuple) -/
namespace Dk
open PySem PySem.Spec PyProof.Rows L2
theorem meets_enumB {v : Value} {o : Obj} {H : Heap → Prop} (B : Begins v o H) :
    Meets (Builtin.«enumerate.__new__» ⟨[.type "enumerate", v], []⟩) (fun _ R s => H s.heap ∧
      R (.ok (.ret (.ref (s.heap.push o).objs.size))) { s with heap := (s.heap.push o).push { cls := .type "enumerate", data := .fields #[.none, .bool false, .ref s.heap.objs.size, rawInt 0, .none, .none] } }) :=
  .of_wp fun prog w A R s h => by
    obtain ⟨hh, hR⟩ := h
    cases s with
    | mk h0 g0 d0 t0 o0 =>
      have _ := sub_enumerate
      have begin_ {A1 : Around} {E1 Q1 : Value → Shared → Prop} (q : Q1 (.ref h0.objs.size) ⟨h0.push o, g0, d0, t0, o0⟩) : wpAny (model prog w) A1 (pyIter v) Q1 E1 ⟨h0, g0, d0, t0, o0⟩ := B.iter prog w _ _ _ _ hh q
      (wp_walk using begin_); refine wpAny_stack_any fun _ => ?_
      refine wpAny_pure ?_
      split
      next c _ _ _ _ _ => cases (c == Value.type "enumerate") <;> (wp_walk using begin_) <;> exact ⟨_, rfl, hR⟩
      next => (wp_walk using begin_); exact ⟨_, rfl, hR⟩
section
variable {prog : Program} {w : World} {A : Around} {E : Value → Shared → Prop} {s : Shared}
theorem enum_beginsB {v : Value} {o : Obj} {H : Heap → Prop} {Q : Value → Shared → Prop} (B : Begins v o H) (h1 : H s.heap)
    (h : ∀ h', IsEnum h' (s.heap.objs.size + 1) s.heap.objs.size 0 .none → h'.get? s.heap.objs.size = some o → h'.objs.size = s.heap.objs.size + 2 →
      (∀ b o, s.heap.get? b = some o → h'.get? b = some o) → Q (.ref (s.heap.objs.size + 1)) { s with heap := h' }) :
    wpAny (model prog w) A (call (.type "enumerate") [v]) Q E s := by
  refine callType_new F.called_enumerate (by decide) (F.typeCall_enumerate_1 _) (F.newCall_enumerate_1 _) (fun obj => F.args_object_init_2 obj _) F.entry_enumerate_new
    (meets_enumB B) ⟨h1, ?_⟩
  have hzz : (s.heap.push o).objs.size = s.heap.objs.size + 1 := Heap.size_push ..
  show _ ∧ _
  rw [hzz]
  have he : IsEnum ((s.heap.push o).push { cls := .type "enumerate", data := .fields #[.none, .bool false, .ref s.heap.objs.size, rawInt 0, .none, .none] }) (s.heap.objs.size + 1) s.heap.objs.size 0 .none := by
    have := Heap.get?_push_size (s.heap.push o) (o := { cls := .type "enumerate", data := .fields #[.none, .bool false, .ref s.heap.objs.size, rawInt 0, .none, .none] }) rfl
    rw [hzz] at this; exact this
  refine ⟨⟨_, he, rfl⟩, h _ he (Heap.get?_push_of_some _ (Heap.get?_push_size _ B.free)) (by rw [Heap.size_push, hzz]) fun b o x => Heap.get?_push_of_some _ (Heap.get?_push_of_some _ x)⟩
end
/-- the tuple at a, each item in a nw pair -/
def IteT (K : PySem.W.Frag) (a : Addr) : It :=
  ⟨fun i H => ∃ (xs : List V) (x : V), SqT K H a xs ∧ xs[i]? = some x, fun i H v H' => ∃ T x, v = .ref T ∧ H T = none ∧ H' = upd H T (.tup [.int (i : Nat), x]) ∧ ∀ xs, SqT K H a xs → xs[i]? = some x, fun i H => ∃ xs : List V, SqT K H a xs ∧ xs.length = i⟩
theorem turn_enumT {P : Program} {w : World} {K : PySem.W.Frag} {elts : List Expr} {kk : Nat} {tpos : Pos} (a e it : Addr) :
    Turn P w K (.Tuple elts kk tpos) (IteT K a) [e, it] e (fun i h => (∃ was, IsEnum h e it ((i : Nat) : Int) was) ∧ h.IsTupleIter it a i ∧ e ≠ it ∧ a ≠ it ∧ a ≠ e) where
  mem := by simp
  obj := fun i h stt b hb => by
    obtain ⟨⟨was, he⟩, ⟨o, hob, hcl, hd⟩, _⟩ := stt
    have ee : b = e ∨ b = it := by simpa using hb
    rcases ee with z | z
    · rw [z]; exact ⟨_, he, fun v q => nomatch q⟩
    · rw [z]; exact ⟨o, hob, fun v q => by rw [hd] at q; cases q⟩
  keep := fun i h h' stt k => let ⟨⟨was, he⟩, hi, neq⟩ := stt; ⟨⟨was, k e (by simp) _ he⟩, hi.at fun o q => k it (by simp) o q, neq⟩
  item := by
    intro X hP hw hK hcl i pins s σ H E I hf stt hg
    subst hP hw hK
    obtain ⟨⟨was, he⟩, hit, neq, hai, hae⟩ := stt
    obtain ⟨xs, x, hq, hx⟩ := hg
    obtain ⟨its, rv, p, hzz⟩ := I.tuple hq
    obtain ⟨u, hu, ru⟩ := rv.get hx
    have elt : e < s.heap.objs.size := Heap.lt_size he
    have ilt : it < s.heap.objs.size := by obtain ⟨_, q, _⟩ := hit; exact Heap.lt_size q
    have hlen : i < its.toArray.size := by
      have h1 := (List.getElem?_eq_some_iff.mp hu).1
      simpa using h1
    refine wpAny_pyNext_enum_itemC (n := its.toArray.size) (i := i) (Draws.tuple (A := X.A.in1) (show X.A.in1.handled = none from I.ok.hd hcl) it a hai its.toArray) he ⟨hit, p⟩ hlen neq (by simp; exact ⟨neq, fun z => hae z.symm⟩) fun y h' tk hP hob hst hT hsize hkeep => ?_
    have ey : y = u := by
      have h1 : its.toArray[i]? = some u := by simpa using hu
      rw [h1] at hP
      exact (Option.some.inj hP).symm
    subst ey
    refine ⟨_, rfl, wpAny_letOwnedTupleGo_enum (s := { s with heap := h', toks := tk + 1 }) hob fun h'' he' same2 => ?_⟩
    have hT2 : h''.get? s.heap.objs.size = some { cls := .type "tuple", data := .seq #[.int i tk, y] } := (same2.2 _ (Nat.ne_of_gt elt)).trans hT
    have nw : ObjOk X.prog X.w (upd H s.heap.objs.size (.tup [.int (i : Nat), x])) h'' s.heap.objs.size (.tup [.int (i : Nat), x]) :=
      ⟨by show 2 ≤ sizeLine; decide, [.int i tk, y], .cons ⟨_, rfl⟩ (.cons ru .nil), ⟨_, hT2, rfl, _, rfl⟩⟩
    have J1 : Inv X pins σ (upd H s.heap.objs.size (.tup [.int (i : Nat), x])) { s with heap := h'', toks := tk + 1 } :=
      I.turnedNew (ch := [e, it]) (fun b ob hb q => (same2.2 b (fun z => hb (by simp [z]))).trans (hkeep b ob (fun z => hb (by simp [z])) (fun z => hb (by simp [z])) q)) hf (Nat.le_refl _) nw
    refine ⟨.ref s.heap.objs.size, _, J1, rfl, ⟨_, x, rfl, I.hok.fresh (Nat.le_refl _), rfl, fun ys hy => by rw [I.tuple_inj hy hq]; exact hx⟩, ⟨⟨y, ?_⟩, hst.1.at fun o q => (same2.2 it (Ne.symm neq)).trans q, neq, hai, hae⟩, fun b hb => ?_⟩
    · have esum : ((i + 1 : Nat) : Int) = (i : Int) + 1 := by omega
      rw [esum]; exact he'
    · have hlow : b < s.heap.objs.size := by
        have ee : b = e ∨ b = it := by simpa using hb
        rcases ee with z | z
        · rw [z]; exact elt
        · rw [z]; exact ilt
      rw [upd_ne (Nat.ne_of_lt hlow)]
      exact (hf b hb).1
  done := by
    intro X hP hw hK hcl i pins s σ H E I hf stt hg
    subst hP hw hK
    obtain ⟨⟨was, he⟩, hit, neq, hai, hae⟩ := stt
    obtain ⟨xs, hq, hx⟩ := hg
    obtain ⟨its, rv, p, hzz⟩ := I.tuple hq
    obtain ⟨k0, k1, k2, k3, k4, k5⟩ := hf it (by simp)
    have hl : its.toArray.size = i := by have := rv.length; simp; omega
    have D := Draws.tuple (prog := X.prog) (w := X.w) (A := X.A.in1) (I.ok.hd hcl) it a hai its.toArray
    exact wpAny_pyNext_enum_endD D he (hl ▸ ⟨hit, p⟩) fun h' eb => ⟨rfl, I.turned (t' := s.toks) (fun b o hb q => eb b o hb q) k0 k1 k3 k4 k5⟩
  self := fun A i s Q E stt h => let ⟨⟨_, he⟩, _⟩ := stt; wpAny_pyIter_enum he h
def iEnumT (K : PySem.W.Frag) (ta : TA) : TI := fun σ H R => ta σ H fun vs H1 => ∃ a xs, vs = [.ref a] ∧ SqT K H1 a xs ∧ R (IteT K a) H1
theorem pi_enumT {X : Cx} {e : Expr} {ta : TA} {p pos tpos : Pos} {elts : List Expr} {kk : Nat} (hg : Gl X "enumerate") (hm : X.mg "enumerate" = none) (ha : PA X [e] ta) (hs : starEach [e] X.env = [(false, eval e X.env)] := by rfl) :
    PI X (.Tuple elts kk tpos) (.Call (.Name "enumerate" p) [e] [] pos) (iEnumT X.K ta) := by
  refine ⟨fun pins s σ H R I h => ?_⟩
  refine Call_ (ld_blt I hg hm boot_enumerate (PyProof.Rows.callWith_type1 (thn (ha.run pos pins s σ H _ I h) fun us s1 ⟨vs, H1, J1, r1, q1⟩ => ?_) hs rfl))
  obtain ⟨a, xs, ex, hq, q⟩ := q1
  subst ex
  cases r1 with
  | cons r rr =>
    cases rr
    cases r
    obtain ⟨its, rv, p', hzz⟩ := J1.tuple hq
    have hal : a < s1.heap.objs.size := p'.lt
    refine enum_beginsB (begins_tuple a its.toArray) p' fun h' he hit hsize hkeep => wpAny_pyIter_enum he ?_
    have J2 : Inv X pins σ H1 { s1 with heap := h' } := J1.kept (t' := s1.toks) hkeep
    refine ⟨s1.heap.objs.size + 1, [s1.heap.objs.size + 1, s1.heap.objs.size], _, _, H1, rfl, J2, turn_enumT a (s1.heap.objs.size + 1) s1.heap.objs.size, ⟨⟨.none, he⟩, ⟨_, hit, rfl, rfl⟩, Nat.succ_ne_self _, Nat.ne_of_lt hal, Nat.ne_of_lt (Nat.lt_succ_of_lt hal)⟩, fun b hb => ?_, q⟩
    have ee : b = s1.heap.objs.size + 1 ∨ b = s1.heap.objs.size := by simpa using hb
    have hle : s1.heap.objs.size ≤ b := by
      rcases ee with z | z
      · rw [z]; exact Nat.le_add_right _ _
      · rw [z]; exact Nat.le_refl _
    exact J1.fpOk hle (J1.hok.fresh hle)
theorem walk_enumT {K : PySem.W.Frag} {a : Addr} {xs : List V} : Walk (IteT K a) xs.length (fun H => SqT K H a xs) (YPair (fun i => some (.int (i : Nat))) (fun i => xs[i]?)) := by
  refine ⟨fun i _ hi q => ⟨xs, xs[i], q, by simp [hi]⟩, fun _ q => ⟨xs, q, rfl⟩, fun i H v H' hi q y => ?_⟩
  obtain ⟨T, x, esum, e2, e3, e4⟩ := y
  exact ⟨T, _, x, esum, e2, e3, rfl, e4 xs q⟩
end Dk

set_option Elab.async false
set_option linter.all false
set_option maxRecDepth 100000
set_option maxHeartbeats 1000000
/-! a, *b = a list -/
namespace Dk
open PySem PySem.Spec PyProof.Rows L2
theorem star_items {prog : Program} {w : World} {A : Around} {E : Value → Shared → Prop} {s : Shared} {l : Addr} {u : Value} {us : List Value} {Q : List Value → Shared → Prop} (hl : s.heap.IsList l (u :: us).toArray) (hh : A.handled = none) (hz : us.length ≤ 16000)
    (h : ∀ (h2 : Heap) (tk : Tok), (∀ b o, s.heap.get? b = some o → h2.get? b = some o) → Q [u, .ref h2.objs.size] { s with heap := h2.push { cls := .type "list", data := .seq us.toArray }, toks := tk }) : wpAny (model prog w) A (unpackItems (.ref l) 2 (some 1)) Q E s := by
  have hlt : l ≠ s.heap.objs.size := by obtain ⟨o, ho, _⟩ := hl; exact Nat.ne_of_lt (Heap.lt_size ho)
  have hs : (u :: us).toArray.size = us.length + 1 := by simp
  unfold unpackItems
  refine wpAny_bind ?_
  unfold notIterableAtAll
  refine wpAny_bind (wpAny_specialOf hl.typeIs F.slot_list_iter.lookup ?_)
  refine wpAny_pure ?_
  simp only [Bool.false_eq_true, if_false]
  refine wpAny_bind (wpAny_holding (wpAny_pyIter_list hl ?_))
  refine wpAny_bind (wpAny_holding (PySem.W.kun_draw hlt 1 0 _ _ ⟨_, Heap.get?_push_size _ rfl, rfl, rfl⟩ (hl.push _) (by omega) fun h₁ hit₁ hs₁ => ?_))
  have hl₁ : h₁.IsList l (u :: us).toArray := (hl.push _).extBut hs₁.extBut hlt
  rw [Nat.zero_add] at hit₁
  have hit₁' := hit₁
  obtain ⟨oi, hoi, _⟩ := hit₁'
  have hl₁' := hl₁
  obtain ⟨ol, hol, _⟩ := hl₁'
  rw [List.drop_zero]
  have e1 : (u :: us).toArray.toList.take 1 = [u] := by simp
  rw [e1]
  rw [if_neg (show ¬ (([u] : List Value).length < 1) by simp)]
  refine wpAny_bind (wpAny_holding (PySem.W.kun_collect (s := { s with heap := h₁ }) (T := "list_iterator") (.inr (.inr (.inl rfl))) (Walks.list (A := A.in1) hh s.heap.objs.size l hlt (u :: us).toArray) (fun j u st => st.1.typeIs) (k := 1) (by omega) ⟨hit₁, hl₁⟩ (Heap.lt_size hoi) (Heap.lt_size hol) (fun h₂ tk hk => ?_) (by rw [hs]; exact Nat.le_trans (by omega : us.length + 1 ≤ 16001) (by decide))))
  have e2 : (u :: us).toArray.toList.drop 1 = us := by simp
  rw [e2]
  show wpAny _ _ (if us.length < 0 then _ else _) _ _ _
  rw [if_neg (by omega)]
  show wpAny _ _ (newList (us.take (us.length - 0)) >>= fun d => pure ([u] ++ [d] ++ us.drop (us.length - 0))) _ _ _
  rw [Nat.sub_zero, List.take_length, List.drop_length]
  refine wpAny_bind (wpAny_newObj_type ?_ (by show us.toArray.size ≤ sizeLine; rw [List.size_toArray]; exact Nat.le_trans hz (by decide)))
  exact wpAny_pure (h h₂ tk fun b o e => hk b o (Nat.ne_of_lt (Heap.lt_size e)) (hs₁.extBut b o (Nat.ne_of_lt (Heap.lt_size e)) (Heap.get?_push_of_some _ e)))
section
variable {X : Cx} {pos : Pos}
def gStar (K : PySem.W.Frag) (t : TGs) : TG := fun v σ H Q => ∃ a x xs, v = .ref a ∧ SqL K H a (x :: xs) ∧ xs.length ≤ 16000 ∧ ∀ D, H D = none → t [x, .ref D] σ (upd H D (.lst xs)) Q
theorem pg_star {e1 e2 : Expr} {p : Pos} {k : Nat} {t : TGs} (hc : X.calm = true) (h : PGs X [e1, e2] t)
    (he : (assignEach [e1, .Starred e2 p] X.env).map (·.2) = (assignEach [e1, e2] X.env).map (·.2) := by rfl)
    (hn : (assignEach [e1, .Starred e2 p] X.env).length = 2 := by rfl) (hst : (assignEach [e1, .Starred e2 p] X.env).findIdx? (·.1) = some 1 := by rfl) : PG X (.Tuple [e1, .Starred e2 p] k pos) (gStar X.K t) := by
  refine ⟨fun pins s σ H v u Q I r hw => ?_⟩
  obtain ⟨a, x, xs, e1, hq, hl, hw⟩ := hw
  subst e1
  cases r
  obtain ⟨its, rv, pl, hz⟩ := I.list hq
  cases rv with
  | @cons _ u0 _ us r0 rs =>
    have hl' : s.heap.IsList a (u0 :: us).toArray := by
      obtain ⟨o, m, e, c, d, q⟩ := pl
      exact ⟨o, e, c, m, q⟩
    rw [PyProof.Rows.assign_Tuple]
    refine wpAny_bind (wpAny_standAt ?_)
    unfold unpack
    rw [hn, hst, he]
    refine wpAny_bind (wpAny_holding (star_items hl' (I.ok.hd hc) (by rw [← Paired.length rs]; exact hl) fun h2 tk hx => ?_))
    have I1 : Inv X pins σ H { s with heap := h2, toks := tk } := I.kept (t' := tk) hx
    have hnew : H h2.objs.size = none := I1.hok.fresh (Nat.le_refl _)
    have I2 : Inv X pins σ (upd H h2.objs.size (.lst xs)) { s with heap := h2.push { cls := .type "list", data := .seq us.toArray }, toks := tk } :=
      I1.laid (t' := tk) (fun b o q => Heap.get?_push_of_some _ q) (Nat.le_refl _) ⟨Nat.le_trans hl (by decide), us, 0, rs, Heap.get?_push_size _ rfl⟩
    exact h.run pins _ σ _ [x, .ref h2.objs.size] _ Q I2 (.cons r0 (.cons rfl .nil)) (hw _ hnew)
end
end Dk

set_option Elab.async false
set_option linter.all false
set_option maxRecDepth 100000
set_option maxHeartbeats 4000000
namespace Dk
open PySem PySem.Spec PyProof.Rows L2
/-! ### the text by places -/
def top (i : Nat) : Stmt := PySem.Challenge.pw_doorkeys_k16_encoded_houses.main.body.getD i (.Pass ⟨0, 0, 0, 0⟩)
abbrev sIsInt : Stmt := top 8
abbrev sIsBelow : Stmt := top 9
abbrev sPeriod : Stmt := top 19
abbrev sChkTables : Stmt := top 20
abbrev sChkKeys : Stmt := top 21
abbrev sChkCareful : Stmt := top 22
abbrev sChkRem : Stmt := top 23
abbrev sIsTable : Stmt := top 24
abbrev sIsRem : Stmt := top 25
abbrev sAsc : Stmt := top 26
abbrev sHasOnly : Stmt := top 27
abbrev sSplit : Stmt := top 28
abbrev sAreArgs : Stmt := top 29
abbrev sIsTW : Stmt := top 30
abbrev sIsNW : Stmt := top 31
abbrev sIsRW : Stmt := top 32
abbrev sReadNs : Stmt := top 33
abbrev sReadRs : Stmt := top 34
abbrev sKeysL : Stmt := top 35
abbrev sCarL : Stmt := top 36
abbrev sRemL : Stmt := top 37
abbrev sEncode : Stmt := top 41
abbrev sDecode : Stmt := top 42
abbrev sChksum : Stmt := top 43
abbrev sReadTab : Stmt := top 45
abbrev sReadCar : Stmt := top 46
abbrev sReadPrs : Stmt := top 47
abbrev sRandom : Stmt := top 49
abbrev sBelow : Stmt := top 50
abbrev sTable : Stmt := top 51
abbrev sLength : Stmt := top 52
abbrev sParts : Stmt := top 53
abbrev sEqual : Stmt := top 55
abbrev sHouseF : Stmt := top 54
abbrev sLaw : Stmt := top 56
abbrev sInit : Stmt := inClass (top 18) 0
abbrev sText : Stmt := inClass (top 18) 3
abbrev sParse : Stmt := inClass (top 18) 4
abbrev sRInit : Stmt := inClass (top 44) 0
abbrev sTakeR : Stmt := inClass (top 44) 1
abbrev sTakeB : Stmt := inClass (top 44) 2
abbrev sPersonsP : Stmt := inClass (top 18) 1
abbrev sPeriodP : Stmt := inClass (top 18) 2

/-! ### heaps -/
theorem sSqT {K : PySem.W.Frag} {H H' : Hp} {a : Addr} {xs : List V} (e : Same H H') (h : SqT K H a xs) : SqT K H' a xs := by
  rcases h with (h | ⟨o, h⟩) | h
  · exact .inl (.inl (e _ _ h))
  · exact .inl (.inr ⟨o, e _ _ h⟩)
  · exact .inr h
theorem same_upd {H : Hp} {p : Addr} {o : HO} (h : H p = none) : Same H (upd H p o) := fun b u e => by
  rw [upd_ne (ne_of_none e h)]; exact e
/-- all that was tracked is as it was, but at l -/
def Kp (l : Addr) (H H' : Hp) : Prop := ∀ b o, b ≠ l → H b = some o → H' b = some o
theorem sKp {l : Addr} {H H' : Hp} (s : Same H H') : Kp l H H' := fun b o _ e => s b o e
theorem Kp.refl {l : Addr} {H : Hp} : Kp l H H := fun _ _ _ e => e
theorem Kp.trans {l : Addr} {H H1 H2 : Hp} (a : Kp l H H1) (b : Kp l H1 H2) : Kp l H H2 := fun c o n e => b c o n (a c o n e)
theorem kp_upd {l : Addr} {H : Hp} {o : HO} : Kp l H (upd H l o) := fun b u n e => by rw [upd_ne n]; exact e
theorem Kp.same {l : Addr} {H H' : Hp} (k : Kp l H H') (h : ∀ o, H l = some o → H' l = some o) : Same H H' := fun b o e => by
  by_cases n : b = l
  · subst n; exact h o e
  · exact k b o n e
theorem Kp.sqT {K : PySem.W.Frag} {l : Addr} {xs : List V} {ys : List V} {H H' : Hp} {a : Addr} (k : Kp l H H') (hl : H l = some (.lst ys)) (h : SqT K H a xs) : SqT K H' a xs := by
  rcases h with (h | ⟨o, h⟩) | h
  · exact .inl (.inl (k _ _ (fun e => by rw [e, hl] at h; cases h) h))
  · exact .inl (.inr ⟨o, k _ _ (fun e => by rw [e, hl] at h; cases h) h⟩)
  · exact .inr h
/-- a list other than l stays -/
theorem Kp.lst {l : Addr} {xs : List V} {H H' : Hp} {a : Addr} (k : Kp l H H') (n : a ≠ l) (h : H a = some (.lst xs)) : H' a = some (.lst xs) := k _ _ n h

theorem take_more {α : Type} {l : List α} {i : Nat} {x : α} (h : l[i]? = some x) : l.take (i + 1) = l.take i ++ [x] := by
  rw [List.take_add_one, h]
  rfl
theorem map_at {α : Type} {f : α → V} {l : List α} {i : Nat} {y : V} (h : (l.map f)[i]? = some y) : ∃ z, l[i]? = some z ∧ y = f z := by
  rw [List.getElem?_map] at h
  cases e : l[i]? with
  | none => rw [e] at h; cases h
  | some z => rw [e] at h; exact ⟨z, rfl, (Option.some.inj h).symm⟩

/-! ### the law's source of numbers -/
/-- what is always true of the source's list -/
structure Good (st : List Int) : Prop where
  ex : ∃ s0 s1 r, st = s0 :: s1 :: r ∧ 0 ≤ s0 ∧ s0 < 2147483647 ∧ 0 ≤ s1 ∧ (∀ z ∈ r, (0 : Int) ≤ z) ∧ r.length ≤ 63

def spRandom (K : PySem.W.Frag) : Sp := fun vs H Q _ => ∃ (a : Addr) (ns : List Int) (salt : Int), vs = [.ref a, .int salt] ∧ SqL K H a (ns.map V.int) ∧ ns.length ≤ 63 ∧ 0 ≤ salt ∧ salt < 2147483647 ∧
  ∀ (H' : Hp) (p : Addr) (st : List Int), Same H H' → H p = none → H' p = some (.lst (st.map V.int)) → Good st → Q (.ref p) H'
structure TxtA (mg : Str → Option Value) : Prop where
  abs : mg "abs" = none
  len : mg "len" = none
  range : mg "range" = none

section
variable {P : Program} {w : World} {K : PySem.W.Frag} {mg : Str → Option Value} {base : Heap}
theorem scRandom : FnScope ["_law_script", "_law_salt", "_law_seed", "_law_cell"] ["_law_script", "_law_salt"] (defScope sRandom) := ⟨rfl, rfl, rfl, by decide +kernel, rfl, by decide +kernel, by decide +kernel⟩
theorem ok_random {f : Addr} {fd : FuncData} (F : Fun K "_law_random" "_law_random" sRandom f fd) (T : TxtA mg) : FnOk P w K mg base CX0 1 f fd ["_law_script", "_law_salt"] (spRandom K) := by
  refine F.ok scRandom (fun vs H Q E h => ?_) (fun cdv A outer s H vs Q E hr h => ?_)
  · obtain ⟨a, ns, salt, rfl, _⟩ := h
    rfl
  · obtain ⟨a, ns, salt, rfl, hS, hlen, hs0, hs1, k⟩ := h
    refine ⟨_, pss_cons (ps_set (i := 2) scRandom.nd rfl (.inl rfl) (pv 1))
      (pss_cons (ps_for PassesOwn.never rfl (pi_list (pv 0)) (pg_name (i := 3) scRandom.nd rfl (.inl rfl))
        (pss_one (ps_set (i := 2) scRandom.nd rfl (.inl rfl) (pe_op op_mod (pe_op op_add (pe_op op_mul (pv 2) pe_int) (pe_callB call_abs (by rfl) T.abs (by decide +kernel) (pa_cons (pv 3) pa_nil))) pe_int))))
      (pss_one (ps_ret (pe_op op_cat (pe_lst (pa_cons (pv 2) (pa_cons pe_int pa_nil)))
        (pe_lc (own := [("_law_cell", 3)]) (g := gName 3) (by rfl) scRandom.nd (pi_list (pv 0)) (blkOk_by (N := ["_law_script", "_law_salt", "_law_seed", "_law_cell"]) (sc := defScope sRandom) (by decide +kernel))
          (fun _ _ _ _ _ => pg_name (i := 3) scRandom.nd rfl (Or.inl rfl)) (fun _ _ _ _ _ => pts_one (pt_cmpR op_ge (pv 3) (pe_op op_pow pe_int pe_int) (nomark _))) (fun _ _ _ _ _ => pv 3)))))), ?_⟩
    refine ⟨_, rfl, ?_⟩
    refine ⟨_, rfl, a, rfl, ⟨_, hS⟩, for_list (K := K) (a := a) (xs := ns.map V.int) (fun i σ H' => ∃ (z : Int) (v : Option V), σ = [some (.ref a), some (.int salt), some (.int z), v] ∧ H' = H ∧ 0 ≤ z ∧ z < 2147483647)
      ⟨salt, none, rfl, rfl, hs0, hs1⟩ (fun i σ H' _ ⟨_, _, _, e, _⟩ => by rw [e]; exact hS) ?_ ?_⟩
    · rintro i y σ H' hi ⟨z, v, rfl, rfl, h0, h1⟩
      obtain ⟨u, hu, rfl⟩ := map_at hi
      refine ⟨_, rfl, _, _, rfl, rfl, .inl ⟨by omega, by omega⟩, _, rfl, _, rfl, _, _, rfl, rfl, _, _, rfl, rfl, (by show (0 : Int) < 2147483647; decide), ?_⟩
      exact ⟨_, _, rfl, rfl, Int.emod_nonneg _ (by decide), Int.emod_lt_of_pos _ (by decide)⟩
    · rintro σ H' ⟨z, v, rfl, rfl, h0, h1⟩
      refine ⟨_, rfl, (by show 2 ≤ sizeLine; decide), fun l hl => ?_⟩
      have s1 : Same H' (upd H' l (.lst [.int z, .int 0])) := same_upd hl
      refine ⟨_, rfl, a, rfl, ⟨_, s1.seq hS⟩, fun D hD => lc_list (K := K) (a := a) (xs := ns.map V.int)
        (fun i H2 => ∃ r : List Int, Same (upd H' l (.lst [.int z, .int 0])) H2 ∧ H2 D = some (.lst (r.map V.int)) ∧ r.length ≤ i ∧ ∀ x : Int, x ∈ r → 0 ≤ x)
        ⟨[], same_upd hD, upd_same, Nat.le_refl _, fun x hx => by cases hx⟩ (fun i H2 _ ⟨_, e, _⟩ => e.seq (s1.seq hS)) ?_ ?_⟩
      · rintro i y H2 hi ⟨r, e2, eD, hr1, hr2⟩
        obtain ⟨u, hu, rfl⟩ := map_at hi
        have hil : i < ns.length := (List.getElem?_eq_some_iff.mp hu).1
        refine ⟨rfl, _, rfl, _, _, rfl, rfl, ?_, _, _, rfl, rfl, _, rfl, ite2 (fun c => ?_) (fun c => ?_)⟩
        · exact ⟨by decide, by decide, by decide⟩
        · refine ⟨_, rfl, _, eD, ?_, r ++ [u], fun b o eb => ?_, ?_, ?_, fun x hx => ?_⟩
          · rw [List.length_map]; exact Nat.lt_of_le_of_lt (by omega : r.length ≤ 1000) (by decide)
          · have nb : b ≠ D := ne_of_none eb hD
            rw [upd_ne nb]; exact e2 _ _ eb
          · rw [upd_same]; simp
          · rw [List.length_append, List.length_singleton]; omega
          · rcases List.mem_append.mp hx with hx | hx
            · exact hr2 x hx
            · rw [List.mem_singleton] at hx
              subst hx
              have c' : (10 : Int) ^ (18 : Int).toNat ≤ x := of_decide_eq_true c
              exact Int.le_trans (by decide) c'
        · exact ⟨r, e2, eD, by omega, hr2⟩
      · rintro H2 ⟨r, e2, eD, hr1, hr2⟩
        rw [List.length_map] at hr1
        have el : H2 l = some (.lst [.int z, .int 0]) := e2 _ _ upd_same
        refine ⟨_, _, _, _, rfl, rfl, el, eD, ?_, fun p hp => ?_⟩
        · simp only [List.length_cons, List.length_nil, List.length_map]
          exact Nat.le_trans (by omega : _ ≤ 1000) (by decide)
        · have s2 : Same H' H2 := s1.trans e2
          refine k _ p (z :: 0 :: r) (s2.trans (same_upd hp)) (s2.free hp) (by rw [upd_same]; rfl) ⟨⟨z, 0, r, rfl, h0, h1, Int.le_refl _, hr2, by omega⟩⟩
end
end Dk

set_option Elab.async false
set_option linter.all false
set_option maxRecDepth 100000
set_option maxHeartbeats 4000000
namespace Dk
open PySem PySem.Spec PyProof.Rows L2
theorem at0 {a : V} {l : List V} : atI (a :: l) 0 = some a := atI_nat (j := 0) rfl
theorem at1 {a b : V} {l : List V} : atI (a :: b :: l) 1 = some b := atI_nat (j := 1) rfl
theorem at2 {a b c : V} {l : List V} : atI (a :: b :: c :: l) 2 = some c := atI_nat (j := 2) rfl
theorem at3 {a b c e : V} {l : List V} : atI (a :: b :: c :: e :: l) 3 = some e := atI_nat (j := 3) rfl
theorem ix0 {a : V} {l : List V} : ixN (a :: l).length 0 = some 0 := by
  unfold ixN; rw [if_pos (by decide), if_pos (by rw [List.length_cons]; omega)]; rfl
theorem ix1 {a b : V} {l : List V} : ixN (a :: b :: l).length 1 = some 1 := by
  unfold ixN; rw [if_pos (by decide), if_pos (by rw [List.length_cons, List.length_cons]; omega)]; rfl
theorem sq2 {a b c : V} {l : List V} : seqIndex? 2 (a :: b :: c :: l).length = some 2 := (ixN_seq (by
  unfold ixN; rw [if_pos (by decide), if_pos (by rw [List.length_cons, List.length_cons, List.length_cons]; omega)]; rfl)).1
def spBelow : Sp := fun vs H Q _ => ∃ (d : Addr) (lim : Int) (st : List Int), vs = [.ref d, .int lim] ∧ H d = some (.lst (st.map V.int)) ∧ Good st ∧ 1 ≤ lim ∧ lim < 1073741824 ∧
  ∀ (H' : Hp) (st' : List Int) (r : Int), Kp d H H' → H' d = some (.lst (st'.map V.int)) → Good st' → 0 ≤ r → r < lim → Q (.int r) H'
section
variable {P : Program} {w : World} {K : PySem.W.Frag} {mg : Str → Option Value} {base : Heap}
theorem scBelow : FnScope ["_law_d", "_law_limit", "_law_result"] ["_law_d", "_law_limit"] (defScope sBelow) := ⟨rfl, rfl, rfl, by decide +kernel, rfl, by decide +kernel, by decide +kernel⟩
theorem ok_below {f : Addr} {fd : FuncData} (F : Fun K "_law_below" "_law_below" sBelow f fd) (T : TxtA mg) : FnOk P w K mg base CX0 1 f fd ["_law_d", "_law_limit"] spBelow := by
  refine F.ok scBelow (fun vs H Q E h => ?_) (fun cdv A outer s H vs Q E hr h => ?_)
  · obtain ⟨d, lim, st, rfl, _⟩ := h
    rfl
  · obtain ⟨d, lim, st, rfl, hd, ⟨s0, s1, r, rfl, h0, h1, h2, h3, h4⟩, hl1, hl2, k⟩ := h
    refine ⟨_, pss_cons (ps_if (PW.pt (pw_and (pt_cmpR op_eq (pe_ix ix_list (pv 0) pe_int (fun _ _ => rfl)) pe_int (nomark _)) (pw_and1 (pt_cmpR op_gt (pe_callB call_len_seq (by rfl) T.len PySem.boot_len (pa_cons (pv 0) pa_nil)) pe_int (nomark _)))))
        (pss_one (ps_asg (pe_bm PySem.F.plainAttrs_list PySem.F.slot_list_pop PySem.F.type_list_pop mt_popAt (pv 0) (pa_cons pe_int pa_nil)) (pg_sub (pv 0) pe_int set_list))) pss_nil)
      (pss_cons (ps_if (pt_cmpR op_gt (pe_ix ix_list (pv 0) pe_int (fun _ _ => rfl)) pe_int (nomark _))
        (pss_cons (ps_set (i := 2) scBelow.nd rfl (.inl rfl) (pe_op op_modN (pe_ix ix_list (pv 0) pe_int (fun _ _ => rfl)) (pv 1)))
        (pss_cons (ps_asg (pe_op op_fdivN (pe_ix ix_list (pv 0) pe_int (fun _ _ => rfl)) (pv 1)) (pg_sub (pv 0) pe_int set_list))
        (pss_one (ps_ret (pv 2))))) pss_nil)
      (pss_cons (ps_asg (pe_op op_mod (pe_op op_add (pe_op op_mul (pe_ix ix_list (pv 0) pe_int (fun _ _ => rfl)) pe_int) pe_int) pe_int) (pg_sub (pv 0) pe_int set_list))
      (pss_one (ps_ret (pe_op op_modN (pe_op op_fdiv (pe_ix ix_list (pv 0) pe_int (fun _ _ => rfl)) pe_int) (pv 1)))))), ?_⟩
    have hd' : H d = some (.lst (V.int s0 :: V.int s1 :: r.map V.int)) := hd
    refine ⟨_, rfl, d, _, 1, V.int s1, rfl, rfl, SqL.of hd', at1, rfl, _, rfl, ite2 (fun c => ?_) (fun c => ?_)⟩
    · refine ⟨_, rfl, d, _, rfl, .inl (SqL.of hd'), _, _, rfl, rfl, _, rfl, ite2 (fun c2 => ?_) (fun c2 => ?_)⟩
      · cases r with
        | nil => exact absurd (of_decide_eq_true c2) (by simp)
        | cons r0 r =>
          refine ⟨_, rfl, .inl ⟨rfl, _, SqL.of hd'⟩, d, _, 2, 2, V.int r0, rfl, rfl, hd', (by decide), (by decide), sq2, rfl, ?_⟩
          refine ⟨_, rfl, d, _, _, 1, rfl, rfl, upd_same, ix1, ?_⟩
          generalize e : (upd (upd H d (HO.lst ((V.int s0 :: V.int s1 :: List.map V.int (r0 :: r)).eraseIdx 2))) d (HO.lst (((V.int s0 :: V.int s1 :: List.map V.int (r0 :: r)).eraseIdx 2).set 1 (V.int r0)))) = H1
          have kp1 : Kp d H H1 := by rw [← e]; exact kp_upd.trans kp_upd
          obtain ⟨t0, t1, r', hd1, g0, g1, g2, g3, g4⟩ : ∃ t0 t1 r', H1 d = some (.lst (V.int t0 :: V.int t1 :: r'.map V.int)) ∧ 0 ≤ t0 ∧ t0 < 2147483647 ∧ 0 ≤ t1 ∧ (∀ z ∈ r', (0 : Int) ≤ z) ∧ r'.length ≤ 63 :=
            ⟨s0, r0, r, by rw [← e, upd_same]; rfl, h0, h1, h3 _ (List.mem_cons_self ..), fun z hz => h3 z (List.mem_cons_of_mem _ hz), by rw [List.length_cons] at h4; omega⟩
          refine ⟨_, rfl, d, _, 1, V.int t1, rfl, rfl, SqL.of hd1, at1, _, _, rfl, rfl, _, rfl, ite2 (fun c3 => ?_) (fun c3 => ?_)⟩
          · have c3' : 0 < t1 := of_decide_eq_true c3
            refine ⟨_, rfl, d, _, 1, V.int t1, rfl, rfl, SqL.of hd1, at1, _, rfl, _, _, rfl, rfl, (by omega), ?_⟩
            refine ⟨_, rfl, d, _, 1, V.int t1, rfl, rfl, SqL.of hd1, at1, _, rfl, _, _, rfl, rfl, ⟨by omega, by omega⟩, _, rfl, d, _, _, 1, rfl, rfl, hd1, ix1, ?_⟩
            exact ⟨_, rfl, k _ (t0 :: t1.fdiv lim :: r') _ (kp1.trans kp_upd) upd_same ⟨⟨t0, _, r', rfl, g0, g1, Int.fdiv_nonneg g2 (by omega), g3, g4⟩⟩ (Int.fmod_nonneg_of_pos _ (by omega)) (Int.fmod_lt_of_pos _ (by omega))⟩
          · refine ⟨_, rfl, d, _, 0, V.int t0, rfl, rfl, SqL.of hd1, at0, _, _, rfl, rfl, .inl ⟨by omega, by omega⟩, _, _, rfl, rfl, _, _, rfl, rfl, (by show (0 : Int) < 2147483647; decide), _, rfl, d, _, _, 0, rfl, rfl, hd1, ix0, ?_⟩
            refine ⟨_, rfl, d, _, 0, V.int ((t0 * 48271 + 11) % 2147483647), rfl, rfl, SqL.of upd_same, at0, _, _, rfl, rfl, ⟨by decide, by decide⟩, _, rfl, _, _, rfl, rfl, (by omega), ?_⟩
            exact k _ ((t0 * 48271 + 11) % 2147483647 :: t1 :: r') _ (kp1.trans kp_upd) upd_same ⟨⟨_, _, r', rfl, Int.emod_nonneg _ (by decide), Int.emod_lt_of_pos _ (by decide), g2, g3, g4⟩⟩ (Int.fmod_nonneg_of_pos _ (by omega)) (Int.fmod_lt_of_pos _ (by omega))
      · have kp1 : Kp d H H := Kp.refl
        obtain ⟨t0, t1, r', hd1, g0, g1, g2, g3, g4⟩ : ∃ t0 t1 r', H d = some (.lst (V.int t0 :: V.int t1 :: r'.map V.int)) ∧ 0 ≤ t0 ∧ t0 < 2147483647 ∧ 0 ≤ t1 ∧ (∀ z ∈ r', (0 : Int) ≤ z) ∧ r'.length ≤ 63 :=
          ⟨s0, s1, r, hd', h0, h1, h2, h3, h4⟩
        refine ⟨_, rfl, d, _, 1, V.int t1, rfl, rfl, SqL.of hd1, at1, _, _, rfl, rfl, _, rfl, ite2 (fun c3 => ?_) (fun c3 => ?_)⟩
        · have c3' : 0 < t1 := of_decide_eq_true c3
          refine ⟨_, rfl, d, _, 1, V.int t1, rfl, rfl, SqL.of hd1, at1, _, rfl, _, _, rfl, rfl, (by omega), ?_⟩
          refine ⟨_, rfl, d, _, 1, V.int t1, rfl, rfl, SqL.of hd1, at1, _, rfl, _, _, rfl, rfl, ⟨by omega, by omega⟩, _, rfl, d, _, _, 1, rfl, rfl, hd1, ix1, ?_⟩
          exact ⟨_, rfl, k _ (t0 :: t1.fdiv lim :: r') _ (kp1.trans kp_upd) upd_same ⟨⟨t0, _, r', rfl, g0, g1, Int.fdiv_nonneg g2 (by omega), g3, g4⟩⟩ (Int.fmod_nonneg_of_pos _ (by omega)) (Int.fmod_lt_of_pos _ (by omega))⟩
        · refine ⟨_, rfl, d, _, 0, V.int t0, rfl, rfl, SqL.of hd1, at0, _, _, rfl, rfl, .inl ⟨by omega, by omega⟩, _, _, rfl, rfl, _, _, rfl, rfl, (by show (0 : Int) < 2147483647; decide), _, rfl, d, _, _, 0, rfl, rfl, hd1, ix0, ?_⟩
          refine ⟨_, rfl, d, _, 0, V.int ((t0 * 48271 + 11) % 2147483647), rfl, rfl, SqL.of upd_same, at0, _, _, rfl, rfl, ⟨by decide, by decide⟩, _, rfl, _, _, rfl, rfl, (by omega), ?_⟩
          exact k _ ((t0 * 48271 + 11) % 2147483647 :: t1 :: r') _ (kp1.trans kp_upd) upd_same ⟨⟨_, _, r', rfl, Int.emod_nonneg _ (by decide), Int.emod_lt_of_pos _ (by decide), g2, g3, g4⟩⟩ (Int.fmod_nonneg_of_pos _ (by omega)) (Int.fmod_lt_of_pos _ (by omega))
    · have kp1 : Kp d H H := Kp.refl
      obtain ⟨t0, t1, r', hd1, g0, g1, g2, g3, g4⟩ : ∃ t0 t1 r', H d = some (.lst (V.int t0 :: V.int t1 :: r'.map V.int)) ∧ 0 ≤ t0 ∧ t0 < 2147483647 ∧ 0 ≤ t1 ∧ (∀ z ∈ r', (0 : Int) ≤ z) ∧ r'.length ≤ 63 :=
        ⟨s0, s1, r, hd', h0, h1, h2, h3, h4⟩
      refine ⟨_, rfl, d, _, 1, V.int t1, rfl, rfl, SqL.of hd1, at1, _, _, rfl, rfl, _, rfl, ite2 (fun c3 => ?_) (fun c3 => ?_)⟩
      · have c3' : 0 < t1 := of_decide_eq_true c3
        refine ⟨_, rfl, d, _, 1, V.int t1, rfl, rfl, SqL.of hd1, at1, _, rfl, _, _, rfl, rfl, (by omega), ?_⟩
        refine ⟨_, rfl, d, _, 1, V.int t1, rfl, rfl, SqL.of hd1, at1, _, rfl, _, _, rfl, rfl, ⟨by omega, by omega⟩, _, rfl, d, _, _, 1, rfl, rfl, hd1, ix1, ?_⟩
        exact ⟨_, rfl, k _ (t0 :: t1.fdiv lim :: r') _ (kp1.trans kp_upd) upd_same ⟨⟨t0, _, r', rfl, g0, g1, Int.fdiv_nonneg g2 (by omega), g3, g4⟩⟩ (Int.fmod_nonneg_of_pos _ (by omega)) (Int.fmod_lt_of_pos _ (by omega))⟩
      · refine ⟨_, rfl, d, _, 0, V.int t0, rfl, rfl, SqL.of hd1, at0, _, _, rfl, rfl, .inl ⟨by omega, by omega⟩, _, _, rfl, rfl, _, _, rfl, rfl, (by show (0 : Int) < 2147483647; decide), _, rfl, d, _, _, 0, rfl, rfl, hd1, ix0, ?_⟩
        refine ⟨_, rfl, d, _, 0, V.int ((t0 * 48271 + 11) % 2147483647), rfl, rfl, SqL.of upd_same, at0, _, _, rfl, rfl, ⟨by decide, by decide⟩, _, rfl, _, _, rfl, rfl, (by omega), ?_⟩
        exact k _ ((t0 * 48271 + 11) % 2147483647 :: t1 :: r') _ (kp1.trans kp_upd) upd_same ⟨⟨_, _, r', rfl, Int.emod_nonneg _ (by decide), Int.emod_lt_of_pos _ (by decide), g2, g3, g4⟩⟩ (Int.fmod_nonneg_of_pos _ (by omega)) (Int.fmod_lt_of_pos _ (by omega))
end
end Dk

set_option Elab.async false
set_option linter.all false
set_option maxRecDepth 100000
set_option maxHeartbeats 4000000
namespace Dk
open PySem PySem.Spec PyProof.Rows L2 TL
theorem at_mem {L : List Int} {r : Int} (h0 : 0 ≤ r) (h1 : r < L.length) : ∃ z, z ∈ L ∧ atI (L.map V.int) r = some (.int z) := by
  obtain ⟨n, rfl⟩ := Int.eq_ofNat_of_zero_le h0
  have hn : n < L.length := by omega
  exact ⟨L[n], List.getElem_mem hn, atI_nat (by rw [List.getElem?_map, List.getElem?_eq_getElem hn]; rfl)⟩
theorem joinL_nil : ∀ ls : List (List Nat), joinL [] ls = ls.flatten
  | [] => rfl
  | [p] => by simp [joinL]
  | p :: q :: r => by
    show p ++ ([] ++ joinL [] (q :: r)) = _
    rw [List.nil_append, joinL_nil (q :: r)]
    rfl
def one (c : Nat) : Str := ⟨#[c]⟩
theorem tl_one (c : Nat) : tl (one c) = [c] := rfl
theorem tl_joined (cs : List Nat) : tl (Txt.join Str.empty (cs.map one)) = cs := by
  rw [join_eq, tl_join, show tl Str.empty = [] from rfl, joinL_nil, List.map_map]
  induction cs with
  | nil => rfl
  | cons c cs ih => show [c] ++ (List.map (tl ∘ one) cs).flatten = _; rw [ih]; rfl
theorem ones_sum (cs : List Nat) : ((cs.map one).map (·.length)).sum = cs.length := by
  induction cs with
  | nil => rfl
  | cons c cs ih => rw [List.map_cons, List.map_cons, List.sum_cons, ih, List.length_cons]; show 1 + _ = _; omega
/-- a timetable -/
structure IsTab (t : Str) : Prop where
  len : (tl t).length ∈ [1, 2, 3, 4, 6, 8, 12, 24]
  ho : ∀ c ∈ tl t, c = 104 ∨ c = 111
theorem IsTab.pos {t : Str} (h : IsTab t) : 1 ≤ (tl t).length ∧ (tl t).length ≤ 24 := by
  have := h.len
  simp only [List.mem_cons, List.not_mem_nil, or_false] at this
  omega
def spTable : Sp := fun vs H Q _ => ∃ (d : Addr) (st : List Int), vs = [.ref d] ∧ H d = some (.lst (st.map V.int)) ∧ Good st ∧
  ∀ (H' : Hp) (st' : List Int) (t : Str), Kp d H H' → H' d = some (.lst (st'.map V.int)) → Good st' → IsTab t → Q (.str t) H'
structure TxtB (K : PySem.W.Frag) (mg : Str → Option Value) (fB : Addr) (fdB : FuncData) : Prop where
  g : mg "_law_below" = some (.ref fB)
  F : Fun K "_law_below" "_law_below" sBelow fB fdB
  b : Binds K fdB ["_law_d", "_law_limit"] []
section
variable {P : Program} {w : World} {K : PySem.W.Frag} {mg : Str → Option Value} {base : Heap}
theorem scTable : FnScope ["_law_d", "_law_length_here", "_law_k"] ["_law_d"] (defScope sTable) := ⟨rfl, rfl, rfl, by decide +kernel, rfl, by decide +kernel, by decide +kernel⟩
theorem ok_table {f fB : Addr} {fd fdB : FuncData} (F : Fun K "_law_table" "_law_table" sTable f fd) (T : TxtA mg) (B : TxtB K mg fB fdB) : FnOk P w K mg base CX0 2 f fd ["_law_d"] spTable := by
  have GB : FnOk P w K mg base CX0 1 fB fdB ["_law_d", "_law_limit"] spBelow := ok_below B.F T
  refine F.ok scTable (fun vs H Q E h => ?_) (fun cdv A outer s H vs Q E hr h => ?_)
  · obtain ⟨d, st, rfl, _⟩ := h
    rfl
  · obtain ⟨d, st, rfl, hd, hg, k⟩ := h
    refine ⟨_, pss_cons (ps_set (i := 1) scTable.nd rfl (.inl rfl) (pe_ix ix_list (pe_lst (pa_cons pe_int (pa_cons pe_int (pa_cons pe_int (pa_cons pe_int (pa_cons pe_int (pa_cons pe_int (pa_cons pe_int (pa_cons pe_int (pa_cons pe_int pa_nil))))))))))
        (pe_call GB hr rfl B.g B.F.kp B.b .nil pass0 (pa_cons (pv 0) (pa_cons (pe_ix ix_list (pe_lst (pa_cons pe_int (pa_cons pe_int (pa_cons pe_int pa_nil)))) (pe_call GB hr rfl B.g B.F.kp B.b .nil pass0 (pa_cons (pv 0) (pa_cons pe_int pa_nil))) (fun _ _ => rfl)) pa_nil))) (fun _ _ => rfl)))
      (pss_one (ps_ret (pe_join pe_str
        (pe_lc (own := [("_law_k", 2)]) (g := gName 2) (by rfl) scTable.nd (pi_range1 rfl T.range (pa_cons (pv 1) pa_nil)) (blkOk_by (N := ["_law_d", "_law_length_here", "_law_k"]) (sc := defScope sTable) (by decide +kernel))
          (fun _ _ _ _ _ => pg_name (i := 2) scTable.nd rfl (Or.inl rfl)) (fun _ _ _ _ _ => pts_nil)
          (fun _ _ _ _ _ => pe_item_str pe_str (pe_call GB hr rfl B.g B.F.kp B.b .nil pass0 (pa_cons (pv 0) (pa_cons pe_int pa_nil))) (fun _ _ => rfl)))))), ?_⟩
    refine ⟨by show 9 ≤ sizeLine; decide, fun l1 hl1 => ?_⟩
    have nl1 : d ≠ l1 := ne_of_none hd hl1
    refine ⟨_, rfl, by show 3 ≤ sizeLine; decide, fun l2 hl2 => ?_⟩
    have hd0 : (upd (upd H l1 (.lst [.int 1, .int 2, .int 3, .int 4, .int 4, .int 6, .int 8, .int 12, .int 24])) l2 (.lst [.int 5, .int 7, .int 9])) d = some (.lst (st.map V.int)) := same_upd hl2 _ _ (same_upd hl1 _ _ hd)
    have nl12 : l1 ≠ l2 := ne_of_none upd_same hl2
    have nl2 : d ≠ l2 := ne_of_none (same_upd hl1 _ _ hd) hl2
    refine ⟨_, rfl, d, 3, st, rfl, hd0, hg, by decide, by decide, fun H1 st1 r1 k1 hd1 hg1 r10 r11 => ?_⟩
    have e2 : H1 l2 = some (.lst (([5, 7, 9] : List Int).map V.int)) := k1 _ _ nl2.symm upd_same
    have e1 : H1 l1 = some (.lst (([1, 2, 3, 4, 4, 6, 8, 12, 24] : List Int).map V.int)) := k1 _ _ nl1.symm (by rw [upd_ne nl12]; exact upd_same)
    have kA : Kp d H H1 := (sKp ((same_upd hl1).trans (same_upd hl2))).trans k1
    obtain ⟨z1, hz1, a1⟩ := at_mem (L := [5, 7, 9]) r10 (by simpa using r11)
    refine ⟨l2, _, r1, _, rfl, rfl, SqL.of e2, a1, d, z1, st1, rfl, hd1, hg1, ?_, ?_, fun H2 st2 r2 k2 hd2 hg2 r20 r21 => ?_⟩
    · simp at hz1; omega
    · simp at hz1; omega
    have e3 := k2 _ _ nl1.symm e1
    have kB : Kp d H H2 := kA.trans k2
    obtain ⟨z2, hz2, a2⟩ := at_mem (L := [1, 2, 3, 4, 4, 6, 8, 12, 24]) r20 (by simp at hz1 ⊢; omega)
    refine ⟨l1, _, r2, _, rfl, rfl, SqL.of e3, a2, ?_⟩
    have hz3 : 1 ≤ z2 ∧ z2 ≤ 24 ∧ z2.toNat ∈ [1, 2, 3, 4, 6, 8, 12, 24] := by
      simp only [List.mem_cons, List.not_mem_nil, or_false] at hz2
      rcases hz2 with h | h | h | h | h | h | h | h | h <;> subst h <;> decide
    refine ⟨⟨_, rfl⟩, _, rfl, z2, rfl, by omega, by omega, fun D hD => lc_range (lo := 0) (n := z2.toNat)
      (fun i H3 => ∃ (st3 : List Int) (cs : List Nat), Kp d H2 H3 ∧ H3 d = some (.lst (st3.map V.int)) ∧ Good st3 ∧ H3 D = some (.lst ((cs.map one).map V.str)) ∧ cs.length = i ∧ ∀ c ∈ cs, c = 104 ∨ c = 111)
      ⟨st2, [], sKp (same_upd hD), same_upd hD _ _ hd2, hg2, upd_same, rfl, fun c hc => by cases hc⟩ ?_ ?_⟩
    · rintro i H3 hi ⟨st3, cs, k3, hd3, hg3, eD, hcl, hc⟩
      have ndD : d ≠ D := ne_of_none hd2 hD
      refine ⟨rfl, _, rfl, d, 2, st3, rfl, hd3, hg3, by decide, by decide, fun H4 st4 r4 k4 hd4 hg4 r40 r41 => ?_⟩
      have add : ∀ (c : Nat), (c = 104 ∨ c = 111) → ∃ acc, H4 D = some (.lst acc) ∧ acc.length < sizeLine ∧
          ∃ (st3 : List Int) (cs : List Nat), Kp d H2 (upd H4 D (.lst (acc ++ [V.str (one c)]))) ∧ (upd H4 D (.lst (acc ++ [V.str (one c)]))) d = some (.lst (st3.map V.int)) ∧ Good st3 ∧ (upd H4 D (.lst (acc ++ [V.str (one c)]))) D = some (.lst ((cs.map one).map V.str)) ∧ cs.length = i + 1 ∧ ∀ c ∈ cs, c = 104 ∨ c = 111 := fun c hc1 => by
        refine ⟨_, k4 _ _ ndD.symm eD, ?_, st4, cs ++ [c], fun b o nb eb => ?_, by rw [upd_ne ndD]; exact hd4, hg4, by rw [upd_same]; simp, by rw [List.length_append, hcl]; rfl, fun x hx => ?_⟩
        · rw [List.length_map, List.length_map, hcl]; exact Nat.lt_of_le_of_lt (by omega : i ≤ 1000) (by decide)
        · rw [upd_ne (ne_of_none eb hD)]; exact k4 _ _ nb (k3 _ _ nb eb)
        · rcases List.mem_append.mp hx with hx | hx
          · exact hc x hx
          · rw [List.mem_singleton.mp hx]; exact hc1
      have r4c : r4 = 0 ∨ r4 = 1 := by omega
      rcases r4c with rfl | rfl
      · exact ⟨_, 0, 104, rfl, rfl, by decide, by decide, by decide +kernel, by decide +kernel, add 104 (.inl rfl)⟩
      · exact ⟨_, 1, 111, rfl, rfl, by decide, by decide, by decide +kernel, by decide +kernel, add 111 (.inr rfl)⟩
    · rintro H3 ⟨st3, cs, k3, hd3, hg3, eD, hcl, hc⟩
      refine ⟨_, D, cs.map one, rfl, rfl, .inl (SqL.of eD), ?_, ?_⟩
      · rw [ones_sum, hcl]
        have : (Str.ofString "").length = 0 := by decide +kernel
        rw [this]
        omega
      · refine k _ st3 _ (kB.trans k3) hd3 hg3 ⟨?_, ?_⟩
        · have e := tl_joined cs
          rw [show tl (Txt.join (Str.ofString "") (cs.map one)) = cs from e, hcl]
          exact hz3.2.2
        · rw [show tl (Txt.join (Str.ofString "") (cs.map one)) = cs from tl_joined cs]
          exact hc
end
end Dk

set_option Elab.async false
set_option linter.all false
set_option maxRecDepth 100000
set_option maxHeartbeats 4000000
namespace Dk
open PySem PySem.Spec PyProof.Rows L2 TL
/-! ### the period -/
def lens (ts : List Str) : List Nat := ts.map fun t => (tl t).length
def lcmL : List Nat → Nat → Nat
  | [], a => a
  | n :: r, a => lcmL r (a.lcm n)
def per (ts : List Str) : Nat := lcmL (lens ts) 1
theorem lcmL_dvd : ∀ (l : List Nat) (a m : Nat), a ∣ m → (∀ n ∈ l, n ∣ m) → lcmL l a ∣ m
  | [], a, m, h, _ => h
  | n :: r, a, m, h, k => lcmL_dvd r _ m (Nat.lcm_dvd h (k n (List.mem_cons_self ..))) fun x hx => k x (List.mem_cons_of_mem _ hx)
theorem dvd_lcmL : ∀ (l : List Nat) (a : Nat), a ∣ lcmL l a ∧ ∀ n ∈ l, n ∣ lcmL l a
  | [], a => ⟨Nat.dvd_refl _, fun n h => by cases h⟩
  | n :: r, a => by
    have ih := dvd_lcmL r (a.lcm n)
    refine ⟨Nat.dvd_trans (Nat.dvd_lcm_left a n) ih.1, fun x hx => ?_⟩
    rcases List.mem_cons.mp hx with e | hx
    · rw [e]; exact Nat.dvd_trans (Nat.dvd_lcm_right a n) ih.1
    · exact ih.2 x hx
def Tabs (ts : List Str) : Prop := ∀ t ∈ ts, IsTab t
theorem IsTab.dvd {t : Str} (h : IsTab t) : (tl t).length ∣ 24 := by
  have := h.len
  simp only [List.mem_cons, List.not_mem_nil, or_false] at this
  rcases this with e | e | e | e | e | e | e | e <;> rw [e] <;> decide
theorem per_24 {ts : List Str} (h : Tabs ts) : per ts ∣ 24 := lcmL_dvd _ _ _ (Nat.one_dvd _) fun n hn => by
  obtain ⟨t, ht, rfl⟩ := List.mem_map.mp hn
  exact (h t ht).dvd
theorem per_le {ts : List Str} (h : Tabs ts) : per ts ≤ 24 := Nat.le_of_dvd (by decide) (per_24 h)
theorem per_pos {ts : List Str} (h : Tabs ts) : 1 ≤ per ts := Nat.pos_of_ne_zero fun e => by
  have := per_24 h
  rw [e] at this
  exact absurd (Nat.eq_zero_of_zero_dvd this) (by decide)
theorem dvd_per {ts : List Str} {t : Str} (h : t ∈ ts) : (tl t).length ∣ per ts := (dvd_lcmL _ _).2 _ (List.mem_map.mpr ⟨t, h, rfl⟩)
theorem per_min {ts : List Str} {m : Nat} (h : ∀ t ∈ ts, (tl t).length ∣ m) : per ts ∣ m := lcmL_dvd _ _ _ (Nat.one_dvd _) fun n hn => by
  obtain ⟨t, ht, rfl⟩ := List.mem_map.mp hn
  exact h t ht
theorem IsTab.strOk {t : Str} (h : IsTab t) : PyData.strOk t = true := by
  unfold PyData.strOk
  rw [← Array.all_toList, List.all_eq_true]
  intro c hc
  have := h.ho c hc
  simp only [decide_eq_true_eq]
  omega
theorem dpAll_strs {K : PySem.W.Frag} {H : Hp} : ∀ ys : List Str, DpAll K H (ys.map V.str) (ys.map PyData.str)
  | [] => .nil
  | y :: ys => .cons (.str y) (dpAll_strs ys)
theorem shaped_strs : ∀ {ys : List Str}, Tabs ys → SeqAt.shaped (.list (ys.map PyData.str)) = true := by
  intro ys h
  have h1 : PyData.canLayAll0 (ys.map PyData.str) = true := by
    induction ys with
    | nil => rfl
    | cons y ys ih =>
      show (PyData.canLay0 (.str y) && PyData.canLayAll0 (ys.map PyData.str)) = true
      rw [ih fun t ht => h t (List.mem_cons_of_mem _ ht)]
      have := (h y (List.mem_cons_self ..)).strOk
      simp [PyData.canLay0, this]
  have h2 : PyData.depthAll (ys.map PyData.str) = 0 := by
    clear h h1
    induction ys with
    | nil => rfl
    | cons y ys ih => show max (PyData.depth (.str y)) (PyData.depthAll _) = 0; rw [ih]; rfl
  unfold SeqAt.shaped
  simp only [PyData.canLay0, PyData.depth, h1, h2]
  decide
theorem eqv_strs (ys : List Str) : PyData.eqv (.list (ys.map PyData.str)) (.list []) = ys.isEmpty := by
  cases ys <;> rfl
theorem fmod_pos {n m : Nat} (hm : 1 ≤ m) : (0 < (n : Int).fmod (m : Int)) ↔ ¬ m ∣ n := by
  have e : (n : Int).fmod (m : Int) = ((n % m : Nat) : Int) := by
    rw [Int.fmod_eq_emod_of_nonneg _ (by omega)]; rfl
  rw [e]
  constructor
  · intro h d
    rw [Nat.mod_eq_zero_of_dvd d] at h
    exact absurd h (by decide)
  · intro h
    have : n % m ≠ 0 := fun q => h (Nat.dvd_of_mod_eq_zero q)
    omega
/-! ### lcm -/
def rLcm : List V → Hp → VK → Prop := fun vs H Q => ∃ a b : Nat, vs = [.int (a : Int), .int (b : Int)] ∧ a ≤ 1000 ∧ b ≤ 1000 ∧ Q (.int ((Nat.lcm a b : Nat) : Int)) H
theorem cr_lcm {X : Cx} : CallR X (.builtin "math.lcm") rLcm := by
  intro pins s σ H vs us Q I r h
  obtain ⟨a, b, rfl, ha, hb, q⟩ := h
  obtain ⟨t, u, rfl⟩ := Vals.int2 r
  have e : (Nat.lcm 1 (a : Int).natAbs).lcm (b : Int).natAbs = Nat.lcm a b := by
    rw [Nat.lcm_one_left]; rfl
  have hle : Nat.lcm a b ≤ 1000000 := by
    have h1 : Nat.lcm a b ≤ a * b := Nat.div_le_self _ _
    have h2 : a * b ≤ 1000 * 1000 := Nat.mul_le_mul ha hb
    omega
  refine PySem.W.mg_lcm_v (c := ((Nat.lcm a b : Nat) : Int)) (by simp; omega) (by simp; omega) (by rw [e]) ?_ ⟨.int _, H, I.tok _, ⟨_, rfl⟩, q⟩
  rw [bitsLine_eq]
  have h3 : ((Nat.lcm a b : Nat) : Int).natAbs.log2 ≤ ((Nat.lcm a b : Nat) : Int).natAbs := Nat.log2_le_self _
  have h4 : ((Nat.lcm a b : Nat) : Int).natAbs = Nat.lcm a b := rfl
  omega
theorem lcmL_take {l : List Nat} {i x a : Nat} (h : l[i]? = some x) : lcmL (l.take (i + 1)) a = (lcmL (l.take i) a).lcm x := by
  rw [take_more h]
  generalize l.take i = p
  induction p generalizing a with
  | nil => rfl
  | cons y p ih => exact ih (a := a.lcm y)
theorem Tabs.take {ts : List Str} (h : Tabs ts) (n : Nat) : Tabs (ts.take n) := fun t ht => h t (List.mem_of_mem_take ht)
theorem lens_take (ts : List Str) (n : Nat) : lens (ts.take n) = (lens ts).take n := by unfold lens; rw [List.map_take]
theorem small_str {t : Str} (h : t.length ≤ 1000) : t.length ≤ sizeLine := Nat.le_trans h (by decide)
theorem IsTab.size {t : Str} (h : IsTab t) : t.length ≤ sizeLine := small_str (by rw [len_tl t]; have := h.pos.2; omega)
theorem filt1 {α : Type} {p : α → Bool} {x : α} (h : p x = true) : [x].filter p = [x] := by simp [h]
theorem filt0 {α : Type} {p : α → Bool} {x : α} (h : p x = false) : [x].filter p = [] := by simp [h]
def spPeriod (K : PySem.W.Frag) : Sp := fun vs H Q _ => ∃ (a : Addr) (ts : List Str), vs = [.ref a] ∧ SqT K H a (ts.map V.str) ∧ Tabs ts ∧ Q (.int ((per ts : Nat) : Int)) H
def spLength (K : PySem.W.Frag) : Sp := fun vs H Q _ => ∃ (a : Addr) (ts : List Str), vs = [.ref a] ∧ SqT K H a (ts.map V.str) ∧ Tabs ts ∧ ts.length ≤ 6 ∧ ∀ H', Same H H' → Q (.int ((per ts : Nat) : Int)) H'
structure TxtC (mg : Str → Option Value) : Prop where
  lcm : mg "lcm" = some (.builtin "math.lcm")
section
variable {P : Program} {w : World} {K : PySem.W.Frag} {mg : Str → Option Value} {base : Heap}
theorem scPeriod : FnScope ["tables", "ticks", "table"] ["tables"] (defScope sPeriod) := ⟨rfl, rfl, rfl, by decide +kernel, rfl, by decide +kernel, by decide +kernel⟩
theorem ok_period {f : Addr} {fd : FuncData} (F : Fun K "common_period" "common_period" sPeriod f fd) (T : TxtA mg) (TC : TxtC mg) : FnOk P w K mg base CX0 1 f fd ["tables"] (spPeriod K) := by
  refine F.ok scPeriod (fun vs H Q E h => ?_) (fun cdv A outer s H vs Q E hr h => ?_)
  · obtain ⟨a, ts, rfl, _⟩ := h
    rfl
  · obtain ⟨a, ts, rfl, hS, hT, k⟩ := h
    refine ⟨_, pss_cons (ps_set (i := 1) scPeriod.nd rfl (.inl rfl) pe_int)
      (pss_cons (ps_for PassesOwn.never rfl (pi_tup (pv 0)) (pg_name (i := 2) scPeriod.nd rfl (.inl rfl))
        (pss_one (ps_set (i := 1) scPeriod.nd rfl (.inl rfl) (pe_callBfun cr_lcm (by rfl) TC.lcm (pa_cons (pv 1) (pa_cons (pe_callB call_len_str (by rfl) T.len PySem.boot_len (pa_cons (pv 2) pa_nil)) pa_nil))))))
      (pss_one (ps_ret (pv 1)))), ?_⟩
    refine ⟨_, rfl, a, rfl, ⟨_, hS⟩, for_tup (K := K) (a := a) (xs := ts.map V.str) (fun i σ H' => ∃ v : Option V, σ = [some (.ref a), some (.int ((per (ts.take i) : Nat) : Int)), v] ∧ H' = H)
      ⟨none, rfl, rfl⟩ (fun i σ H' _ ⟨_, _, e⟩ => by rw [e]; exact hS) ?_ ?_⟩
    · rintro i y σ H' hi ⟨v, rfl, rfl⟩
      obtain ⟨t, ht, rfl⟩ := map_at hi
      have hm : t ∈ ts := List.mem_of_getElem? ht
      have hit := hT t hm
      have ex : (lens ts)[i]? = some (tl t).length := by unfold lens; rw [List.getElem?_map, ht]; rfl
      refine ⟨_, rfl, _, rfl, _, rfl, hit.size, per (ts.take i), (tl t).length, ?_, ?_, ?_, ?_⟩
      · rw [len_tl t]
      · have := per_le (hT.take i); omega
      · have := hit.pos.2; omega
      · refine ⟨some (.str t), ?_, rfl⟩
        show _ = [some (V.ref a), some (V.int ((per (ts.take (i + 1)) : Nat) : Int)), some (V.str t)]
        unfold per
        rw [lens_take, lens_take, lcmL_take ex]
        rfl
    · rintro σ H' ⟨v, rfl, rfl⟩
      rw [List.length_map, List.take_length]
      exact ⟨_, rfl, k⟩
theorem scLength : FnScope ["_law_tables", "_law_length_here", "_law_table_here"] ["_law_tables"] (defScope sLength) := ⟨rfl, rfl, rfl, by decide +kernel, rfl, by decide +kernel, by decide +kernel⟩
theorem ok_length {f : Addr} {fd : FuncData} (F : Fun K "_law_length" "_law_length" sLength f fd) (T : TxtA mg) : FnOk P w K mg base CX0 1 f fd ["_law_tables"] (spLength K) := by
  refine F.ok scLength (fun vs H Q E h => ?_) (fun cdv A outer s H vs Q E hr h => ?_)
  · obtain ⟨a, ts, rfl, _⟩ := h
    rfl
  · obtain ⟨a, ts, rfl, hS, hT, hl6, k⟩ := h
    refine ⟨_, pss_cons (ps_set (i := 1) scLength.nd rfl (.inr rfl) pe_int)
      (pss_cons (ps_while PassesOwn.never (pt_cmpR (op_neD hr.units) (pe_lc (own := [("_law_table_here", 2)]) (g := gName 2) (by rfl) scLength.nd (pi_tup (pv 0)) (blkOk_by (N := ["_law_tables", "_law_length_here", "_law_table_here"]) (sc := defScope sLength) (by decide +kernel))
          (fun _ _ _ _ _ => pg_name (i := 2) scLength.nd rfl (Or.inl rfl)) (fun _ _ _ _ _ => pts_one (pt_cmpR op_gt (pe_op op_modN (pv 1) (pe_callB call_len_str (by rfl) T.len PySem.boot_len (pa_cons (pv 2) pa_nil))) pe_int (nomark _))) (fun _ _ _ _ _ => pv 2)) (pe_lst pa_nil) (nomark _))
        (pss_one (ps_set (i := 1) scLength.nd rfl (.inr rfl) (pe_op op_add (pv 1) pe_int))))
      (pss_one (ps_ret (pv 1)))), ?_⟩
    refine ⟨fun m σ H' => ∃ n : Nat, σ = [some (.ref a), some (.int (n : Int)), none] ∧ Same H H' ∧ 1 ≤ n ∧ n ≤ per ts ∧ m = per ts - n, ⟨_, 1, rfl, Same.refl H, Nat.le_refl _, per_pos hT, rfl⟩, ?_⟩
    rintro m σ H' ⟨n, rfl, s1, h1, h2, rfl⟩
    have hS1 := sSqT s1 hS
    refine ⟨_, rfl, a, rfl, ⟨_, hS1⟩, fun D hD => lc_tup (K := K) (a := a) (xs := ts.map V.str)
      (fun i H3 => ∃ ys : List Str, Same H' H3 ∧ H3 D = some (.lst (ys.map V.str)) ∧ ys = (ts.take i).filter (fun t => decide (¬ (tl t).length ∣ n)) ∧ ys.length ≤ i)
      ⟨[], same_upd hD, upd_same, rfl, Nat.le_refl _⟩ (fun i H3 _ ⟨_, e, _⟩ => sSqT e hS1) ?_ ?_⟩
    · rintro i y H3 hi ⟨ys, s3, eD, hys, hyl⟩
      obtain ⟨t, ht, rfl⟩ := map_at hi
      have hil : i < ts.length := (List.getElem?_eq_some_iff.mp ht).1
      have hit := hT t (List.mem_of_getElem? ht)
      have hlen : t.length = (tl t).length := len_tl t
      refine ⟨rfl, _, rfl, _, rfl, _, rfl, hit.size, _, _, rfl, rfl, (by have := hit.pos.1; omega), _, _, rfl, rfl, _, rfl, ite2 (fun c => ?_) (fun c => ?_)⟩
      · have c' := of_decide_eq_true c
        rw [hlen, fmod_pos hit.pos.1] at c'
        refine ⟨_, rfl, _, eD, ?_, ys ++ [t], fun b o eb => ?_, ?_, ?_, ?_⟩
        · rw [List.length_map]; exact Nat.lt_of_le_of_lt (by omega : ys.length ≤ 1000) (by decide)
        · rw [upd_ne (ne_of_none eb hD)]; exact s3 _ _ eb
        · rw [upd_same]; simp
        · rw [take_more ht, List.filter_append, ← hys, show List.filter (fun t => decide (¬ (tl t).length ∣ n)) [t] = [t] from filt1 (decide_eq_true c')]
        · rw [List.length_append, List.length_singleton]; omega
      · have c' : ¬ (0 < (n : Int).fmod (t.length : Int)) := fun q => c (decide_eq_true q)
        rw [hlen, fmod_pos hit.pos.1] at c'
        refine ⟨ys, s3, eD, ?_, by omega⟩
        rw [take_more ht, List.filter_append, ← hys, show List.filter (fun t => decide (¬ (tl t).length ∣ n)) [t] = [] from filt0 (decide_eq_false c'), List.append_nil]
    · rintro H3 ⟨ys, s3, eD, hys, hyl⟩
      rw [List.length_map, List.take_length] at hys
      refine ⟨Nat.zero_le _, fun l hl => ?_⟩
      have eD2 := same_upd (o := .lst []) hl _ _ eD
      have hTy : Tabs ys := fun t ht => hT t (by rw [hys] at ht; exact (List.mem_filter.mp ht).1)
      refine ⟨.list (ys.map PyData.str), .list [], .lst (SqL.of eD2) (dpAll_strs ys), .lst (SqL.of upd_same) .nil, shaped_strs hTy, by decide, _, rfl, ?_⟩
      rw [eqv_strs]
      have s5 : Same H (upd H3 l (.lst [])) := (s1.trans s3).trans (same_upd hl)
      cases hy : ys with
      | nil =>
        refine iteF ⟨_, rfl, ?_⟩
        have all : ∀ t ∈ ts, (tl t).length ∣ n := fun t ht => by
          by_cases d : (tl t).length ∣ n
          · exact d
          · have : t ∈ ys := by rw [hys]; exact List.mem_filter.mpr ⟨ht, decide_eq_true d⟩
            rw [hy] at this
            cases this
        have e : n = per ts := Nat.le_antisymm h2 (Nat.le_of_dvd h1 (per_min all))
        rw [e]
        exact k _ s5
      | cons t0 ys' =>
        refine iteT ?_
        have hne : n ≠ per ts := fun e => by
          have hm : t0 ∈ ts.filter (fun t => decide (¬ (tl t).length ∣ n)) := by rw [← hys, hy]; exact List.mem_cons_self ..
          have := List.mem_filter.mp hm
          exact (of_decide_eq_true this.2) (by rw [e]; exact dvd_per this.1)
        refine ⟨fun σ' H'' => ∃ n' : Nat, σ' = [some (.ref a), some (.int (n' : Int)), none] ∧ Same H H'' ∧ 1 ≤ n' ∧ n' ≤ per ts ∧ n' = n + 1, fun σ' H'' ⟨n', e1, e2, e3, e4, e5⟩ => ⟨per ts - n', by omega, n', e1, e2, e3, e4, rfl⟩, ?_⟩
        exact ⟨_, rfl, _, _, rfl, rfl, n + 1, rfl, s5, by omega, by omega, rfl⟩
end
end Dk

set_option Elab.async false
set_option linter.all false
set_option maxRecDepth 100000
set_option maxHeartbeats 4000000
namespace Dk
open PySem PySem.Spec PyProof.Rows L2 TL
/-! ### pairs -/
abbrev Pr := Int × Int
def PrAt (H : Hp) (x : V) (r : Pr) : Prop := ∃ t, x = .ref t ∧ H t = some (.tup [.int r.1, .int r.2])
def Prs (H : Hp) (xs : List V) (rs : List Pr) : Prop := Paired (PrAt H) xs rs
theorem Prs.app {H : Hp} : ∀ {xs : List V} {rs : List Pr} {x : V} {r : Pr}, Prs H xs rs → PrAt H x r → Prs H (xs ++ [x]) (rs ++ [r])
  | [], [], _, _, .nil, h => .cons h .nil
  | _ :: _, _ :: _, _, _, .cons a b, h => .cons a (Prs.app b h)
theorem Prs.mono {H H' : Hp} : ∀ {xs : List V} {rs : List Pr}, (∀ t ys, H t = some (.tup ys) → H' t = some (.tup ys)) → Prs H xs rs → Prs H' xs rs
  | [], [], _, .nil => .nil
  | _ :: _, _ :: _, k, .cons ⟨t, e, h⟩ b => .cons ⟨t, e, k _ _ h⟩ (Prs.mono k b)
theorem kp_tup {d : Addr} {H H' : Hp} {xs : List V} (k : Kp d H H') (hd : H d = some (.lst xs)) : ∀ t ys, H t = some (.tup ys) → H' t = some (.tup ys) := fun t ys h => k t _ (fun e => by rw [e, hd] at h; cases h) h
theorem Prs.len {H : Hp} {xs : List V} {rs : List Pr} (h : Prs H xs rs) : xs.length = rs.length := Paired.length h
def kf (H : Hp) : V → Pr
  | .ref t => match H t with
    | some (.tup [.int i, .int j]) => (i, j)
    | _ => (0, 0)
  | _ => (0, 0)
theorem kf_at {H : Hp} {x : V} {r : Pr} (h : PrAt H x r) : kf H x = r := by
  obtain ⟨t, rfl, e⟩ := h
  show (match H t with | some (.tup [.int i, .int j]) => (i, j) | _ => (0, 0)) = r
  rw [e]
theorem Prs.kf {H : Hp} : ∀ {xs : List V} {rs : List Pr}, Prs H xs rs → xs.map (kf H) = rs
  | [], [], .nil => rfl
  | _ :: _, _ :: _, .cons a b => by rw [List.map_cons, kf_at a, Prs.kf b]
theorem Prs.mem {H : Hp} : ∀ {xs : List V} {rs : List Pr}, Prs H xs rs → ∀ x ∈ xs, PrAt H x (Dk.kf H x)
  | [], [], .nil, _, h => by cases h
  | _ :: _, _ :: _, .cons a b, x, h => by
    rcases List.mem_cons.mp h with rfl | h
    · rw [kf_at a]; exact a
    · exact Prs.mem b x h
theorem Prs.of_mem {H : Hp} : ∀ {xs : List V}, (∀ x ∈ xs, PrAt H x (Dk.kf H x)) → Prs H xs (xs.map (Dk.kf H))
  | [], _ => .nil
  | x :: xs, h => .cons (h x (List.mem_cons_self ..)) (Prs.of_mem fun y hy => h y (List.mem_cons_of_mem _ hy))
/-- r before s -/
def plt (r s : Pr) : Prop := r.1 < s.1 ∨ (r.1 = s.1 ∧ r.2 < s.2)
def prR (r : Pr) : PyData := .tuple [.int r.1, .int r.2]
theorem prR_eqv (r s : Pr) : PyData.eqv (prR r) (prR s) = decide (r = s) := by
  obtain ⟨a, b⟩ := r
  obtain ⟨c, d⟩ := s
  show (a == c && (b == d && true)) = decide ((a, b) = (c, d))
  by_cases h1 : a = c
  · by_cases h2 : b = d
    · subst h1 h2; simp
    · simp [h2]
  · simp [h1]
theorem any_eqv (rs : List Pr) (r : Pr) : ((rs.map prR).any fun z => PyData.eqv z (prR r)) = decide (r ∈ rs) := by
  induction rs with
  | nil => rfl
  | cons s rs ih =>
    rw [List.map_cons, List.any_cons, ih, prR_eqv]
    by_cases h : s = r
    · subst h; simp
    · have h' : r ≠ s := fun e => h e.symm
      simp [h, h']
theorem prR_shaped (r : Pr) : SeqAt.shaped (prR r) = true := by
  unfold SeqAt.shaped prR
  simp [PyData.canLay0, PyData.canLayAll0, PyData.depth, PyData.depthAll]
theorem prRs_shaped (rs : List Pr) : SeqAt.shaped (.list (rs.map prR)) = true := by
  have h1 : PyData.canLayAll0 (rs.map prR) = true := by
    induction rs with
    | nil => rfl
    | cons r rs ih => show (PyData.canLay0 (prR r) && PyData.canLayAll0 (rs.map prR)) = true; rw [ih]; rfl
  have h2 : PyData.depthAll (rs.map prR) ≤ 1 := by
    clear h1
    induction rs with
    | nil => exact Nat.zero_le _
    | cons r rs ih => show max (PyData.depth (prR r)) (PyData.depthAll (rs.map prR)) ≤ 1; exact Nat.max_le.mpr ⟨by show max 0 (max 0 0) + 1 ≤ 1; decide, ih⟩
  have h3 : PyData.depth (.list (rs.map prR)) ≤ 64 := by
    show PyData.depthAll (rs.map prR) + 1 ≤ 64
    omega
  unfold SeqAt.shaped
  rw [show PyData.canLay0 (.list (rs.map prR)) = true from h1, decide_eq_true h3]
  rfl
theorem dp_pr {K : PySem.W.Frag} {H : Hp} {x : V} {r : Pr} (h : PrAt H x r) : Dp K H x (prR r) := by
  obtain ⟨t, rfl, e⟩ := h
  exact .tup (SqT.of e) (.cons (.int _) (.cons (.int _) .nil))
theorem dpAll_prs {K : PySem.W.Frag} {H : Hp} : ∀ {xs : List V} {rs : List Pr}, Prs H xs rs → DpAll K H xs (rs.map prR)
  | [], [], .nil => .nil
  | _ :: _, _ :: _, .cons a b => .cons (dp_pr a) (dpAll_prs b)
theorem lex_plt {r s : Pr} (h : SrtO.lexB s r = false) (n : r ≠ s) : plt r s := by
  have a := SrtO.lexB_no.mp h
  obtain ⟨r1, r2⟩ := r
  obtain ⟨s1, s2⟩ := s
  simp only [plt] at *
  by_cases h1 : r1 = s1
  · subst h1
    by_cases h2 : r2 = s2
    · subst h2; exact absurd rfl n
    · right; omega
  · left; omega
theorem sorted_plt : ∀ {l : List Pr}, l.Pairwise (fun x y => SrtO.lexB y x = false) → l.Nodup → l.Pairwise plt
  | [], _, _ => .nil
  | x :: l, h, n => by
    have h' := List.pairwise_cons.mp h
    have n' := List.nodup_cons.mp n
    exact .cons (fun y hy => lex_plt (h'.1 y hy) fun e => n'.1 (e ▸ hy)) (sorted_plt h'.2 n'.2)
/-- the parts of a house -/
structure Parts (ts : List Str) (keys : Int) (cs : List Int) (rs : List Pr) : Prop where
  tabs : Tabs ts
  n1 : 1 ≤ ts.length
  n6 : ts.length ≤ 6
  k0 : 0 ≤ keys
  k9 : keys ≤ 9
  cp : cs.Pairwise (· < ·)
  cm : ∀ c ∈ cs, (0 : Int) ≤ c ∧ c < (ts.length : Int)
  rp : rs.Pairwise plt
  rm : ∀ r ∈ rs, (0 : Int) ≤ r.1 ∧ r.1 < ((per ts : Nat) : Int) ∧ (0 : Int) ≤ r.2 ∧ r.2 < (ts.length : Int)
  r10 : rs.length ≤ 10
structure PartsAt (H : Hp) (a : Addr) (ts : List Str) (keys : Int) (cs : List Int) (rs : List Pr) : Prop where
  ex : ∃ aT aC aR xs, H a = some (.tup [.ref aT, .int keys, .ref aC, .ref aR]) ∧ H aT = some (.tup (ts.map V.str)) ∧ H aC = some (.tup (cs.map V.int)) ∧ H aR = some (.tup xs) ∧ Prs H xs rs
theorem PartsAt.mono {H H' : Hp} {a : Addr} {ts : List Str} {keys : Int} {cs : List Int} {rs : List Pr} (h : PartsAt H a ts keys cs rs) (k : ∀ t ys, H t = some (.tup ys) → H' t = some (.tup ys)) : PartsAt H' a ts keys cs rs := by
  obtain ⟨aT, aC, aR, xs, e1, e2, e3, e4, e5⟩ := h
  exact ⟨aT, aC, aR, xs, k _ _ e1, k _ _ e2, k _ _ e3, k _ _ e4, e5.mono k⟩
end Dk

set_option Elab.async false
set_option linter.all false
set_option maxRecDepth 100000
set_option maxHeartbeats 4000000
namespace Dk
open PySem PySem.Spec PyProof.Rows L2 TL
def spParts : Sp := fun vs H Q _ => ∃ (d : Addr) (most : Int) (st : List Int), vs = [.ref d, .int most] ∧ H d = some (.lst (st.map V.int)) ∧ Good st ∧ 1 ≤ most ∧ most ≤ 6 ∧
  ∀ (H' : Hp) (st' : List Int) (a : Addr) (ts : List Str) (keys : Int) (cs : List Int) (rs : List Pr), Kp d H H' → H' d = some (.lst (st'.map V.int)) → Good st' → PartsAt H' a ts keys cs rs → Parts ts keys cs rs → Q (.ref a) H'
structure TxtD (K : PySem.W.Frag) (mg : Str → Option Value) (fT fL : Addr) (fdT fdL : FuncData) : Prop where
  gT : mg "_law_table" = some (.ref fT)
  FT : Fun K "_law_table" "_law_table" sTable fT fdT
  bT : Binds K fdT ["_law_d"] []
  gL : mg "_law_length" = some (.ref fL)
  FL : Fun K "_law_length" "_law_length" sLength fL fdL
  bL : Binds K fdL ["_law_tables"] []
  tuple : mg "tuple" = none
  sorted : mg "sorted" = none
abbrev nParts : List Str := ["_law_d", "_law_most", "_law_k", "_law_tables", "_law_careful", "_law_length_here", "_law_reminders", "_law_reminder"]
section
variable {P : Program} {w : World} {K : PySem.W.Frag} {mg : Str → Option Value} {base : Heap}
theorem scParts : FnScope nParts ["_law_d", "_law_most"] (defScope sParts) := ⟨rfl, rfl, rfl, by decide +kernel, rfl, by decide +kernel, by decide +kernel⟩
theorem ok_parts {f fB fT fL : Addr} {fd fdB fdT fdL : FuncData} (F : Fun K "_law_parts" "_law_parts" sParts f fd) (T : TxtA mg) (B : TxtB K mg fB fdB) (D' : TxtD K mg fT fL fdT fdL) : FnOk P w K mg base CX0 3 f fd ["_law_d", "_law_most"] spParts := by
  have GB : FnOk P w K mg base CX0 1 fB fdB ["_law_d", "_law_limit"] spBelow := ok_below B.F T
  have GT : FnOk P w K mg base CX0 2 fT fdT ["_law_d"] spTable := ok_table D'.FT T B
  have GL : FnOk P w K mg base CX0 1 fL fdL ["_law_tables"] (spLength K) := ok_length D'.FL T
  refine F.ok scParts (fun vs H Q E h => ?_) (fun cdv A outer s H vs Q E hr h => ?_)
  · obtain ⟨d, most, st, rfl, _⟩ := h
    rfl
  · obtain ⟨d, most, st, rfl, hd, hg, hm1, hm6, k⟩ := h
    have hr1 : Room 1 _ := hr.mono (by decide)
    have hu : (A.deeper (envOfC (Str.ofString "_law_parts") (defScope sParts) s.heap.objs.size f cdv)).units + 65 < cLine := by have := hr.un; omega
    refine ⟨_, pss_cons (ps_set (i := 3) scParts.nd rfl (.inl rfl) (pe_callTy call_tuple_of (by rfl) D'.tuple (by decide +kernel) (pa_cons
        (pe_lc (own := [("_law_k", 2)]) (g := gName 2) (by rfl) scParts.nd (pi_range1 rfl T.range (pa_cons (pe_op op_add pe_int (pe_call GB hr1 rfl B.g B.F.kp B.b .nil pass0 (pa_cons (pv 0) (pa_cons (pv 1) pa_nil)))) pa_nil)) (blkOk_by (N := nParts) (sc := defScope sParts) (by decide +kernel))
          (fun _ _ _ _ _ => pg_name (i := 2) scParts.nd rfl (Or.inl rfl)) (fun _ _ _ _ _ => pts_nil)
          (fun _ _ _ _ _ => pe_call GT hr rfl D'.gT D'.FT.kp D'.bT .nil pass0 (pa_cons (pv 0) pa_nil))) pa_nil)))
      (pss_cons (ps_set (i := 4) scParts.nd rfl (.inl rfl) (pe_callTy call_tuple_of (by rfl) D'.tuple (by decide +kernel) (pa_cons
        (pe_lc (own := [("_law_k", 2)]) (g := gName 2) (by rfl) scParts.nd (pi_range1 rfl T.range (pa_cons (pe_callB call_len_seq (by rfl) T.len PySem.boot_len (pa_cons (pv 3) pa_nil)) pa_nil)) (blkOk_by (N := nParts) (sc := defScope sParts) (by decide +kernel))
          (fun _ _ _ _ _ => pg_name (i := 2) scParts.nd rfl (Or.inl rfl)) (fun _ _ _ _ _ => pts_one (pt_cmpR op_eq (pe_call GB hr1 rfl B.g B.F.kp B.b .nil pass0 (pa_cons (pv 0) (pa_cons pe_int pa_nil))) pe_int (nomark _)))
          (fun _ _ _ _ _ => pv 2)) pa_nil)))
      (pss_cons (ps_par (by rfl) scParts.nd (i := 5) (j := 6) rfl rfl (by decide) rfl rfl (pa_cons (pe_call GL hr1 rfl D'.gL D'.FL.kp D'.bL .nil pass0 (pa_cons (pv 3) pa_nil)) (pa_cons (pe_lst pa_nil) pa_nil)) (by rfl))
      (pss_cons (ps_for PassesOwn.never rfl (pi_range1 rfl T.range (pa_cons (pe_call GB hr1 rfl B.g B.F.kp B.b .nil pass0 (pa_cons (pv 0) (pa_cons
            (pe_ix ix_list (pe_lst (pa_cons pe_int (pa_cons pe_int (pa_cons pe_int pa_nil)))) (pe_call GB hr1 rfl B.g B.F.kp B.b .nil pass0 (pa_cons (pv 0) (pa_cons pe_int pa_nil))) (fun _ _ => rfl)) pa_nil))) pa_nil)) (pg_name (i := 2) scParts.nd rfl (.inl rfl))
          (pss_cons (ps_set (i := 7) scParts.nd rfl (.inl rfl) (pe_tup (pa_cons (pe_call GB hr1 rfl B.g B.F.kp B.b .nil pass0 (pa_cons (pv 0) (pa_cons (pv 5) pa_nil)))
              (pa_cons (pe_call GB hr1 rfl B.g B.F.kp B.b .nil pass0 (pa_cons (pv 0) (pa_cons (pe_callB call_len_seq (by rfl) T.len PySem.boot_len (pa_cons (pv 3) pa_nil)) pa_nil))) pa_nil))))
          (pss_one (ps_if (pt_cmpR (op_notInD hu) (pv 7) (pv 6) (by rfl))
            (pss_one (ps_expr (pe_bm PySem.F.plainAttrs_list PySem.F.slot_list_append PySem.F.type_list_append mt_append (pv 6) (pa_cons (pv 7) pa_nil)))) pss_nil))))
      (pss_one (ps_ret (pe_tup (pa_cons (pv 3) (pa_cons (pe_call GB hr1 rfl B.g B.F.kp B.b .nil pass0 (pa_cons (pv 0) (pa_cons
            (pe_ix ix_list (pe_lst (pa_cons pe_int (pa_cons pe_int pa_nil))) (pe_call GB hr1 rfl B.g B.F.kp B.b .nil pass0 (pa_cons (pv 0) (pa_cons pe_int pa_nil))) (fun _ _ => rfl)) pa_nil)))
          (pa_cons (pv 4) (pa_cons (pe_callTy call_tuple_of (by rfl) D'.tuple (by decide +kernel) (pa_cons (pe_callB cr_sortedPO (by rfl) D'.sorted (by decide +kernel) (pa_cons (pv 6) pa_nil)) pa_nil)) pa_nil)))))))))), ?_⟩
    -- the timetables
    refine ⟨_, rfl, _, rfl, d, most, st, rfl, hd, hg, hm1, by omega, fun H1 st1 r1 k1 hd1 hg1 r10 r11 => ?_⟩
    refine ⟨_, _, rfl, rfl, _, rfl, by omega, by omega, fun D hD => lc_range (lo := 0) (n := (1 + r1).toNat)
      (fun i H3 => ∃ (st3 : List Int) (ts : List Str), Kp d H1 H3 ∧ H3 d = some (.lst (st3.map V.int)) ∧ Good st3 ∧ H3 D = some (.lst (ts.map V.str)) ∧ ts.length = i ∧ Tabs ts)
      ⟨st1, [], sKp (same_upd hD), same_upd hD _ _ hd1, hg1, upd_same, rfl, fun t ht => by cases ht⟩ ?_ ?_⟩
    · rintro i H3 hi ⟨st3, ts, k3, hd3, hg3, eD, hl, hT⟩
      have ndD : d ≠ D := ne_of_none hd1 hD
      refine ⟨rfl, _, rfl, d, st3, rfl, hd3, hg3, fun H4 st4 t k4 hd4 hg4 ht => ?_⟩
      refine ⟨_, k4 _ _ ndD.symm eD, ?_, st4, ts ++ [t], fun b o nb eb => ?_, by rw [upd_ne ndD]; exact hd4, hg4, by rw [upd_same]; simp, by rw [List.length_append, hl]; rfl, fun x hx => ?_⟩
      · rw [List.length_map, hl]; exact Nat.lt_of_le_of_lt (by omega : i ≤ 1000) (by decide)
      · rw [upd_ne (ne_of_none eb hD)]; exact k4 _ _ nb (k3 _ _ nb eb)
      · rcases List.mem_append.mp hx with hx | hx
        · exact hT x hx
        · rw [List.mem_singleton.mp hx]; exact ht
    rintro H3 ⟨st3, ts, k3, hd3, hg3, eD, hl, hT⟩
    have hl6 : 1 ≤ ts.length ∧ ts.length ≤ 6 := by omega
    clear hl
    refine ⟨D, ts.map V.str, rfl, .inl ⟨SqL.of eD, fun aT haT => ?_⟩⟩
    have kA : Kp d H (upd H3 aT (.tup (ts.map V.str))) := (k1.trans k3).trans (sKp (same_upd haT))
    have hdA : (upd H3 aT (.tup (ts.map V.str))) d = some (.lst (st3.map V.int)) := same_upd haT _ _ hd3
    have eT : (upd H3 aT (.tup (ts.map V.str))) aT = some (.tup (ts.map V.str)) := upd_same
    generalize upd H3 aT (.tup (ts.map V.str)) = HA at kA hdA eT
    clear k1 hd1 hg1 k3 hd3 eD haT hD hd hg
    -- the careful persons
    refine ⟨_, rfl, aT, _, rfl, .inr (SqT.of eT), _, rfl, by omega, by rw [List.length_map]; omega, fun D hD => lc_range (lo := 0) (n := (((ts.map V.str).length : Nat) : Int).toNat)
      (fun i H3 => ∃ (st3 : List Int) (cs : List Int), Kp d HA H3 ∧ H3 d = some (.lst (st3.map V.int)) ∧ Good st3 ∧ H3 D = some (.lst (cs.map V.int)) ∧ cs.length ≤ i ∧ cs.Pairwise (· < ·) ∧ ∀ c ∈ cs, (0 : Int) ≤ c ∧ c < (i : Int))
      ⟨st3, [], sKp (same_upd hD), same_upd hD _ _ hdA, hg3, upd_same, Nat.le_refl _, .nil, fun t ht => by cases ht⟩ ?_ ?_⟩
    · rintro i H3 hi ⟨st3, cs, k3, hd3, hg3, eD, hl, hP, hC⟩
      have ndD : d ≠ D := ne_of_none hdA hD
      rw [List.length_map] at hi
      refine ⟨rfl, _, rfl, d, 3, st3, rfl, hd3, hg3, by decide, by decide, fun H4 st4 r4 k4 hd4 hg4 r40 r41 => ?_⟩
      have eD4 := k4 _ _ ndD.symm eD
      refine ⟨rfl, _, rfl, ite2 (fun c => ?_) (fun c => ?_)⟩
      · refine ⟨_, rfl, _, eD4, ?_, st4, cs ++ [(0 : Int) + (i : Int)], fun b o nb eb => ?_, by rw [upd_ne ndD]; exact hd4, hg4, by rw [upd_same]; simp, by rw [List.length_append, List.length_singleton]; omega, ?_, fun x hx => ?_⟩
        · rw [List.length_map]; exact Nat.lt_of_le_of_lt (by omega : cs.length ≤ 1000) (by decide)
        · rw [upd_ne (ne_of_none eb hD)]; exact k4 _ _ nb (k3 _ _ nb eb)
        · refine List.pairwise_append.mpr ⟨hP, List.pairwise_singleton _ _, fun x hx y hy => ?_⟩
          rw [List.mem_singleton.mp hy]
          have := hC x hx
          omega
        · rcases List.mem_append.mp hx with hx | hx
          · have := hC x hx; omega
          · rw [List.mem_singleton.mp hx]; omega
      · exact ⟨st4, cs, fun b o nb eb => k4 _ _ nb (k3 _ _ nb eb), hd4, hg4, eD4, by omega, hP, fun x hx => by have := hC x hx; omega⟩
    rintro H3 ⟨st4, cs, k3, hd3, hg4, eD, hl, hCP, hCM⟩
    rw [List.length_map] at hl hCM
    refine ⟨D, cs.map V.int, rfl, .inl ⟨SqL.of eD, fun aC haC => ?_⟩⟩
    have kB : Kp d H (upd H3 aC (.tup (cs.map V.int))) := (kA.trans k3).trans (sKp (same_upd haC))
    have hdB : (upd H3 aC (.tup (cs.map V.int))) d = some (.lst (st4.map V.int)) := same_upd haC _ _ hd3
    have eT2 : (upd H3 aC (.tup (cs.map V.int))) aT = some (.tup (ts.map V.str)) := same_upd haC _ _ (kp_tup k3 hdA _ _ eT)
    have eC : (upd H3 aC (.tup (cs.map V.int))) aC = some (.tup (cs.map V.int)) := upd_same
    generalize upd H3 aC (.tup (cs.map V.int)) = HB at kB hdB eT2 eC
    clear kA hdA eT k3 hd3 hg3 eD haC hD
    -- the period; no reminders yet
    refine ⟨_, rfl, aT, ts, rfl, SqT.of eT2, hT, hl6.2, fun HC sC => ?_⟩
    refine ⟨Nat.zero_le _, fun l hL => ?_⟩
    have kC : Kp d H (upd HC l (.lst [])) := (kB.trans (sKp sC)).trans (sKp (same_upd hL))
    have hdC := same_upd (o := .lst []) hL _ _ (sC _ _ hdB)
    have eT3 := same_upd (o := .lst []) hL _ _ (sC _ _ eT2)
    have eC3 := same_upd (o := .lst []) hL _ _ (sC _ _ eC)
    have eL : (upd HC l (.lst [])) l = some (.lst []) := upd_same
    have ndl : d ≠ l := ne_of_none (sC _ _ hdB) hL
    have nHl : H l = none := by
      cases q : H l with
      | none => rfl
      | some o =>
        have := (kB.trans (sKp sC)) l o ndl.symm q
        rw [hL] at this
        cases this
    generalize upd HC l (.lst []) = HD at kC hdC eT3 eC3 eL
    clear kB hdB eT2 eC sC hL
    refine ⟨_, _, rfl, ?_⟩
    -- the reminders
    refine ⟨_, rfl, by show 3 ≤ sizeLine; decide, fun l1 hl1 => ?_⟩
    have s1 : Same HD (upd HD l1 (.lst [.int 1, .int 4, .int 11])) := same_upd hl1
    have n1 : l1 ≠ d := (ne_of_none hdC hl1).symm
    refine ⟨_, rfl, d, 3, st4, rfl, s1 _ _ hdC, hg4, by decide, by decide, fun HE st5 r5 k5 hd5 hg5 r50 r51 => ?_⟩
    have e1 : HE l1 = some (.lst (([1, 4, 11] : List Int).map V.int)) := k5 _ _ n1 upd_same
    obtain ⟨z1, hz1, a1⟩ := at_mem (L := [1, 4, 11]) r50 (by simpa using r51)
    have hz : 1 ≤ z1 ∧ z1 ≤ 11 := by simp at hz1; omega
    refine ⟨l1, _, r5, _, rfl, rfl, SqL.of e1, a1, d, z1, st5, rfl, hd5, hg5, hz.1, by omega, fun HF st6 r6 k6 hd6 hg6 r60 r61 => ?_⟩
    have kF : Kp d HD HF := (sKp s1).trans (k5.trans k6)
    have tF := kp_tup kF hdC
    refine ⟨_, rfl, by omega, by omega, for_range (lo := 0) (n := r6.toNat)
      (fun i σ H' => ∃ (st7 : List Int) (xs : List V) (rs : List Pr) (v2 v7 : Option V), σ = [some (.ref d), some (.int most), v2, some (.ref aT), some (.ref aC), some (.int ((per ts : Nat) : Int)), some (.ref l), v7] ∧
        Kp d H H' ∧ H' d = some (.lst (st7.map V.int)) ∧ Good st7 ∧ H' aT = some (.tup (ts.map V.str)) ∧ H' aC = some (.tup (cs.map V.int)) ∧ H' l = some (.lst xs) ∧ Prs H' xs rs ∧ rs.Nodup ∧ rs.length ≤ i ∧
        ∀ r ∈ rs, (0 : Int) ≤ r.1 ∧ r.1 < ((per ts : Nat) : Int) ∧ (0 : Int) ≤ r.2 ∧ r.2 < (ts.length : Int))
      ⟨st6, [], [], none, none, rfl, kC.trans kF, hd6, hg6, tF _ _ eT3, tF _ _ eC3, kF _ _ ndl.symm eL, .nil, .nil, Nat.le_refl _, fun r hr => by cases hr⟩ ?_ ?_⟩
    · rintro i σ H' hi ⟨st7, xs, rs, v2, v7, rfl, kG, hd7, hg7, eT4, eC4, eL4, hP, hN, hlen, hM⟩
      refine ⟨_, rfl, _, rfl, d, _, st7, rfl, hd7, hg7, by have := per_pos hT; omega, by have := per_le hT; omega, fun H5 st8 ra k8 hd8 hg8 ra0 ra1 => ?_⟩
      refine ⟨_, rfl, _, rfl, aT, _, rfl, .inr (SqT.of (kp_tup k8 hd7 _ _ eT4)), d, _, st8, rfl, hd8, hg8, by rw [List.length_map]; omega, by rw [List.length_map]; omega, fun H6 st9 rb k9 hd9 hg9 rb0 rb1 => ?_⟩
      rw [List.length_map] at rb1
      have kH : Kp d H' H6 := k8.trans k9
      have tH := kp_tup kH hd7
      refine ⟨by show 2 ≤ sizeLine; decide, fun p hp => ?_⟩
      have eL6 := same_upd (o := .tup [.int ra, .int rb]) hp _ _ (kH _ _ ndl.symm eL4)
      have hP6 : Prs (upd H6 p (.tup [.int ra, .int rb])) xs rs := hP.mono fun t ys h => same_upd hp _ _ (tH _ _ h)
      have hPr : PrAt (upd H6 p (.tup [.int ra, .int rb])) (.ref p) (ra, rb) := ⟨p, rfl, upd_same⟩
      have kI : Kp d H (upd H6 p (.tup [.int ra, .int rb])) := (kG.trans kH).trans (sKp (same_upd hp))
      have hd10 := same_upd (o := .tup [.int ra, .int rb]) hp _ _ hd9
      have eT6 := same_upd (o := .tup [.int ra, .int rb]) hp _ _ (tH _ _ eT4)
      have eC6 := same_upd (o := .tup [.int ra, .int rb]) hp _ _ (tH _ _ eC4)
      generalize upd H6 p (.tup [.int ra, .int rb]) = H7 at eL6 hP6 hPr kI hd10 eT6 eC6
      refine ⟨_, rfl, _, rfl, prR (ra, rb), rs.map prR, dp_pr hPr, .lst (SqL.of eL6) (dpAll_prs hP6), prR_shaped _, prRs_shaped _, _, rfl, ?_⟩
      rw [any_eqv]
      by_cases c : (ra, rb) ∈ rs
      · rw [decide_eq_true c]
        refine iteF ?_
        exact ⟨st9, xs, rs, _, _, rfl, kI, hd10, hg9, eT6, eC6, eL6, hP6, hN, by omega, hM⟩
      · rw [decide_eq_false c]
        refine iteT ?_
        refine ⟨_, rfl, .inl ⟨rfl, _, SqL.of eL6⟩, _, rfl, l, _, _, rfl, rfl, eL6, ?_, ?_⟩
        · rw [hP6.len]; exact Nat.lt_of_le_of_lt (by omega : rs.length ≤ 1000) (by decide)
        · have nlT : aT ≠ l := fun e => by rw [e, eL6] at eT6; cases eT6
          have nlC : aC ≠ l := fun e => by rw [e, eL6] at eC6; cases eC6
          have tK : ∀ t ys, H7 t = some (.tup ys) → (upd H7 l (.lst (xs ++ [V.ref p]))) t = some (.tup ys) := fun t ys h => by
            rw [upd_ne (fun e => by rw [e, eL6] at h; cases h)]; exact h
          refine ⟨st9, _, rs ++ [(ra, rb)], _, _, rfl, fun b o nb eb => ?_, by rw [upd_ne ndl]; exact hd10, hg9, tK _ _ eT6, tK _ _ eC6, upd_same, (hP6.mono tK).app ?_, ?_, ?_, fun r hr => ?_⟩
          · rw [upd_ne (fun e => by rw [e, nHl] at eb; cases eb)]; exact kI _ _ nb eb
          · obtain ⟨t, e, h⟩ := hPr
            exact ⟨t, e, tK _ _ h⟩
          · refine List.nodup_append.mpr ⟨hN, (by simp), fun a ha b hb => ?_⟩
            rw [List.mem_singleton.mp hb]
            exact fun e => c (e ▸ ha)
          · rw [List.length_append, List.length_singleton]; omega
          · rcases List.mem_append.mp hr with hr | hr
            · exact hM r hr
            · rw [List.mem_singleton.mp hr]; exact ⟨ra0, ra1, rb0, rb1⟩
    rintro σ H' ⟨st7, xs, rs, v2, v7, rfl, kG, hd7, hg7, eT4, eC4, eL4, hP, hN, hlen, hM⟩
    have hl10 : rs.length ≤ 10 := by omega
    -- the answer
    refine ⟨_, rfl, _, rfl, by show 2 ≤ sizeLine; decide, fun l2 hl2 => ?_⟩
    have s2 : Same H' (upd H' l2 (.lst [.int 3, .int 10])) := same_upd hl2
    have n2 : l2 ≠ d := (ne_of_none hd7 hl2).symm
    refine ⟨_, rfl, d, 2, st7, rfl, s2 _ _ hd7, hg7, by decide, by decide, fun H5 st8 r8 k8 hd8 hg8 r80 r81 => ?_⟩
    have e2 : H5 l2 = some (.lst (([3, 10] : List Int).map V.int)) := k8 _ _ n2 upd_same
    obtain ⟨z2, hz2, a2⟩ := at_mem (L := [3, 10]) r80 (by simpa using r81)
    have hz3 : 1 ≤ z2 ∧ z2 ≤ 10 := by simp at hz2; omega
    refine ⟨l2, _, r8, _, rfl, rfl, SqL.of e2, a2, d, z2, st8, rfl, hd8, hg8, hz3.1, by omega, fun H6 st9 keys k9 hd9 hg9 ky0 ky1 => ?_⟩
    have k10 : Kp d H' H6 := (sKp s2).trans (k8.trans k9)
    have t10 := kp_tup k10 hd7
    have hP6 := hP.mono t10
    have eL6 := k10 _ _ ndl.symm eL4
    refine ⟨_, rfl, _, rfl, l, xs, kf H6, rfl, SqL.of eL6, fun x hx => hP6.mem x hx, fun ys p hs hst hp => ?_⟩
    refine ⟨p, ys, rfl, .inl ⟨SqL.of upd_same, fun aR haR => ?_⟩⟩
    have s3 := same_upd (o := .lst ys) hp
    have s4 := same_upd (o := .tup ys) haR
    refine ⟨by show 4 ≤ sizeLine; decide, fun a ha => ?_⟩
    have s5 := same_upd (o := .tup [V.ref aT, V.int keys, V.ref aC, V.ref aR]) ha
    have perm : ys.Perm xs := hst.perm
    have hPy : Prs H6 ys (ys.map (kf H6)) := Prs.of_mem fun y hy => hP6.mem y (perm.mem_iff.mp hy)
    have permR : (ys.map (kf H6)).Perm rs := by
      have := perm.map (kf H6)
      rw [hP6.kf] at this
      exact this
    have s6 := (s3.trans s4).trans s5
    refine k _ st9 a ts keys cs (ys.map (kf H6)) ((kG.trans k10).trans (sKp s6)) (s6 _ _ hd9) hg9 ⟨⟨aT, aC, aR, ys, upd_same, s6 _ _ (t10 _ _ eT4), s6 _ _ (t10 _ _ eC4), s5 _ _ upd_same, hPy.mono fun t zs h => s6 _ _ h⟩⟩ ?_
    refine ⟨hT, hl6.1, hl6.2, ky0, by omega, hCP, fun c hc => ⟨(hCM c hc).1, ?_⟩, ?_, fun r hr => hM r (permR.mem_iff.mp hr), by rw [permR.length_eq]; exact hl10⟩
    · have := (hCM c hc).2; omega
    · refine sorted_plt ?_ (permR.nodup_iff.mpr hN)
      rw [List.pairwise_map]
      exact hs
end
end Dk

set_option Elab.async false
set_option linter.all false
set_option maxRecDepth 100000
set_option maxHeartbeats 4000000
namespace Dk
open PySem PySem.Spec PyProof.Rows L2 TL
/-! ### what the checks say of any data -/
def tyN : PyData → String
  | .none => "NoneType"
  | .bool _ => "bool"
  | .int _ => "int"
  | .str _ => "str"
  | .list _ => "list"
  | .tuple _ => "tuple"
  | .dict _ => "dict"
theorem tyx {K : PySem.W.Frag} {H : Hp} {v : V} {d : PyData} (h : Dp K H v d) : TyX K H v (.type (tyN d)) := by
  cases h with
  | non => exact .base .non
  | bl b => exact .base (.bl b)
  | int i => exact .base (.int i)
  | str x => exact .base (.str x)
  | lst hs ha =>
    rcases hs with (e | ⟨o, e⟩) | ⟨o, its, n, hk, hc, _⟩
    · exact .base (.lst e)
    · exact .base (.frz e)
    · exact .kList hk hc
  | tup hs ha =>
    rcases hs with (e | ⟨o, e⟩) | ⟨o, its, n, hk, hc, _⟩
    · exact .base (.tup e)
    · exact .fTuple e
    · exact .kTuple hk hc
def isIntD : PyData → Bool
  | .int _ => true
  | _ => false
def isIntB : PyData → Bool
  | .int _ => true
  | .bool _ => true
  | _ => false
def isBoolD : PyData → Bool
  | .bool _ => true
  | _ => false
def isStrD : PyData → Bool
  | .str _ => true
  | _ => false
def isTupD : PyData → Bool
  | .tuple _ => true
  | _ => false
def isLstD : PyData → Bool
  | .list _ => true
  | _ => false
theorem kit_int : ∀ d : PyData, kitB (tyN d) "int" = some (isIntB d)
  | .none => (by decide +kernel : kitB "NoneType" "int" = some false)
  | .bool _ => (by decide +kernel : kitB "bool" "int" = some true)
  | .int _ => (by decide +kernel : kitB "int" "int" = some true)
  | .str _ => (by decide +kernel : kitB "str" "int" = some false)
  | .list _ => (by decide +kernel : kitB "list" "int" = some false)
  | .tuple _ => (by decide +kernel : kitB "tuple" "int" = some false)
  | .dict _ => (by decide +kernel : kitB "dict" "int" = some false)
theorem kit_bool : ∀ d : PyData, kitB (tyN d) "bool" = some (isBoolD d)
  | .none => (by decide +kernel : kitB "NoneType" "bool" = some false)
  | .bool _ => (by decide +kernel : kitB "bool" "bool" = some true)
  | .int _ => (by decide +kernel : kitB "int" "bool" = some false)
  | .str _ => (by decide +kernel : kitB "str" "bool" = some false)
  | .list _ => (by decide +kernel : kitB "list" "bool" = some false)
  | .tuple _ => (by decide +kernel : kitB "tuple" "bool" = some false)
  | .dict _ => (by decide +kernel : kitB "dict" "bool" = some false)
theorem kit_str : ∀ d : PyData, kitB (tyN d) "str" = some (isStrD d)
  | .none => (by decide +kernel : kitB "NoneType" "str" = some false)
  | .bool _ => (by decide +kernel : kitB "bool" "str" = some false)
  | .int _ => (by decide +kernel : kitB "int" "str" = some false)
  | .str _ => (by decide +kernel : kitB "str" "str" = some true)
  | .list _ => (by decide +kernel : kitB "list" "str" = some false)
  | .tuple _ => (by decide +kernel : kitB "tuple" "str" = some false)
  | .dict _ => (by decide +kernel : kitB "dict" "str" = some false)
theorem kit_tup : ∀ d : PyData, kitB (tyN d) "tuple" = some (isTupD d)
  | .none => (by decide +kernel : kitB "NoneType" "tuple" = some false)
  | .bool _ => (by decide +kernel : kitB "bool" "tuple" = some false)
  | .int _ => (by decide +kernel : kitB "int" "tuple" = some false)
  | .str _ => (by decide +kernel : kitB "str" "tuple" = some false)
  | .list _ => (by decide +kernel : kitB "list" "tuple" = some false)
  | .tuple _ => (by decide +kernel : kitB "tuple" "tuple" = some true)
  | .dict _ => (by decide +kernel : kitB "dict" "tuple" = some false)
theorem kit_lst : ∀ d : PyData, kitB (tyN d) "list" = some (isLstD d)
  | .none => (by decide +kernel : kitB "NoneType" "list" = some false)
  | .bool _ => (by decide +kernel : kitB "bool" "list" = some false)
  | .int _ => (by decide +kernel : kitB "int" "list" = some false)
  | .str _ => (by decide +kernel : kitB "str" "list" = some false)
  | .list _ => (by decide +kernel : kitB "list" "list" = some true)
  | .tuple _ => (by decide +kernel : kitB "tuple" "list" = some false)
  | .dict _ => (by decide +kernel : kitB "dict" "list" = some false)
def below (d : PyData) (lim : Int) : Bool := match d with
  | .int i => decide (0 ≤ i) && decide (i < lim)
  | _ => false
def only (w cs : Str) : Bool := (tl w).all fun c => decide (c ∈ tl cs)
def tabLens : List Int := [1, 2, 3, 4, 6, 8, 12, 24]
def hoS : Str := Str.ofString "ho"
def isTabD : PyData → Bool
  | .str t => decide ((t.length : Int) ∈ tabLens) && only t hoS
  | _ => false
def isRemD (d : PyData) (per n : Int) : Bool := match d with
  | .tuple [a, b] => below a per && below b n
  | _ => false
structure TxtF (K : PySem.W.Frag) (mg : Str → Option Value) (fII fIB fHO : Addr) (fdII fdIB fdHO : FuncData) : Prop where
  isinstance : mg "isinstance" = none
  int : mg "int" = none
  bool : mg "bool" = none
  str : mg "str" = none
  tuple : mg "tuple" = none
  all : mg "all" = none
  gII : mg "is_integer" = some (.ref fII)
  FII : Fun K "is_integer" "is_integer" sIsInt fII fdII
  bII : Binds K fdII ["value"] []
  gIB : mg "is_below" = some (.ref fIB)
  FIB : Fun K "is_below" "is_below" sIsBelow fIB fdIB
  bIB : Binds K fdIB ["value", "limit"] []
  gHO : mg "has_only" = some (.ref fHO)
  FHO : Fun K "has_only" "has_only" sHasOnly fHO fdHO
  bHO : Binds K fdHO ["word", "characters"] []
  letters : ∃ t, mg "LETTERS" = some (.str hoS t)
  lengths : ∃ a, mg "TABLE_LENGTHS" = some (.ref a) ∧ SqT K (fun _ => none) a (tabLens.map V.int)
def spIsInt (K : PySem.W.Frag) : Sp := fun vs H Q _ => ∃ (v : V) (d : PyData), vs = [v] ∧ Dp K H v d ∧ Q (.bl (isIntD d)) H
def spIsBelow (K : PySem.W.Frag) : Sp := fun vs H Q _ => ∃ (v : V) (d : PyData) (lim : Int), vs = [v, .int lim] ∧ Dp K H v d ∧ Q (.bl (below d lim)) H
def spHasOnly : Sp := fun vs H Q _ => ∃ (x cs : Str), vs = [.str x, .str cs] ∧ x.length ≤ 100000 ∧ ∀ H', Same H H' → Q (.bl (only x cs)) H'
def spIsTable (K : PySem.W.Frag) : Sp := fun vs H Q _ => ∃ (v : V) (d : PyData), vs = [v] ∧ Dp K H v d ∧ (∀ t, d = .str t → t.length ≤ 100000) ∧ ∀ H', Same H H' → Q (.bl (isTabD d)) H'
def spIsRem (K : PySem.W.Frag) : Sp := fun vs H Q _ => ∃ (v : V) (d : PyData) (per n : Int), vs = [v, .int per, .int n] ∧ Dp K H v d ∧ Q (.bl (isRemD d per n)) H
section
variable {P : Program} {w : World} {K : PySem.W.Frag} {mg : Str → Option Value} {base : Heap} {fII fIB fHO : Addr} {fdII fdIB fdHO : FuncData}
theorem scIsInt : FnScope ["value"] ["value"] (defScope sIsInt) := ⟨rfl, rfl, rfl, by decide +kernel, rfl, by decide +kernel, by decide +kernel⟩
theorem ok_isint (TF : TxtF K mg fII fIB fHO fdII fdIB fdHO) : FnOk P w K mg base CX0 1 fII fdII ["value"] (spIsInt K) := by
  refine TF.FII.ok scIsInt (fun vs H Q E h => ?_) (fun cdv A outer s H vs Q E hr h => ?_)
  · obtain ⟨v, d, rfl, _⟩ := h
    rfl
  · obtain ⟨v, d, rfl, hd, k⟩ := h
    refine ⟨_, pss_one (ps_ret (pe_and (pe_callB call_isi (by rfl) TF.isinstance (by decide +kernel) (pa_cons (pv 0) (pa_cons (pe_bltn (v := .ty "int") (by rfl) TF.int (by decide +kernel) rfl) pa_nil)))
      (pe_one (pe_not (pe_callB call_isi (by rfl) TF.isinstance (by decide +kernel) (pa_cons (pv 0) (pa_cons (pe_bltn (v := .ty "bool") (by rfl) TF.bool (by decide +kernel) rfl) pa_nil))))))), ?_⟩
    refine ⟨_, rfl, _, _, _, _, _, rfl, .ty "int", tyx hd, kit_ty (kit_int d), _, rfl, ?_⟩
    cases e : isIntB d with
    | false =>
      refine iteF ?_
      have : isIntD d = false := by cases d <;> first | rfl | cases e
      rw [← this]; exact k
    | true =>
      refine iteT ⟨_, rfl, _, _, _, _, _, rfl, .ty "bool", tyx hd, kit_ty (kit_bool d), _, rfl, ?_⟩
      have : (!isBoolD d) = isIntD d := by cases d <;> first | rfl | cases e
      rw [this]; exact k
theorem scIsBelow : FnScope ["value", "limit"] ["value", "limit"] (defScope sIsBelow) := ⟨rfl, rfl, rfl, by decide +kernel, rfl, by decide +kernel, by decide +kernel⟩
theorem ok_isbelow (TF : TxtF K mg fII fIB fHO fdII fdIB fdHO) : FnOk P w K mg base CX0 2 fIB fdIB ["value", "limit"] (spIsBelow K) := by
  have GI : FnOk P w K mg base CX0 1 fII fdII ["value"] (spIsInt K) := ok_isint TF
  refine TF.FIB.ok scIsBelow (fun vs H Q E h => ?_) (fun cdv A outer s H vs Q E hr h => ?_)
  · obtain ⟨v, d, lim, rfl, _⟩ := h
    rfl
  · obtain ⟨v, d, lim, rfl, hd, k⟩ := h
    refine ⟨_, pss_one (ps_ret (pe_and (pe_call GI hr rfl TF.gII TF.FII.kp TF.bII .nil pass0 (pa_cons (pv 0) pa_nil)) (pe_one (pe_chain op_le op_lt pe_int (pv 0) (pv 1))))), ?_⟩
    refine ⟨_, rfl, v, d, rfl, hd, _, rfl, ?_⟩
    cases hd with
    | int i =>
      refine iteT ⟨_, rfl, _, _, rfl, rfl, _, rfl, ?_⟩
      by_cases c : (0 : Int) ≤ i
      · rw [decide_eq_true c]
        refine iteT ⟨_, rfl, _, _, rfl, rfl, ?_⟩
        have e : below (.int i) lim = decide (i < lim) := by show (decide ((0 : Int) ≤ i) && decide (i < lim)) = _; rw [decide_eq_true c]; rfl
        rw [e] at k; exact k
      · rw [decide_eq_false c]
        refine iteF ?_
        have e : below (.int i) lim = false := by show (decide ((0 : Int) ≤ i) && decide (i < lim)) = _; rw [decide_eq_false c]; rfl
        rw [e] at k; exact k
    | non => exact iteF k
    | bl b => exact iteF k
    | str x => exact iteF k
    | lst hs ha => exact iteF k
    | tup hs ha => exact iteF k
theorem scHasOnly : FnScope ["word", "characters", "character"] ["word", "characters"] (defScope sHasOnly) := ⟨rfl, rfl, rfl, by decide +kernel, rfl, by decide +kernel, by decide +kernel⟩
theorem ok_hasonly (TF : TxtF K mg fII fIB fHO fdII fdIB fdHO) : FnOk P w K mg base CX0 1 fHO fdHO ["word", "characters"] spHasOnly := by
  refine TF.FHO.ok scHasOnly (fun vs H Q E h => ?_) (fun cdv A outer s H vs Q E hr h => ?_)
  · obtain ⟨x, cs, rfl, _⟩ := h
    rfl
  · obtain ⟨x, cs, rfl, hlen, k⟩ := h
    refine ⟨_, pss_one (ps_ret (pe_callB (cr_all rfl) (by rfl) TF.all (by decide +kernel) (pa_cons
        (pe_lc (own := [("character", 2)]) (g := gName 2) (by rfl) scHasOnly.nd (pi_str (pv 0)) (blkOk_by (N := ["word", "characters", "character"]) (sc := defScope sHasOnly) (by decide +kernel))
          (fun _ _ _ _ _ => pg_name (i := 2) scHasOnly.nd rfl (Or.inl rfl)) (fun _ _ _ _ _ => pts_nil)
          (fun _ _ _ _ _ => pe_cmpR op_in_sign (pv 2) (pv 1) (by rfl))) pa_nil))), ?_⟩
    refine ⟨_, rfl, x, rfl, fun D hD => lc_it walk_str
      (fun i H3 => Same H H3 ∧ H3 D = some (.lst ((((tl x).take i).map fun c => decide (c ∈ tl cs)).map V.bl)))
      ⟨same_upd hD, upd_same⟩ (fun _ _ _ _ => True.intro) ?_ ?_⟩
    · rintro i y H3 H4 hi ⟨s3, eD⟩ ⟨rfl, c, hc, rfl⟩
      have hc' : (tl x)[i]? = some c := by rw [← hc]; exact Array.getElem?_toList
      refine ⟨rfl, _, rfl, _, rfl, c, cs, rfl, rfl, _, eD, ?_, fun b o eb => ?_, ?_⟩
      · have hx : i < x.length := hi
        rw [List.length_map, List.length_map, List.length_take]
        exact Nat.lt_of_le_of_lt (Nat.le_trans (Nat.min_le_left _ _) (by omega : i ≤ 100000)) (by decide)
      · rw [upd_ne (ne_of_none eb hD)]; exact s3 _ _ eb
      · rw [upd_same, take_more hc', List.map_append, List.map_append]; rfl
    · rintro H3 ⟨s3, eD⟩
      have e : (tl x).take x.cps.size = tl x := List.take_of_length_le (by simp)
      rw [e] at eD
      refine ⟨D, _, rfl, SqL.of eD, ?_⟩
      have e2 : List.all ((tl x).map fun c => decide (c ∈ tl cs)) id = only x cs := by
        unfold only
        rw [List.all_map]; rfl
      rw [e2]
      exact k _ s3
end
end Dk

set_option Elab.async false
set_option linter.all false
set_option maxRecDepth 100000
set_option maxHeartbeats 1000000
namespace Dk
open PySem PySem.Spec PyProof.Rows L2 TL
theorem sqtK {K : PySem.W.Frag} {H : Hp} {a : Addr} {xs : List V} (h : SqT K (fun _ => none) a xs) : SqT K H a xs := by
  rcases h with (h | ⟨o, h⟩) | h
  · cases h
  · cases h
  · exact .inr h
theorem any_eqI (l : List Int) (n : Int) : inV (.int n) (l.map V.int) = decide (n ∈ l) := by
  unfold inV
  induction l with
  | nil => rfl
  | cons m l ih =>
    rw [List.map_cons, List.any_cons, ih]
    show (m == n || decide (n ∈ l)) = decide (n ∈ m :: l)
    by_cases e : m = n
    · subst e; simp
    · have e' : n ≠ m := fun q => e q.symm
      simp [e, e']
theorem flat_ints (l : List Int) : (l.map V.int).all flatV = true := by
  induction l with
  | nil => rfl
  | cons m l ih => rw [List.map_cons, List.all_cons, ih]; rfl
/-- x < y, two ints or two tuples of ints -/
def Lt2 (K : PySem.W.Frag) (H : Hp) (x y : V) (b : Bool) : Prop :=
  (∃ m n : Int, x = .int m ∧ y = .int n ∧ b = decide (m < n)) ∨ (∃ (a c : Addr) (ns ms : List Int), x = .ref a ∧ y = .ref c ∧ SqT K H a (ns.map V.int) ∧ SqT K H c (ms.map V.int) ∧ b = HT.lexLt ns ms)
def rLt2 (K : PySem.W.Frag) : R2 := fun x y H Q => ∃ b, Lt2 K H x y b ∧ Q (.bl b) H
theorem op_lt2 {X : Cx} (hu : X.A.units < cLine) : OpR X (compareOp .Lt) (rLt2 X.K) := by
  intro pins s σ H x y v u Q I rx ry h
  obtain ⟨b, h | h, q⟩ := h
  · obtain ⟨m, n, rfl, rfl, rfl⟩ := h
    exact op_lt pins s σ H _ _ v u Q I rx ry ⟨m, n, rfl, rfl, q⟩
  · obtain ⟨a, c, ns, ms, rfl, rfl, h1, h2, rfl⟩ := h
    exact op_ltT hu pins s σ H _ _ v u Q I rx ry ⟨a, c, ns, ms, rfl, rfl, h1, h2, q⟩
def spAsc (K : PySem.W.Frag) : Sp := fun vs H Q _ => ∃ (a : Addr) (xs : List V) (i : Nat) (b : Bool), vs = [.ref a, .int (i : Int)] ∧ SqT K H a xs ∧ i < xs.length ∧ (i = 0 → b = true) ∧
  (∀ j, i = j + 1 → ∃ x y, xs[j]? = some x ∧ xs[j + 1]? = some y ∧ Lt2 K H x y b) ∧ Q (.bl b) H
section
variable {P : Program} {w : World} {K : PySem.W.Frag} {mg : Str → Option Value} {base : Heap} {fII fIB fHO : Addr} {fdII fdIB fdHO : FuncData}
theorem scIsTable : FnScope ["table"] ["table"] (defScope sIsTable) := ⟨rfl, rfl, rfl, by decide +kernel, rfl, by decide +kernel, by decide +kernel⟩
theorem ok_istable {f : Addr} {fd : FuncData} (F : Fun K "is_table" "is_table" sIsTable f fd) (T : TxtA mg) (TF : TxtF K mg fII fIB fHO fdII fdIB fdHO) : FnOk P w K mg base CX0 2 f fd ["table"] (spIsTable K) := by
  have GH : FnOk P w K mg base CX0 1 fHO fdHO ["word", "characters"] spHasOnly := ok_hasonly TF
  obtain ⟨tL, eL⟩ := TF.letters
  obtain ⟨aT, eT, hT⟩ := TF.lengths
  refine F.ok scIsTable (fun vs H Q E h => ?_) (fun cdv A outer s H vs Q E hr h => ?_)
  · obtain ⟨v, d, rfl, _⟩ := h
    rfl
  · obtain ⟨v, d, rfl, hd, hz, k⟩ := h
    refine ⟨_, pss_one (ps_ret (pe_and (pe_callB call_isi (by rfl) TF.isinstance (by decide +kernel) (pa_cons (pv 0) (pa_cons (pe_bltn (v := .ty "str") (by rfl) TF.str (by decide +kernel) rfl) pa_nil)))
      (pe_and (pe_cmpR op_in_seq (pe_callB call_len_str (by rfl) T.len PySem.boot_len (pa_cons (pv 0) pa_nil)) (pe_glob (v := .ref aT) rfl eT rfl) (by rfl))
      (pe_one (pe_call GH hr rfl TF.gHO TF.FHO.kp TF.bHO .nil pass0 (pa_cons (pv 0) (pa_cons (pe_glob (v := .str hoS) rfl eL ⟨_, rfl⟩) pa_nil))))))), ?_⟩
    refine ⟨_, rfl, _, _, _, _, _, rfl, .ty "str", tyx hd, kit_ty (kit_str d), _, rfl, ?_⟩
    cases hd with
    | str x =>
      have hx := hz x rfl
      refine iteT ⟨_, rfl, _, rfl, Nat.le_trans hx (by decide), aT, _, rfl, .inr (sqtK hT), rfl, flat_ints _, _, rfl, ?_⟩
      show (if inV (.int (x.length : Int)) (tabLens.map V.int) = true then _ else _)
      rw [any_eqI]
      by_cases c : (x.length : Int) ∈ tabLens
      · rw [decide_eq_true c]
        refine iteT ⟨_, rfl, x, hoS, rfl, hx, fun H' s' => ?_⟩
        have e : isTabD (.str x) = only x hoS := by show (decide _ && _) = _; rw [decide_eq_true c]; rfl
        rw [← e]; exact k _ s'
      · rw [decide_eq_false c]
        refine iteF ?_
        have e : isTabD (.str x) = false := by show (decide _ && _) = _; rw [decide_eq_false c]; rfl
        have := k H (Same.refl H)
        rw [e] at this; exact this
    | non => exact iteF (k H (Same.refl H))
    | bl b => exact iteF (k H (Same.refl H))
    | int i => exact iteF (k H (Same.refl H))
    | lst hs ha => exact iteF (k H (Same.refl H))
    | tup hs ha => exact iteF (k H (Same.refl H))
theorem scIsRem : FnScope ["reminder", "period", "persons"] ["reminder", "period", "persons"] (defScope sIsRem) := ⟨rfl, rfl, rfl, by decide +kernel, rfl, by decide +kernel, by decide +kernel⟩
theorem ok_isrem {f : Addr} {fd : FuncData} (F : Fun K "is_reminder" "is_reminder" sIsRem f fd) (T : TxtA mg) (TF : TxtF K mg fII fIB fHO fdII fdIB fdHO) : FnOk P w K mg base CX0 3 f fd ["reminder", "period", "persons"] (spIsRem K) := by
  have GB : FnOk P w K mg base CX0 2 fIB fdIB ["value", "limit"] (spIsBelow K) := ok_isbelow TF
  refine F.ok scIsRem (fun vs H Q E h => ?_) (fun cdv A outer s H vs Q E hr h => ?_)
  · obtain ⟨v, d, per, n, rfl, _⟩ := h
    rfl
  · obtain ⟨v, d, per, n, rfl, hd, k⟩ := h
    refine ⟨_, pss_cons (ps_if (PW.pt (pw_or (pt_not (pt_val (pe_callB call_isi (by rfl) TF.isinstance (by decide +kernel) (pa_cons (pv 0) (pa_cons (pe_bltn (v := .ty "tuple") (by rfl) TF.tuple (by decide +kernel) rfl) pa_nil)))))
        (pw_or1 (pt_cmpR op_ne (pe_callB call_len_seq (by rfl) T.len PySem.boot_len (pa_cons (pv 0) pa_nil)) pe_int (nomark _))))) (pss_one (ps_ret pe_bl)) pss_nil)
      (pss_one (ps_ret (pe_and (pe_call GB hr rfl TF.gIB TF.FIB.kp TF.bIB .nil pass0 (pa_cons (pe_ix ix_tup (pv 0) pe_int (fun _ _ => rfl)) (pa_cons (pv 1) pa_nil)))
        (pe_one (pe_call GB hr rfl TF.gIB TF.FIB.kp TF.bIB .nil pass0 (pa_cons (pe_ix ix_tup (pv 0) pe_int (fun _ _ => rfl)) (pa_cons (pv 2) pa_nil))))))), ?_⟩
    refine ⟨_, rfl, _, _, _, _, _, rfl, .ty "tuple", tyx hd, kit_ty (kit_tup d), _, rfl, ?_⟩
    cases hd with
    | str x => exact iteT (iteT k)
    | non => exact iteT (iteT k)
    | bl b => exact iteT (iteT k)
    | int i => exact iteT (iteT k)
    | lst hs ha => exact iteT (iteT k)
    | @tup a xs ds hs ha =>
      refine iteF ⟨_, rfl, a, xs, rfl, .inr hs, rfl, _, rfl, ?_⟩
      cases ha with
      | nil => exact iteT k
      | cons h1 ha =>
        rename_i v1 vs1 d1 ds1
        cases ha with
        | nil => exact iteT k
        | cons h2 ha =>
          rename_i v2 vs2 d2 ds2
          cases ha with
          | nil =>
            refine iteF ?_
            refine ⟨_, rfl, a, _, 0, v1, rfl, rfl, hs, at0, _, rfl, v1, d1, per, rfl, h1, _, rfl, ?_⟩
            have e : isRemD (.tuple [d1, d2]) per n = (Dk.below d1 per && Dk.below d2 n) := rfl
            rw [e] at k
            cases c : Dk.below d1 per with
            | false => rw [c] at k; exact iteF k
            | true =>
              rw [c] at k
              exact iteT ⟨_, rfl, a, _, 1, v2, rfl, rfl, hs, at1, _, rfl, v2, d2, n, rfl, h2, k⟩
          | cons h3 ha =>
            rename_i v3 vs3 d3 ds3
            have e : (!decide (V.int (((v1 :: v2 :: v3 :: vs3).length : Nat) : Int) = V.int 2)) = true := by
              have : ¬ V.int (((v1 :: v2 :: v3 :: vs3).length : Nat) : Int) = V.int 2 := fun q => by
                have := V.int.inj q
                simp only [List.length_cons] at this
                omega
              rw [decide_eq_false this]; rfl
            show (if (!decide (V.int (((v1 :: v2 :: v3 :: vs3).length : Nat) : Int) = V.int 2)) = true then _ else _)
            rw [e]
            exact iteT k
theorem scAsc : FnScope ["items", "index"] ["items", "index"] (defScope sAsc) := ⟨rfl, rfl, rfl, by decide +kernel, rfl, by decide +kernel, by decide +kernel⟩
theorem ok_asc {f : Addr} {fd : FuncData} (F : Fun K "is_ascending_at" "is_ascending_at" sAsc f fd) : FnOk P w K mg base CX0 1 f fd ["items", "index"] (spAsc K) := by
  refine F.ok scAsc (fun vs H Q E h => ?_) (fun cdv A outer s H vs Q E hr h => ?_)
  · obtain ⟨a, xs, i, b, rfl, _⟩ := h
    rfl
  · obtain ⟨a, xs, i, b, rfl, hs, hi, h0, hj, k⟩ := h
    refine ⟨_, pss_one (ps_ret (pe_or (pe_cmpR op_eq (pv 1) pe_int (nomark _)) (pe_one (pe_cmpR (op_lt2 hr.units0) (pe_ix ix_tup (pv 0) (pe_op op_sub (pv 1) pe_int) (fun _ _ => rfl)) (pe_ix ix_tup (pv 0) (pv 1) (fun _ _ => rfl)) (nomark _))))), ?_⟩
    refine ⟨_, rfl, rfl, _, rfl, ?_⟩
    cases i with
    | zero =>
      refine ite2 (fun _ => ?_) (fun c => absurd (decide_eq_true rfl) c)
      rw [← h0 rfl]; exact k
    | succ j =>
      obtain ⟨x, y, ex, ey, hl⟩ := hj j rfl
      refine ite2 (fun c => ?_) (fun _ => ?_)
      · have := of_decide_eq_true c
        cases this
      · refine ⟨_, rfl, _, rfl, _, _, rfl, rfl, a, xs, _, x, rfl, rfl, hs, ?_, _, rfl, _, rfl, a, xs, _, y, rfl, rfl, hs, atI_nat ey, b, hl, k⟩
        have e : ((j + 1 : Nat) : Int) - 1 = (j : Int) := by omega
        rw [e]; exact atI_nat ex
end
end Dk

set_option Elab.async false
set_option linter.all false
set_option maxRecDepth 100000
set_option maxHeartbeats 1000000
namespace Dk
open PySem PySem.Spec PyProof.Rows L2 TL
mutual
theorem dpSame {K : PySem.W.Frag} {H H' : Hp} (k : Same H H') : ∀ (d : PyData) (v : V), Dp K H v d → Dp K H' v d
  | .none, _, h => by cases h; exact .non
  | .bool b, _, h => by cases h; exact .bl b
  | .int i, _, h => by cases h; exact .int i
  | .str x, _, h => by cases h; exact .str x
  | .list ds, _, h => by
    cases h with
    | lst hs ha => exact .lst (k.seq hs) (dpAllSame k ds _ ha)
  | .tuple ds, _, h => by
    cases h with
    | tup hs ha => exact .tup (sSqT k hs) (dpAllSame k ds _ ha)
  | .dict _, _, h => by cases h
theorem dpAllSame {K : PySem.W.Frag} {H H' : Hp} (k : Same H H') : ∀ (ds : List PyData) (vs : List V), DpAll K H vs ds → DpAll K H' vs ds
  | [], _, h => by cases h; exact .nil
  | d :: ds, _, h => by
    cases h with
    | cons h1 h2 => exact .cons (dpSame k d _ h1) (dpAllSame k ds _ h2)
end
theorem dpAll_len {K : PySem.W.Frag} {H : Hp} : ∀ {vs : List V} {ds : List PyData}, DpAll K H vs ds → vs.length = ds.length
  | [], [], .nil => rfl
  | _ :: _, _ :: _, .cons _ h => congrArg Nat.succ (dpAll_len h)
theorem dpAll_get {K : PySem.W.Frag} {H : Hp} : ∀ {vs : List V} {ds : List PyData} {i : Nat} {x : V}, DpAll K H vs ds → vs[i]? = some x → ∃ d, ds[i]? = some d ∧ Dp K H x d
  | [], [], _, _, .nil, e => by simp at e
  | _ :: _, _ :: _, 0, _, .cons h _, e => by
    simp at e; subst e; exact ⟨_, rfl, h⟩
  | _ :: _, _ :: _, i + 1, _, .cons _ h, e => by
    obtain ⟨d, e1, e2⟩ := dpAll_get (i := i) h (by simpa using e)
    exact ⟨d, by simpa using e1, e2⟩
/-! ### errors of one's own -/
abbrev ihFields (part : Str) (i : Int) : List (Str × V) := [("index", .int i), ("part", .str part)]
def Raised (C : Addr) (E : XK) (H : Hp) (part : Str) (i : Int) : Prop := ∀ (H' : Hp) (d : Addr), Same H H' → H d = none → H' d = some (.xd (ihFields part i)) → E (.ref C) (some d) H'
theorem Raised.mono {C : Addr} {E : XK} {H H1 : Hp} {part : Str} {i : Int} (h : Raised C E H part i) (s : Same H H1) : Raised C E H1 part i := fun H' d s2 n e => h H' d (s.trans s2) (s.free n) e
abbrev sIHInit : Stmt := inClass (top 4) 0
abbrev sTFInit : Stmt := inClass (top 5) 0
structure TxtIH (K : PySem.W.Frag) (mg : Str → Option Value) (C fI : Addr) (fdI : FuncData) : Prop where
  gC : mg "InvalidHouse" = some (.ref C)
  O : OexC K C
  iC : PySem.W.findIn K (.ref C) "__init__" = some (some (.ref fI))
  tI : PySem.W.typeIn K (.ref fI) = some (.type "function")
  F : Fun K "__init__" "InvalidHouse.__init__" sIHInit fI fdI
  b : Binds K fdI ["self", "part", "index"] []
  nP : PySem.W.findIn K (.ref C) "part" = some none
  nI : PySem.W.findIn K (.ref C) "index" = some none
def spIHInit (C : Addr) : Sp := fun vs H Q _ => ∃ (a : Addr) (p i : V), vs = [.ref a, p, i] ∧ H a = some (exo a C none) ∧
  ∀ d, H d = none → d ≠ a → Q .non (upd (upd (upd H d (exd d [("part", p)])) a (exo a C (some d))) d (exd d [("index", i), ("part", p)]))
section
variable {P : Program} {w : World} {K : PySem.W.Frag} {mg : Str → Option Value} {base : Heap} {C fI : Addr} {fdI : FuncData}
theorem scIHInit : FnScope ["self", "part", "index"] ["self", "part", "index"] (defScope sIHInit) := ⟨rfl, rfl, rfl, by decide +kernel, rfl, by decide +kernel, by decide +kernel⟩
theorem ok_ihinit (TI : TxtIH K mg C fI fdI) : FnOk P w K mg base CX0 1 fI fdI ["self", "part", "index"] (spIHInit C) := by
  refine TI.F.ok scIHInit (fun vs H Q E h => ?_) (fun cdv A outer s H vs Q E hr h => ?_)
  · obtain ⟨a, p, i, rfl, _⟩ := h
    rfl
  · obtain ⟨a, p, i, rfl, ha, k⟩ := h
    refine ⟨_, pss_cons (ps_ost (pv 0) (pv 1)) (pss_one (ps_ost (pv 0) (pv 2))), ?_⟩
    refine ⟨_, rfl, _, rfl, a, C, rfl, TI.O, TI.nP, .inl ⟨ha, fun d hd nd => ?_⟩⟩
    refine ⟨_, rfl, _, rfl, a, C, rfl, TI.O, TI.nI, .inr ⟨d, [("part", p)], upd_same, ?_, by simp, ?_⟩⟩
    · rw [upd_ne nd]; exact upd_same
    · exact k d hd nd
/-- the reading of raise InvalidHouse(part, i), from what is wanted of it -/
theorem raise_ih {H : Hp} {E : XK} {part : Str} {i : Int} (k : Raised C E H part i) :
    ([V.str part, V.int i] : List V).length ≤ 1000 ∧ ∀ a, H a = none → spIHInit C (.ref a :: ([V.str part, V.int i] ++ [])) (upd H a (exo a C none))
      (fun v H2 => v = .non ∧ ∃ (d : Addr) (fs : List (Str × V)), H2 a = some (exo a C (some d)) ∧ H2 d = some (exd d fs) ∧ H d = none ∧ E (.ref C) (some d) (upd (del H2 a) d (.xd fs))) (fun _ _ _ => False) := by
  refine ⟨by simp, fun a hn => ⟨a, _, _, rfl, upd_same, fun d hd nd => ⟨rfl, d, _, ?_, upd_same, ?_, ?_⟩⟩⟩
  · rw [upd_ne nd.symm]; exact upd_same
  · rw [upd_ne nd] at hd; exact hd
  · rw [upd_ne nd] at hd
    refine k _ d (fun b o e => ?_) hd upd_same
    have nb : b ≠ a := ne_of_none e hn
    have nd' : b ≠ d := ne_of_none e hd
    rw [upd_ne nd', del_ne nb, upd_ne nd', upd_ne nb, upd_ne nd', upd_ne nb]
    exact e
end
/-! ### the first bad item -/
def bad1 (p : Nat → PyData → Bool) : Nat → List PyData → Option Nat
  | _, [] => none
  | i, d :: ds => if p i d then some i else bad1 p (i + 1) ds
theorem bad1_step {p : Nat → PyData → Bool} {ds : List PyData} {i : Nat} {d : PyData} (h : ds[i]? = some d) : bad1 p i (ds.drop i) = if p i d then some i else bad1 p (i + 1) (ds.drop (i + 1)) := by
  have hi : i < ds.length := (List.getElem?_eq_some_iff.mp h).1
  have e : ds.drop i = d :: ds.drop (i + 1) := by
    rw [List.drop_eq_getElem_cons hi]
    congr 1
    have := List.getElem?_eq_getElem hi
    rw [h] at this
    exact (Option.some.inj this).symm
  rw [e]; rfl
theorem bad1_end {p : Nat → PyData → Bool} {ds : List PyData} : bad1 p ds.length (ds.drop ds.length) = none := by
  rw [List.drop_length]; rfl
def chkTabs : PyData → Option Nat
  | .tuple [] => some 0
  | .tuple (d :: ds) => bad1 (fun i t => i == 6 || !isTabD t) 0 (d :: ds)
  | _ => some 0
def chkKeys (d : PyData) : Option Nat := if below d 10 then none else some 0
def intOf : PyData → Int
  | .int i => i
  | _ => 0
def prOf : PyData → Pr
  | .tuple [.int i, .int j] => (i, j)
  | _ => (0, 0)
/-- the item before, less -/
def ascI (ds : List PyData) (i : Nat) : Bool := match i with
  | 0 => true
  | j + 1 => decide (intOf (ds.getD j .none) < intOf (ds.getD (j + 1) .none))
def ascP (ds : List PyData) (i : Nat) : Bool := match i with
  | 0 => true
  | j + 1 => HT.lexLt [(prOf (ds.getD j .none)).1, (prOf (ds.getD j .none)).2] [(prOf (ds.getD (j + 1) .none)).1, (prOf (ds.getD (j + 1) .none)).2]
def chkCareful (d : PyData) (n : Int) : Option Nat := match d with
  | .tuple ds => bad1 (fun i x => !below x n || !ascI ds i) 0 ds
  | _ => some 0
def chkRem (d : PyData) (per n : Int) : Option Nat := match d with
  | .tuple ds => bad1 (fun i x => i == 10 || !isRemD x per n || !ascP ds i) 0 ds
  | _ => some 0
end Dk

set_option Elab.async false
set_option linter.all false
set_option maxRecDepth 100000
set_option maxHeartbeats 1000000
namespace Dk
open PySem PySem.Spec PyProof.Rows L2 TL
structure TxtI (K : PySem.W.Frag) (mg : Str → Option Value) (fIT fIR fAs : Addr) (fdIT fdIR fdAs : FuncData) : Prop where
  enumerate : mg "enumerate" = none
  most : ∃ t, mg "MOST_PERSONS" = some (.int 6 t)
  keys : ∃ t, mg "MOST_KEYS" = some (.int 9 t)
  rems : ∃ t, mg "MOST_REMINDERS" = some (.int 10 t)
  gIT : mg "is_table" = some (.ref fIT)
  FIT : Fun K "is_table" "is_table" sIsTable fIT fdIT
  bIT : Binds K fdIT ["table"] []
  gIR : mg "is_reminder" = some (.ref fIR)
  FIR : Fun K "is_reminder" "is_reminder" sIsRem fIR fdIR
  bIR : Binds K fdIR ["reminder", "period", "persons"] []
  gAs : mg "is_ascending_at" = some (.ref fAs)
  FAs : Fun K "is_ascending_at" "is_ascending_at" sAsc fAs fdAs
  bAs : Binds K fdAs ["items", "index"] []
def spChkKeys (K : PySem.W.Frag) (C : Addr) : Sp := fun vs H Q E => ∃ (v : V) (d : PyData), vs = [v] ∧ Dp K H v d ∧ (chkKeys d = none → Q .non H) ∧ (chkKeys d = some 0 → Raised C E H "keys" 0)
def SmallS (d : PyData) : Prop := match d with
  | .str t => t.length ≤ 100000
  | _ => True
def spChkTabs (K : PySem.W.Frag) (C : Addr) : Sp := fun vs H Q E => ∃ (v : V) (d : PyData), vs = [v] ∧ Dp K H v d ∧ (∀ ds, d = .tuple ds → ∀ x ∈ ds, SmallS x) ∧
  (chkTabs d = none → ∀ H', Same H H' → Q .non H') ∧ (∀ i, chkTabs d = some i → Raised C E H "tables" (i : Int))
section
variable {P : Program} {w : World} {K : PySem.W.Frag} {mg : Str → Option Value} {base : Heap} {C fI : Addr} {fdI : FuncData} {fII fIB fHO : Addr} {fdII fdIB fdHO : FuncData} {fIT fIR fAs : Addr} {fdIT fdIR fdAs : FuncData}
theorem scChkKeys : FnScope ["keys"] ["keys"] (defScope sChkKeys) := ⟨rfl, rfl, rfl, by decide +kernel, rfl, by decide +kernel, by decide +kernel⟩
theorem ok_chkkeys {f : Addr} {fd : FuncData} (F : Fun K "check_keys" "check_keys" sChkKeys f fd) (TF : TxtF K mg fII fIB fHO fdII fdIB fdHO) (TI : TxtI K mg fIT fIR fAs fdIT fdIR fdAs) (TH : TxtIH K mg C fI fdI) :
    FnOk P w K mg base (L2.CX P w) 3 f fd ["keys"] (spChkKeys K C) := by
  have GB : FnOk P w K mg base CX0 2 fIB fdIB ["value", "limit"] (spIsBelow K) := ok_isbelow TF
  have GI : FnOk P w K mg base CX0 1 fI fdI ["self", "part", "index"] (spIHInit C) := ok_ihinit TH
  obtain ⟨tk, ek⟩ := TI.keys
  refine F.okX scChkKeys (fun vs H Q E h => ?_) (fun cdv A outer s H vs Q E hr h => ?_)
  · obtain ⟨v, d, rfl, _⟩ := h
    rfl
  · obtain ⟨v, d, rfl, hd, k1, k2⟩ := h
    refine ⟨_, pss_one (ps_if (pt_not (pt_val (pe_call GB hr rfl TF.gIB TF.FIB.kp TF.bIB .nil pass0 (pa_cons (pv 0) (pa_cons (pe_op op_add (pe_glob (v := .int 9) rfl ek ⟨_, rfl⟩) pe_int) pa_nil)))))
      (pss_one (ps_raise rfl (takes_of rfl rfl rfl rfl) (pmk_oex TH.O TH.iC TH.tI GI hr TH.b .nil pass0 rfl TH.gC (pa_cons pe_str (pa_cons pe_int pa_nil))))) pss_nil), ?_⟩
    refine ⟨_, rfl, _, _, rfl, rfl, v, d, _, rfl, hd, _, rfl, ?_⟩
    have e : below d (9 + 1) = below d 10 := rfl
    rw [e]
    cases c : below d 10 with
    | true => exact iteF (k1 (by unfold chkKeys; rw [c]; rfl))
    | false => exact iteT (raise_ih (k2 (by unfold chkKeys; rw [c]; rfl)))
theorem scChkTabs : FnScope ["tables", "index", "table"] ["tables"] (defScope sChkTables) := ⟨rfl, rfl, rfl, by decide +kernel, rfl, by decide +kernel, by decide +kernel⟩
theorem ok_chktabs {f : Addr} {fd : FuncData} (F : Fun K "check_tables" "check_tables" sChkTables f fd) (T : TxtA mg) (TF : TxtF K mg fII fIB fHO fdII fdIB fdHO) (TI : TxtI K mg fIT fIR fAs fdIT fdIR fdAs) (TH : TxtIH K mg C fI fdI) :
    FnOk P w K mg base (L2.CX P w) 3 f fd ["tables"] (spChkTabs K C) := by
  have GT : FnOk P w K mg base CX0 2 fIT fdIT ["table"] (spIsTable K) := ok_istable TI.FIT T TF
  have GI : FnOk P w K mg base CX0 1 fI fdI ["self", "part", "index"] (spIHInit C) := ok_ihinit TH
  obtain ⟨tk, ek⟩ := TI.most
  refine F.okX scChkTabs (fun vs H Q E h => ?_) (fun cdv A outer s H vs Q E hr h => ?_)
  · obtain ⟨v, d, rfl, _⟩ := h
    rfl
  · obtain ⟨v, d, rfl, hd, hz, k1, k2⟩ := h
    refine ⟨_, pss_cons (ps_if (PW.pt (pw_or (pt_not (pt_val (pe_callB call_isi (by rfl) TF.isinstance (by decide +kernel) (pa_cons (pv 0) (pa_cons (pe_bltn (v := .ty "tuple") (by rfl) TF.tuple (by decide +kernel) rfl) pa_nil)))))
          (pw_or1 (pt_not (pt_truth (pv 0) (by intro _; rfl))))))
        (pss_one (ps_raise rfl (takes_of rfl rfl rfl rfl) (pmk_oex TH.O TH.iC TH.tI GI hr TH.b .nil pass0 rfl TH.gC (pa_cons pe_str (pa_cons pe_int pa_nil))))) pss_nil)
      (pss_one (ps_for (passes_of rfl) rfl (pi_enumT (by rfl) TI.enumerate (pa_cons (pv 0) pa_nil)) (pg_tup rfl (pgs_cons (pg_name (i := 1) scChkTabs.nd rfl (.inl rfl)) (pgs_cons (pg_name (i := 2) scChkTabs.nd rfl (.inl rfl)) pgs_nil)))
        (pss_one (ps_if (PW.pt (pw_or (pt_cmpR op_eq (pv 1) (pe_glob (v := .int 6) rfl ek ⟨_, rfl⟩) (nomark _)) (pw_or1 (pt_not (pt_val (pe_call GT hr rfl TI.gIT TI.FIT.kp TI.bIT .nil pass0 (pa_cons (pv 2) pa_nil)))))))
          (pss_one (ps_raise rfl (takes_of rfl rfl rfl rfl) (pmk_oex TH.O TH.iC TH.tI GI hr TH.b .nil pass0 rfl TH.gC (pa_cons pe_str (pa_cons (pv 1) pa_nil))))) pss_nil)))), ?_⟩
    refine ⟨_, rfl, _, _, _, _, _, rfl, .ty "tuple", tyx hd, kit_ty (kit_tup d), _, rfl, ?_⟩
    cases hd with
    | str x => exact iteT (iteT (raise_ih (k2 0 rfl)))
    | non => exact iteT (iteT (raise_ih (k2 0 rfl)))
    | bl b => exact iteT (iteT (raise_ih (k2 0 rfl)))
    | int i => exact iteT (iteT (raise_ih (k2 0 rfl)))
    | lst hs ha => exact iteT (iteT (raise_ih (k2 0 rfl)))
    | @tup a xs ds hs ha =>
      refine iteF ⟨_, rfl, !xs.isEmpty, .inr (.inl ⟨xs, hs, rfl⟩), ?_⟩
      have hl := dpAll_len ha
      have hds : ds = [] ∨ ∃ d0 r, ds = d0 :: r := by
        cases ds with
        | nil => exact .inl rfl
        | cons d0 r => exact .inr ⟨d0, r, rfl⟩
      rcases hds with rfl | ⟨d0, r, hds⟩
      · cases ha
        exact iteT (raise_ih (k2 0 rfl))
      · have hx : xs.isEmpty = false := by
          cases xs with
          | nil => rw [hds] at hl; cases hl
          | cons x xs => rfl
        rw [hx]
        have ec : chkTabs (.tuple ds) = bad1 (fun i t => i == 6 || !isTabD t) 0 ds := by rw [hds]; rfl
        rw [ec] at k1 k2
        have hz' := hz ds rfl
        refine iteF ⟨_, rfl, a, xs, rfl, hs, for_it walk_enumT
          (fun i σ H' => ∃ v1 v2 : Option V, σ = [some (.ref a), v1, v2] ∧ Same H H' ∧ bad1 (fun i t => i == 6 || !isTabD t) 0 ds = bad1 (fun i t => i == 6 || !isTabD t) i (ds.drop i))
          ⟨none, none, rfl, Same.refl H, rfl⟩ (fun i σ H' _ ⟨_, _, _, e, _⟩ => sSqT e hs) ?_ ?_⟩
        · rintro i y σ H1 H2 hi ⟨v1, v2, rfl, s1, eb⟩ ⟨Tp, y1, y2, rfl, hTp, rfl, e1, e2⟩
          cases e1
          obtain ⟨dx, edx, hdx⟩ := dpAll_get ha e2
          have s2 : Same H (upd H1 Tp (.tup [.int (i : Nat), y2])) := s1.trans (same_upd hTp)
          have hm : dx ∈ ds := List.mem_of_getElem? edx
          have st := bad1_step (p := fun i t => i == 6 || !isTabD t) edx
          refine ⟨Tp, _, rfl, SqT.of upd_same, rfl, _, _, rfl, _, _, rfl, rfl, ?_⟩
          refine ⟨_, rfl, rfl, _, rfl, ?_⟩
          by_cases c6 : i = 6
          · have c6' : decide (V.int ((i : Nat) : Int) = V.int 6) = true := decide_eq_true (by rw [c6]; rfl)
            rw [c6']
            refine iteT (iteT ⟨_, rfl, raise_ih (Raised.mono (k2 i ?_) s2)⟩)
            rw [eb, st, c6]; rfl
          · have c6' : decide (V.int ((i : Nat) : Int) = V.int 6) = false := decide_eq_false fun q => c6 (by have := V.int.inj q; omega)
            rw [c6']
            refine iteF ⟨_, rfl, y2, dx, rfl, dpSame s2 _ _ hdx, fun t et => ?_, fun H3 s3 => ⟨_, rfl, ?_⟩⟩
            · have := hz' dx hm
              rw [et] at this
              exact this
            · have c6b : (i == 6) = false := by simpa using c6
              rw [c6b, Bool.false_or] at st
              cases c : isTabD dx with
              | true =>
                rw [c] at st
                refine iteF ⟨_, _, rfl, s2.trans s3, ?_⟩
                rw [eb, st]; rfl
              | false =>
                rw [c] at st
                refine iteT ⟨_, rfl, raise_ih (Raised.mono (k2 i ?_) (s2.trans s3))⟩
                rw [eb, st]; rfl
        · rintro σ H1 ⟨v1, v2, rfl, s1, eb⟩
          refine k1 ?_ H1 s1
          rw [eb, hl]
          exact bad1_end
end
end Dk

set_option Elab.async false
set_option linter.all false
set_option maxRecDepth 100000
set_option maxHeartbeats 1000000
namespace Dk
open PySem PySem.Spec PyProof.Rows L2 TL
theorem below_int {d : PyData} {n : Int} (h : below d n = true) : ∃ i, d = .int i ∧ 0 ≤ i ∧ i < n := by
  cases d with
  | int i =>
    have h' : (decide ((0 : Int) ≤ i) && decide (i < n)) = true := h
    rw [Bool.and_eq_true] at h'
    exact ⟨i, rfl, of_decide_eq_true h'.1, of_decide_eq_true h'.2⟩
  | none => cases h
  | bool _ => cases h
  | str _ => cases h
  | list _ => cases h
  | tuple _ => cases h
  | dict _ => cases h
theorem isRem_pr {d : PyData} {per n : Int} (h : isRemD d per n = true) : ∃ i j, d = .tuple [.int i, .int j] ∧ 0 ≤ i ∧ i < per ∧ 0 ≤ j ∧ j < n := by
  unfold isRemD at h
  split at h
  · rename_i a b
    rw [Bool.and_eq_true] at h
    obtain ⟨i, rfl, h1, h2⟩ := below_int h.1
    obtain ⟨j, rfl, h3, h4⟩ := below_int h.2
    exact ⟨i, j, rfl, h1, h2, h3, h4⟩
  · cases h
def spChkCareful (K : PySem.W.Frag) (C : Addr) : Sp := fun vs H Q E => ∃ (v : V) (d : PyData) (n : Int), vs = [v, .int n] ∧ Dp K H v d ∧
  (chkCareful d n = none → ∀ H', Same H H' → Q .non H') ∧ (∀ i, chkCareful d n = some i → Raised C E H "careful" (i : Int))
def spChkRem (K : PySem.W.Frag) (C : Addr) : Sp := fun vs H Q E => ∃ (v : V) (d : PyData) (per n : Int), vs = [v, .int per, .int n] ∧ Dp K H v d ∧
  (chkRem d per n = none → ∀ H', Same H H' → Q .non H') ∧ (∀ i, chkRem d per n = some i → Raised C E H "reminders" (i : Int))
theorem getD_of {ds : List PyData} {i : Nat} {d : PyData} (h : ds[i]? = some d) : ds.getD i .none = d := by rw [List.getD_eq_getElem?_getD, h]; rfl
section
variable {P : Program} {w : World} {K : PySem.W.Frag} {mg : Str → Option Value} {base : Heap} {C fI : Addr} {fdI : FuncData} {fII fIB fHO : Addr} {fdII fdIB fdHO : FuncData} {fIT fIR fAs : Addr} {fdIT fdIR fdAs : FuncData}
theorem scChkCareful : FnScope ["careful", "persons", "index", "person"] ["careful", "persons"] (defScope sChkCareful) := ⟨rfl, rfl, rfl, by decide +kernel, rfl, by decide +kernel, by decide +kernel⟩
theorem ok_chkcareful {f : Addr} {fd : FuncData} (F : Fun K "check_careful" "check_careful" sChkCareful f fd) (T : TxtA mg) (TF : TxtF K mg fII fIB fHO fdII fdIB fdHO) (TI : TxtI K mg fIT fIR fAs fdIT fdIR fdAs) (TH : TxtIH K mg C fI fdI) :
    FnOk P w K mg base (L2.CX P w) 3 f fd ["careful", "persons"] (spChkCareful K C) := by
  have GB : FnOk P w K mg base CX0 2 fIB fdIB ["value", "limit"] (spIsBelow K) := ok_isbelow TF
  have GA : FnOk P w K mg base CX0 1 fAs fdAs ["items", "index"] (spAsc K) := ok_asc TI.FAs
  have GI : FnOk P w K mg base CX0 1 fI fdI ["self", "part", "index"] (spIHInit C) := ok_ihinit TH
  refine F.okX scChkCareful (fun vs H Q E h => ?_) (fun cdv A outer s H vs Q E hr h => ?_)
  · obtain ⟨v, d, n, rfl, _⟩ := h
    rfl
  · obtain ⟨v, d, n, rfl, hd, k1, k2⟩ := h
    have hr1 : Room 1 (A.deeper (envOfC (Str.ofString "check_careful") (defScope sChkCareful) s.heap.objs.size f cdv)) := hr.mono (by decide)
    refine ⟨_, pss_cons (ps_if (pt_not (pt_val (pe_callB call_isi (by rfl) TF.isinstance (by decide +kernel) (pa_cons (pv 0) (pa_cons (pe_bltn (v := .ty "tuple") (by rfl) TF.tuple (by decide +kernel) rfl) pa_nil)))))
        (pss_one (ps_raise rfl (takes_of rfl rfl rfl rfl) (pmk_oex TH.O TH.iC TH.tI GI hr TH.b .nil pass0 rfl TH.gC (pa_cons pe_str (pa_cons pe_int pa_nil))))) pss_nil)
      (pss_one (ps_for (passes_of rfl) rfl (pi_enumT (by rfl) TI.enumerate (pa_cons (pv 0) pa_nil)) (pg_tup rfl (pgs_cons (pg_name (i := 2) scChkCareful.nd rfl (.inl rfl)) (pgs_cons (pg_name (i := 3) scChkCareful.nd rfl (.inl rfl)) pgs_nil)))
        (pss_one (ps_if (PW.pt (pw_or (pt_not (pt_val (pe_call GB hr rfl TF.gIB TF.FIB.kp TF.bIB .nil pass0 (pa_cons (pv 3) (pa_cons (pv 1) pa_nil)))))
            (pw_or1 (pt_not (pt_val (pe_call GA hr1 rfl TI.gAs TI.FAs.kp TI.bAs .nil pass0 (pa_cons (pv 0) (pa_cons (pv 2) pa_nil))))))))
          (pss_one (ps_raise rfl (takes_of rfl rfl rfl rfl) (pmk_oex TH.O TH.iC TH.tI GI hr TH.b .nil pass0 rfl TH.gC (pa_cons pe_str (pa_cons (pv 2) pa_nil))))) pss_nil)))), ?_⟩
    refine ⟨_, rfl, _, _, _, _, _, rfl, .ty "tuple", tyx hd, kit_ty (kit_tup d), _, rfl, ?_⟩
    cases hd with
    | str x => exact iteT (raise_ih (k2 0 rfl))
    | non => exact iteT (raise_ih (k2 0 rfl))
    | bl b => exact iteT (raise_ih (k2 0 rfl))
    | int i => exact iteT (raise_ih (k2 0 rfl))
    | lst hs ha => exact iteT (raise_ih (k2 0 rfl))
    | @tup a xs ds hs ha =>
      have hl := dpAll_len ha
      have ec : chkCareful (.tuple ds) n = bad1 (fun i x => !below x n || !ascI ds i) 0 ds := rfl
      rw [ec] at k1 k2
      refine iteF ⟨_, rfl, a, xs, rfl, hs, for_it walk_enumT
        (fun i σ H' => ∃ v1 v2 : Option V, σ = [some (.ref a), some (.int n), v1, v2] ∧ Same H H' ∧ bad1 (fun i x => !below x n || !ascI ds i) 0 ds = bad1 (fun i x => !below x n || !ascI ds i) i (ds.drop i) ∧ ∀ j d, j < i → ds[j]? = some d → below d n = true)
        ⟨none, none, rfl, Same.refl H, rfl, fun j d hj => absurd hj (Nat.not_lt_zero _)⟩ (fun i σ H' _ ⟨_, _, _, e, _⟩ => sSqT e hs) ?_ ?_⟩
      · rintro i y σ H1 H2 hi ⟨v1, v2, rfl, s1, eb, hall⟩ ⟨Tp, y1, y2, rfl, hTp, rfl, e1, e2⟩
        cases e1
        obtain ⟨dx, edx, hdx⟩ := dpAll_get ha e2
        have s2 : Same H (upd H1 Tp (.tup [.int (i : Nat), y2])) := s1.trans (same_upd hTp)
        have st := bad1_step (p := fun i x => !below x n || !ascI ds i) edx
        refine ⟨Tp, _, rfl, SqT.of upd_same, rfl, _, _, rfl, _, _, rfl, rfl, ?_⟩
        refine ⟨_, rfl, _, rfl, y2, dx, n, rfl, dpSame s2 _ _ hdx, _, rfl, ?_⟩
        cases c : below dx n with
        | false =>
          rw [c] at st
          refine iteT (iteT ⟨_, rfl, raise_ih (Raised.mono (k2 i ?_) s2)⟩)
          rw [eb, st]; rfl
        | true =>
          rw [c] at st
          have st' : bad1 (fun i x => !below x n || !ascI ds i) i (ds.drop i) = if (!ascI ds i) = true then some i else bad1 (fun i x => !below x n || !ascI ds i) (i + 1) (ds.drop (i + 1)) := st
          refine iteF ⟨_, rfl, _, rfl, a, xs, i, ascI ds i, rfl, sSqT s2 hs, hi, fun e0 => by rw [e0]; rfl, fun j ej => ?_, _, rfl, ?_⟩
          · subst ej
            obtain ⟨x, ex⟩ : ∃ x, xs[j]? = some x := ⟨xs[j]'(by omega), List.getElem?_eq_getElem _⟩
            obtain ⟨dj, edj, hdj⟩ := dpAll_get ha ex
            obtain ⟨m1, rfl, _, _⟩ := below_int (hall j dj (Nat.lt_succ_self _) edj)
            obtain ⟨m2, rfl, _, _⟩ := below_int c
            cases hdj
            cases hdx
            refine ⟨_, _, ex, e2, .inl ⟨m1, m2, rfl, rfl, ?_⟩⟩
            show decide (intOf (ds.getD j .none) < intOf (ds.getD (j + 1) .none)) = decide (m1 < m2)
            rw [getD_of edj, getD_of edx]; rfl
          · cases c2 : ascI ds i with
            | true =>
              rw [c2] at st'
              refine iteF ⟨_, _, rfl, s2, ?_, fun j d hj ej => ?_⟩
              · rw [eb, st']; rfl
              · by_cases e : j = i
                · subst e; rw [edx] at ej; cases ej; exact c
                · exact hall j d (by omega) ej
            | false =>
              rw [c2] at st'
              refine iteT ⟨_, rfl, raise_ih (Raised.mono (k2 i ?_) s2)⟩
              rw [eb, st']; rfl
      · rintro σ H1 ⟨v1, v2, rfl, s1, eb, _⟩
        refine k1 ?_ H1 s1
        rw [eb, hl]
        exact bad1_end
theorem scChkRem : FnScope ["reminders", "period", "persons", "index", "reminder"] ["reminders", "period", "persons"] (defScope sChkRem) := ⟨rfl, rfl, rfl, by decide +kernel, rfl, by decide +kernel, by decide +kernel⟩
theorem ok_chkrem {f : Addr} {fd : FuncData} (F : Fun K "check_reminders" "check_reminders" sChkRem f fd) (T : TxtA mg) (TF : TxtF K mg fII fIB fHO fdII fdIB fdHO) (TI : TxtI K mg fIT fIR fAs fdIT fdIR fdAs) (TH : TxtIH K mg C fI fdI) :
    FnOk P w K mg base (L2.CX P w) 4 f fd ["reminders", "period", "persons"] (spChkRem K C) := by
  have GR : FnOk P w K mg base CX0 3 fIR fdIR ["reminder", "period", "persons"] (spIsRem K) := ok_isrem TI.FIR T TF
  have GA : FnOk P w K mg base CX0 1 fAs fdAs ["items", "index"] (spAsc K) := ok_asc TI.FAs
  have GI : FnOk P w K mg base CX0 1 fI fdI ["self", "part", "index"] (spIHInit C) := ok_ihinit TH
  obtain ⟨tk, ek⟩ := TI.rems
  refine F.okX scChkRem (fun vs H Q E h => ?_) (fun cdv A outer s H vs Q E hr h => ?_)
  · obtain ⟨v, d, per, n, rfl, _⟩ := h
    rfl
  · obtain ⟨v, d, per, n, rfl, hd, k1, k2⟩ := h
    have hr1 : Room 1 (A.deeper (envOfC (Str.ofString "check_reminders") (defScope sChkRem) s.heap.objs.size f cdv)) := hr.mono (by decide)
    have hr2 : Room 2 (A.deeper (envOfC (Str.ofString "check_reminders") (defScope sChkRem) s.heap.objs.size f cdv)) := hr.mono (by decide)
    refine ⟨_, pss_cons (ps_if (pt_not (pt_val (pe_callB call_isi (by rfl) TF.isinstance (by decide +kernel) (pa_cons (pv 0) (pa_cons (pe_bltn (v := .ty "tuple") (by rfl) TF.tuple (by decide +kernel) rfl) pa_nil)))))
        (pss_one (ps_raise rfl (takes_of rfl rfl rfl rfl) (pmk_oex TH.O TH.iC TH.tI GI hr2 TH.b .nil pass0 rfl TH.gC (pa_cons pe_str (pa_cons pe_int pa_nil))))) pss_nil)
      (pss_one (ps_for (passes_of rfl) rfl (pi_enumT (by rfl) TI.enumerate (pa_cons (pv 0) pa_nil)) (pg_tup rfl (pgs_cons (pg_name (i := 3) scChkRem.nd rfl (.inl rfl)) (pgs_cons (pg_name (i := 4) scChkRem.nd rfl (.inl rfl)) pgs_nil)))
        (pss_cons (ps_if (PW.pt (pw_or (pt_cmpR op_eq (pv 3) (pe_glob (v := .int 10) rfl ek ⟨_, rfl⟩) (nomark _)) (pw_or1 (pt_not (pt_val (pe_call GR hr rfl TI.gIR TI.FIR.kp TI.bIR .nil pass0 (pa_cons (pv 4) (pa_cons (pv 1) (pa_cons (pv 2) pa_nil)))))))))
          (pss_one (ps_raise rfl (takes_of rfl rfl rfl rfl) (pmk_oex TH.O TH.iC TH.tI GI hr2 TH.b .nil pass0 rfl TH.gC (pa_cons pe_str (pa_cons (pv 3) pa_nil))))) pss_nil)
        (pss_one (ps_if (pt_not (pt_val (pe_call GA hr1 rfl TI.gAs TI.FAs.kp TI.bAs .nil pass0 (pa_cons (pv 0) (pa_cons (pv 3) pa_nil)))))
          (pss_one (ps_raise rfl (takes_of rfl rfl rfl rfl) (pmk_oex TH.O TH.iC TH.tI GI hr2 TH.b .nil pass0 rfl TH.gC (pa_cons pe_str (pa_cons (pv 3) pa_nil))))) pss_nil))))), ?_⟩
    refine ⟨_, rfl, _, _, _, _, _, rfl, .ty "tuple", tyx hd, kit_ty (kit_tup d), _, rfl, ?_⟩
    cases hd with
    | str x => exact iteT (raise_ih (k2 0 rfl))
    | non => exact iteT (raise_ih (k2 0 rfl))
    | bl b => exact iteT (raise_ih (k2 0 rfl))
    | int i => exact iteT (raise_ih (k2 0 rfl))
    | lst hs ha => exact iteT (raise_ih (k2 0 rfl))
    | @tup a xs ds hs ha =>
      have hl := dpAll_len ha
      have ec : chkRem (.tuple ds) per n = bad1 (fun i x => i == 10 || !isRemD x per n || !ascP ds i) 0 ds := rfl
      rw [ec] at k1 k2
      refine iteF ⟨_, rfl, a, xs, rfl, hs, for_it walk_enumT
        (fun i σ H' => ∃ v1 v2 : Option V, σ = [some (.ref a), some (.int per), some (.int n), v1, v2] ∧ Same H H' ∧ bad1 (fun i x => i == 10 || !isRemD x per n || !ascP ds i) 0 ds = bad1 (fun i x => i == 10 || !isRemD x per n || !ascP ds i) i (ds.drop i) ∧ ∀ j d, j < i → ds[j]? = some d → isRemD d per n = true)
        ⟨none, none, rfl, Same.refl H, rfl, fun j d hj => absurd hj (Nat.not_lt_zero _)⟩ (fun i σ H' _ ⟨_, _, _, e, _⟩ => sSqT e hs) ?_ ?_⟩
      · rintro i y σ H1 H2 hi ⟨v1, v2, rfl, s1, eb, hall⟩ ⟨Tp, y1, y2, rfl, hTp, rfl, e1, e2⟩
        cases e1
        obtain ⟨dx, edx, hdx⟩ := dpAll_get ha e2
        have s2 : Same H (upd H1 Tp (.tup [.int (i : Nat), y2])) := s1.trans (same_upd hTp)
        have st := bad1_step (p := fun i x => i == 10 || !isRemD x per n || !ascP ds i) edx
        refine ⟨Tp, _, rfl, SqT.of upd_same, rfl, _, _, rfl, _, _, rfl, rfl, ?_⟩
        refine ⟨_, rfl, rfl, _, rfl, ?_⟩
        by_cases c6 : i = 10
        · have c6' : decide (V.int ((i : Nat) : Int) = V.int 10) = true := decide_eq_true (by rw [c6]; rfl)
          rw [c6']
          refine iteT (iteT ⟨_, rfl, raise_ih (Raised.mono (k2 i ?_) s2)⟩)
          rw [eb, st, c6]; rfl
        · have c6' : decide (V.int ((i : Nat) : Int) = V.int 10) = false := decide_eq_false fun q => c6 (by have := V.int.inj q; omega)
          rw [c6']
          have c6b : (i == 10) = false := by simpa using c6
          rw [c6b, Bool.false_or] at st
          refine iteF ⟨_, rfl, _, rfl, _, rfl, y2, dx, per, n, rfl, dpSame s2 _ _ hdx, _, rfl, ?_⟩
          cases c : isRemD dx per n with
          | false =>
            rw [c] at st
            refine iteT ⟨_, rfl, raise_ih (Raised.mono (k2 i ?_) s2)⟩
            rw [eb, st]; rfl
          | true =>
            rw [c] at st
            have st' : bad1 (fun i x => i == 10 || !isRemD x per n || !ascP ds i) i (ds.drop i) = if (!ascP ds i) = true then some i else bad1 (fun i x => i == 10 || !isRemD x per n || !ascP ds i) (i + 1) (ds.drop (i + 1)) := st
            refine iteF ⟨_, rfl, _, rfl, a, xs, i, ascP ds i, rfl, sSqT s2 hs, hi, fun e0 => by rw [e0]; rfl, fun j ej => ?_, _, rfl, ?_⟩
            · subst ej
              obtain ⟨x, ex⟩ : ∃ x, xs[j]? = some x := ⟨xs[j]'(by omega), List.getElem?_eq_getElem _⟩
              obtain ⟨dj, edj, hdj⟩ := dpAll_get ha ex
              obtain ⟨m1, m2, rfl, _⟩ := isRem_pr (hall j dj (Nat.lt_succ_self _) edj)
              obtain ⟨m3, m4, rfl, _⟩ := isRem_pr c
              cases hdj with
              | tup h1 h2 =>
                cases hdx with
                | tup h3 h4 =>
                  cases h2 with
                  | cons p1 p2 =>
                    cases p2 with
                    | cons p2 p3 =>
                      cases p3
                      cases p1
                      cases p2
                      cases h4 with
                      | cons q1 q2 =>
                        cases q2 with
                        | cons q2 q3 =>
                          cases q3
                          cases q1
                          cases q2
                          refine ⟨_, _, ex, e2, .inr ⟨_, _, [m1, m2], [m3, m4], rfl, rfl, sSqT s2 h1, sSqT s2 h3, ?_⟩⟩
                          show HT.lexLt [(prOf (ds.getD j .none)).1, (prOf (ds.getD j .none)).2] [(prOf (ds.getD (j + 1) .none)).1, (prOf (ds.getD (j + 1) .none)).2] = _
                          rw [getD_of edj, getD_of edx]; rfl
            · cases c2 : ascP ds i with
              | true =>
                rw [c2] at st'
                refine iteF ⟨_, _, rfl, s2, ?_, fun j d hj ej => ?_⟩
                · rw [eb, st']; rfl
                · by_cases e : j = i
                  · subst e; rw [edx] at ej; cases ej; exact c
                  · exact hall j d (by omega) ej
              | false =>
                rw [c2] at st'
                refine iteT ⟨_, rfl, raise_ih (Raised.mono (k2 i ?_) s2)⟩
                rw [eb, st']; rfl
      · rintro σ H1 ⟨v1, v2, rfl, s1, eb, _⟩
        refine k1 ?_ H1 s1
        rw [eb, hl]
        exact bad1_end
end
end Dk

set_option Elab.async false
set_option linter.all false
set_option maxRecDepth 100000
set_option maxHeartbeats 1000000
namespace Dk
open PySem PySem.Spec PyProof.Rows L2 TL
/-! ### the house -/
theorem isTab_of {d : PyData} (h : isTabD d = true) : ∃ t, d = .str t ∧ IsTab t := by
  cases d with
  | str t =>
    have h' : (decide ((t.length : Int) ∈ tabLens) && only t hoS) = true := h
    rw [Bool.and_eq_true] at h'
    refine ⟨t, rfl, ?_, fun c hc => ?_⟩
    · have h1 := of_decide_eq_true h'.1
      rw [len_tl t] at h1
      simp only [tabLens, List.mem_cons, List.not_mem_nil, or_false] at h1 ⊢
      omega
    · have h2 := List.all_eq_true.mp h'.2 c hc
      have h3 := of_decide_eq_true h2
      have e : tl hoS = [104, 111] := by decide +kernel
      rw [e] at h3
      simpa using h3
  | none => cases h
  | bool _ => cases h
  | int _ => cases h
  | list _ => cases h
  | tuple _ => cases h
  | dict _ => cases h
theorem isTab_is {t : Str} (h : IsTab t) : isTabD (.str t) = true := by
  show (decide ((t.length : Int) ∈ tabLens) && only t hoS) = true
  rw [Bool.and_eq_true]
  refine ⟨decide_eq_true ?_, List.all_eq_true.mpr fun c hc => decide_eq_true ?_⟩
  · have h1 := h.len
    rw [len_tl t]
    simp only [tabLens, List.mem_cons, List.not_mem_nil, or_false] at h1 ⊢
    omega
  · have e : tl hoS = [104, 111] := by decide +kernel
    rw [e]
    simpa using h.ho c hc
theorem bad1_none {p : Nat → PyData → Bool} : ∀ {ds : List PyData} {i : Nat}, bad1 p i ds = none ↔ ∀ j d, ds[j]? = some d → p (i + j) d = false
  | [], i => by simp [bad1]
  | d :: ds, i => by
    unfold bad1
    constructor
    · intro h j x hx
      split at h
      · cases h
      · rename_i c
        cases j with
        | zero => simp at hx; subst hx; simpa using c
        | succ j =>
          have := (bad1_none (ds := ds) (i := i + 1)).mp h j x (by simpa using hx)
          rw [show i + (j + 1) = i + 1 + j by omega]; exact this
    · intro h
      have h0 := h 0 d rfl
      rw [Nat.add_zero] at h0
      rw [h0]
      refine (bad1_none (ds := ds) (i := i + 1)).mpr fun j x hx => ?_
      have := h (j + 1) x (by simpa using hx)
      rw [show i + 1 + j = i + (j + 1) by omega]; exact this
theorem strs_of : ∀ {ds : List PyData}, (∀ d ∈ ds, isTabD d = true) → ∃ ts : List Str, ds = ts.map PyData.str ∧ Tabs ts
  | [], _ => ⟨[], rfl, fun t ht => by cases ht⟩
  | d :: ds, h => by
    obtain ⟨t, rfl, ht⟩ := isTab_of (h d (List.mem_cons_self ..))
    obtain ⟨ts, rfl, hts⟩ := strs_of (ds := ds) fun x hx => h x (List.mem_cons_of_mem _ hx)
    refine ⟨t :: ts, rfl, fun x hx => ?_⟩
    rcases List.mem_cons.mp hx with rfl | hx
    · exact ht
    · exact hts x hx
theorem tabs_of {d : PyData} (h : chkTabs d = none) : ∃ ts : List Str, d = .tuple (ts.map PyData.str) ∧ Tabs ts ∧ 1 ≤ ts.length ∧ ts.length ≤ 6 := by
  unfold chkTabs at h
  split at h
  · cases h
  · rename_i d0 ds
    have h' := bad1_none.mp h
    obtain ⟨ts, e, hT⟩ := strs_of (ds := d0 :: ds) fun x hx => by
      obtain ⟨j, hj⟩ := List.getElem?_of_mem hx
      have := h' j x hj
      simp only [Bool.or_eq_false_iff, Bool.not_eq_false'] at this
      exact this.2
    have hl : (d0 :: ds).length = ts.length := by rw [e, List.length_map]
    refine ⟨ts, by rw [e], hT, by rw [← hl]; simp, ?_⟩
    rw [← hl]
    rcases Nat.lt_or_ge 6 (d0 :: ds).length with c | c
    · have hx : (d0 :: ds)[6]? = some ((d0 :: ds)[6]'c) := List.getElem?_eq_getElem c
      have := h' 6 _ hx
      simp at this
    · exact c
  · cases h
theorem tabs_is {ts : List Str} (hT : Tabs ts) (h1 : 1 ≤ ts.length) (h6 : ts.length ≤ 6) : chkTabs (.tuple (ts.map PyData.str)) = none := by
  cases ts with
  | nil => simp at h1
  | cons t ts =>
    show bad1 _ 0 _ = none
    refine bad1_none.mpr fun j d hd => ?_
    have hd' : ((t :: ts).map PyData.str)[j]? = some d := hd
    rw [List.getElem?_map] at hd'
    cases e : (t :: ts)[j]? with
    | none => rw [e] at hd'; cases hd'
    | some x =>
      rw [e] at hd'
      have ed : PyData.str x = d := Option.some.inj hd'
      subst ed
      have hj : j < (t :: ts).length := (List.getElem?_eq_some_iff.mp e).1
      rw [isTab_is (hT x (List.mem_of_getElem? e))]
      have : (0 + j == 6) = false := by simp; omega
      rw [this]; rfl
def lenD : PyData → Nat
  | .tuple ds => ds.length
  | _ => 0
def strOf : PyData → Str
  | .str t => t
  | _ => Str.empty
def perD : PyData → Nat
  | .tuple ds => per (ds.map strOf)
  | _ => 1
/-- the first invalid part of a house -/
def chkHouse (dT dK dC dR : PyData) : Option (Str × Nat) :=
  match chkTabs dT with
  | some i => some ("tables", i)
  | none => match chkKeys dK with
    | some i => some ("keys", i)
    | none => match chkCareful dC (lenD dT : Int) with
      | some i => some ("careful", i)
      | none => match chkRem dR (perD dT : Int) (lenD dT : Int) with
        | some i => some ("reminders", i)
        | none => none
end Dk

set_option Elab.async false
set_option linter.all false
set_option maxRecDepth 100000
set_option maxHeartbeats 1000000
namespace Dk
open PySem PySem.Spec PyProof.Rows L2 TL
abbrev hFields (vT vK vC vR : V) : List (Str × V) := putF "reminders" vR (putF "careful" vC (putF "key_count" vK (putF "tables" vT [])))
theorem hf_len (vT vK vC vR : V) : (hFields vT vK vC vR).length = 4 := by rfl
structure TxtL (K : PySem.W.Frag) (mg : Str → Option Value) (C fP fT fK fC fR : Addr) (fdP fdT fdK fdC fdR : FuncData) : Prop where
  cl : Cls K C
  nT : NoAttr K C "tables"
  nK : NoAttr K C "key_count"
  nC : NoAttr K C "careful"
  nR : NoAttr K C "reminders"
  gP : mg "common_period" = some (.ref fP)
  FP : Fun K "common_period" "common_period" sPeriod fP fdP
  bP : Binds K fdP ["tables"] []
  gT : mg "check_tables" = some (.ref fT)
  FT : Fun K "check_tables" "check_tables" sChkTables fT fdT
  bT : Binds K fdT ["tables"] []
  gK : mg "check_keys" = some (.ref fK)
  FK : Fun K "check_keys" "check_keys" sChkKeys fK fdK
  bK : Binds K fdK ["keys"] []
  gCa : mg "check_careful" = some (.ref fC)
  FC : Fun K "check_careful" "check_careful" sChkCareful fC fdC
  bC : Binds K fdC ["careful", "persons"] []
  gR : mg "check_reminders" = some (.ref fR)
  FR : Fun K "check_reminders" "check_reminders" sChkRem fR fdR
  bR : Binds K fdR ["reminders", "period", "persons"] []
def spInit (K : PySem.W.Frag) (C CI : Addr) : Sp := fun vs H Q E => ∃ (p dx : Addr) (vT vK vC vR : V) (dT dK dC dR : PyData), vs = [.ref p, vT, vK, vC, vR] ∧ Dp K H vT dT ∧ Dp K H vK dK ∧ Dp K H vC dC ∧ Dp K H vR dR ∧
  (∀ ds, dT = .tuple ds → ∀ x ∈ ds, SmallS x) ∧ H p = some (.ins C dx []) ∧
  (chkHouse dT dK dC dR = none → ∀ H', Kp p H H' → H' p = some (.ins C dx (hFields vT vK vC vR)) → Q .non H') ∧
  (∀ part i, chkHouse dT dK dC dR = some (part, i) → Raised CI E H part (i : Int))
section
variable {P : Program} {w : World} {K : PySem.W.Frag} {mg : Str → Option Value} {base : Heap} {C fI : Addr} {fdI : FuncData} {fII fIB fHO : Addr} {fdII fdIB fdHO : FuncData} {fIT fIR fAs : Addr} {fdIT fdIR fdAs : FuncData}
  {CH fP fT fK fC fR : Addr} {fdP fdT fdK fdC fdR : FuncData}
theorem scInit : FnScope ["self", "tables", "keys", "careful", "reminders"] ["self", "tables", "keys", "careful", "reminders"] (defScope sInit) := ⟨rfl, rfl, rfl, by decide +kernel, rfl, by decide +kernel, by decide +kernel⟩
theorem strs_back {ts : List Str} : (ts.map PyData.str).map strOf = ts := by
  induction ts with
  | nil => rfl
  | cons t ts ih => rw [List.map_cons, List.map_cons, ih]; rfl
theorem dp_tabs {K : PySem.W.Frag} {H : Hp} {v : V} {ts : List Str} (h : Dp K H v (.tuple (ts.map PyData.str))) : ∃ a, v = .ref a ∧ SqT K H a (ts.map V.str) := by
  cases h with
  | @tup a xs ds hs ha =>
    refine ⟨a, rfl, ?_⟩
    have e : xs = ts.map V.str := by
      clear hs
      induction ts generalizing xs with
      | nil => cases ha; rfl
      | cons t ts ih =>
        cases ha with
        | cons h1 h2 =>
          cases h1
          rw [ih h2]; rfl
    rw [← e]; exact hs
theorem ok_init {f : Addr} {fd : FuncData} {dvs : List V} (F : FunD K "__init__" "House.__init__" (defArgs sInit) (defBody sInit) (defScope sInit) dvs [] f fd) (T : TxtA mg) (TC : TxtC mg) (TF : TxtF K mg fII fIB fHO fdII fdIB fdHO) (TI : TxtI K mg fIT fIR fAs fdIT fdIR fdAs) (TH : TxtIH K mg C fI fdI)
    (TL' : TxtL K mg CH fP fT fK fC fR fdP fdT fdK fdC fdR) :
    FnOk P w K mg base (L2.CX P w) 5 f fd ["self", "tables", "keys", "careful", "reminders"] (spInit K CH C) := by
  have GP : FnOk P w K mg base CX0 1 fP fdP ["tables"] (spPeriod K) := ok_period TL'.FP T TC
  have GT : FnOk P w K mg base (L2.CX P w) 3 fT fdT ["tables"] (spChkTabs K C) := ok_chktabs TL'.FT T TF TI TH
  have GK : FnOk P w K mg base (L2.CX P w) 3 fK fdK ["keys"] (spChkKeys K C) := ok_chkkeys TL'.FK TF TI TH
  have GC : FnOk P w K mg base (L2.CX P w) 3 fC fdC ["careful", "persons"] (spChkCareful K C) := ok_chkcareful TL'.FC T TF TI TH
  have GR : FnOk P w K mg base (L2.CX P w) 4 fR fdR ["reminders", "period", "persons"] (spChkRem K C) := ok_chkrem TL'.FR T TF TI TH
  refine F.ok scInit (fun vs H Q E h => ?_) (fun cdv A outer s H vs Q E hr h => ?_)
  · obtain ⟨p, dx, vT, vK, vC, vR, dT, dK, dC, dR, rfl, _⟩ := h
    rfl
  · obtain ⟨p, dx, vT, vK, vC, vR, dT, dK, dC, dR, rfl, hT, hK, hC, hR, hz, hp, k1, k2⟩ := h
    have hr3 : Room 3 (A.deeper (envOfC (Str.ofString "House.__init__") (defScope sInit) s.heap.objs.size f cdv)) := hr.mono (by decide)
    have hr1 : Room 1 (A.deeper (envOfC (Str.ofString "House.__init__") (defScope sInit) s.heap.objs.size f cdv)) := hr.mono (by decide)
    refine ⟨_, pss_cons (ps_expr (pe_call GT hr3 rfl TL'.gT TL'.FT.kp TL'.bT .nil (passes_call (takes_of rfl rfl rfl rfl) (fun _ _ _ _ h => h)) (pa_cons (pv 1) pa_nil)))
      (pss_cons (ps_expr (pe_call GK hr3 rfl TL'.gK TL'.FK.kp TL'.bK .nil (passes_call (takes_of rfl rfl rfl rfl) (fun _ _ _ _ h => h)) (pa_cons (pv 2) pa_nil)))
      (pss_cons (ps_expr (pe_call GC hr3 rfl TL'.gCa TL'.FC.kp TL'.bC .nil (passes_call (takes_of rfl rfl rfl rfl) (fun _ _ _ _ h => h)) (pa_cons (pv 3) (pa_cons (pe_callB call_len_seq (by rfl) T.len PySem.boot_len (pa_cons (pv 1) pa_nil)) pa_nil))))
      (pss_cons (ps_expr (pe_call GR hr rfl TL'.gR TL'.FR.kp TL'.bR .nil (passes_call (takes_of rfl rfl rfl rfl) (fun _ _ _ _ h => h)) (pa_cons (pv 4) (pa_cons (pe_call GP hr1 rfl TL'.gP TL'.FP.kp TL'.bP .nil pass0 (pa_cons (pv 1) pa_nil)) (pa_cons (pe_callB call_len_seq (by rfl) T.len PySem.boot_len (pa_cons (pv 1) pa_nil)) pa_nil)))))
      (pss_cons (ps_fld (pv 0) (pv 1) rfl) (pss_cons (ps_fld (pv 0) (pv 2) rfl) (pss_cons (ps_fld (pv 0) (pv 3) rfl) (pss_one (ps_fld (pv 0) (pv 4) rfl)))))))), ?_⟩
    refine ⟨_, rfl, vT, dT, rfl, hT, hz, fun cT H1 s1 => ?_, fun i c => k2 "tables" i (by unfold chkHouse; rw [c])⟩
    obtain ⟨ts, rfl, hTs, h1, h6⟩ := tabs_of cT
    obtain ⟨aT, rfl, hsT⟩ := dp_tabs hT
    refine ⟨_, rfl, vK, dK, rfl, dpSame s1 _ _ hK, fun cK => ?_, fun c => Raised.mono (k2 "keys" 0 (by unfold chkHouse; rw [cT]; dsimp only; rw [c])) s1⟩
    refine ⟨_, rfl, _, rfl, aT, _, rfl, .inr (sSqT s1 hsT), vC, dC, _, rfl, dpSame s1 _ _ hC, ?_⟩
    rw [show (((ts.map V.str).length : Nat) : Int) = (lenD (.tuple (ts.map PyData.str)) : Int) by show _ = (((ts.map PyData.str).length : Nat) : Int); rw [List.length_map, List.length_map]]
    refine ⟨fun cC H2 s2 => ?_, fun i c => Raised.mono (k2 "careful" i (by unfold chkHouse; rw [cT]; dsimp only; rw [cK]; dsimp only; rw [c])) s1⟩
    have s12 := s1.trans s2
    refine ⟨_, rfl, _, rfl, aT, ts, rfl, sSqT s12 hsT, hTs, _, rfl, aT, _, rfl, .inr (sSqT s12 hsT), vR, dR, _, _, rfl, dpSame s12 _ _ hR, ?_⟩
    rw [show (((ts.map V.str).length : Nat) : Int) = (lenD (.tuple (ts.map PyData.str)) : Int) by show _ = (((ts.map PyData.str).length : Nat) : Int); rw [List.length_map, List.length_map],
      show ((per ts : Nat) : Int) = (perD (.tuple (ts.map PyData.str)) : Int) by show _ = ((per ((ts.map PyData.str).map strOf) : Nat) : Int); rw [strs_back]]
    refine ⟨fun cR H3 s3 => ?_, fun i c => Raised.mono (k2 "reminders" i (by unfold chkHouse; rw [cT]; dsimp only; rw [cK]; dsimp only; rw [cC]; dsimp only; rw [c])) s12⟩
    have s123 := s12.trans s3
    have hp3 := s123 _ _ hp
    refine ⟨_, rfl, _, rfl, p, CH, dx, _, rfl, hp3, TL'.cl, TL'.nT, (by show 0 < 1000; decide), ?_⟩
    refine ⟨_, rfl, _, rfl, p, CH, dx, _, rfl, upd_same, TL'.cl, TL'.nK, (by show 1 < 1000; decide), ?_⟩
    refine ⟨_, rfl, _, rfl, p, CH, dx, _, rfl, upd_same, TL'.cl, TL'.nC, (by show 2 < 1000; decide), ?_⟩
    refine ⟨_, rfl, _, rfl, p, CH, dx, _, rfl, upd_same, TL'.cl, TL'.nR, (by show 3 < 1000; decide), ?_⟩
    refine k1 ?_ _ (fun b o nb eb => ?_) upd_same
    · unfold chkHouse; rw [cT]; dsimp only; rw [cK]; dsimp only; rw [cC]; dsimp only; rw [cR]
    · rw [upd_ne nb, upd_ne nb, upd_ne nb, upd_ne nb]; exact s123 _ _ eb
end
end Dk

set_option Elab.async false
set_option linter.all false
set_option maxRecDepth 100000
set_option maxHeartbeats 1000000
namespace Dk
open PySem PySem.Spec PyProof.Rows L2 TL
/-! ### words -/
theorem spl_bound (S : List Nat) : ∀ (k : Nat) (acc L : List Nat), ∀ p ∈ spl S k acc L, p.length ≤ acc.length + L.length
  | k, acc, [], p, h => by
    rw [spl_nil] at h
    rw [List.mem_singleton.mp h]; omega
  | 0, acc, c :: r, p, h => by
    unfold spl at h
    split at h
    · rcases List.mem_cons.mp h with rfl | h
      · rw [List.length_cons]; omega
      · have := spl_bound S _ [] r p h
        rw [List.length_cons]; simp at this; omega
    · have := spl_bound S 0 (acc ++ [c]) r p h
      rw [List.length_append, List.length_singleton] at this
      rw [List.length_cons]; omega
  | k + 1, acc, c :: r, p, h => by
    have := spl_bound S k acc r p h
    rw [List.length_cons]; omega
theorem spl_ne (S : List Nat) : ∀ (k : Nat) (acc L : List Nat), spl S k acc L ≠ []
  | k, acc, [] => by rw [spl_nil]; simp
  | 0, acc, c :: r => by
    unfold spl
    split
    · simp
    · exact spl_ne S 0 _ r
  | k + 1, acc, c :: r => spl_ne S k acc r
def colS : Str := Str.ofString ":"
def spS : Str := Str.ofString " "
def nlS : Str := Str.ofString "\n"
theorem tl_col : tl colS = [58] := by decide +kernel
theorem tl_sp : tl spS = [32] := by decide +kernel
theorem tl_nl : tl nlS = [10] := by decide +kernel
structure Sep (y : Str) : Prop where
  ex : ∃ c, tl y = [c]
  k : y.cps.all (· < 256) = true
  z : (y.length == 0) = false
theorem sepCol : Sep colS := ⟨⟨_, tl_col⟩, by decide +kernel, by decide +kernel⟩
theorem sepSp : Sep spS := ⟨⟨_, tl_sp⟩, by decide +kernel, by decide +kernel⟩
theorem sepNl : Sep nlS := ⟨⟨_, tl_nl⟩, by decide +kernel, by decide +kernel⟩
theorem split_bound {x y : Str} (hy : Sep y) : ∀ p ∈ Txt.split x y, p.length ≤ x.length := fun p h => by
  obtain ⟨c, ec⟩ := hy.ex
  have e := split_spl x y (by rw [ec]; simp) (kind_ok hy.k)
  have hm : tl p ∈ (Txt.split x y).map tl := List.mem_map.mpr ⟨p, h, rfl⟩
  rw [e] at hm
  have := spl_bound _ _ _ _ _ hm
  rw [len_tl p, len_tl x]
  simp at this
  simpa using this
theorem split_ne {x y : Str} (hy : Sep y) : Txt.split x y ≠ [] := fun h => by
  obtain ⟨c, ec⟩ := hy.ex
  have e := split_spl x y (by rw [ec]; simp) (kind_ok hy.k)
  rw [h] at e
  exact spl_ne _ _ _ _ e.symm
def digS : Str := Str.ofString "0123456789"
theorem tl_dig : tl digS = [48, 49, 50, 51, 52, 53, 54, 55, 56, 57] := by decide +kernel
def dig (c : Nat) : Bool := decide (c ∈ tl digS)
def isNW (x : Str) : Bool := match tl x with
  | [a] => dig a
  | [a, b] => dig a && dig b && decide (a ≠ 48)
  | _ => false
def isTW (x : Str) : Bool := !(tl x).isEmpty && only x hoS
def isRW (x : Str) : Bool := (Txt.split x colS).length == 2 && (Txt.split x colS).all isNW
def wTab : Str := Str.ofString "tables"
def wKey : Str := Str.ofString "keys"
def wCar : Str := Str.ofString "careful"
def wRem : Str := Str.ofString "remind"
def areArgs (x : Str) (ws : List Str) : Bool :=
  if x = wTab then ws.all isTW else if x = wRem then ws.all isRW else if x = wKey ∧ ws.length ≠ 1 then false else ws.all isNW
def spWord (g : Str → Bool) : Sp := fun vs H Q _ => ∃ x : Str, vs = [.str x] ∧ x.length ≤ 100000 ∧ ∀ H', Same H H' → Q (.bl (g x)) H'
def spAreArgs (K : PySem.W.Frag) : Sp := fun vs H Q _ => ∃ (x : Str) (a : Addr) (ws : List Str), vs = [.str x, .ref a] ∧ SqL K H a (ws.map V.str) ∧ ws.length ≤ 100000 ∧ (∀ y ∈ ws, y.length ≤ 100000) ∧ ∀ H', Same H H' → Q (.bl (areArgs x ws)) H'
structure TxtM (K : PySem.W.Frag) (mg : Str → Option Value) (fTW fNW fRW : Addr) (fdTW fdNW fdRW : FuncData) : Prop where
  digits : ∃ t, mg "DIGITS" = some (.str digS t)
  gTW : mg "is_table_word" = some (.ref fTW)
  FTW : Fun K "is_table_word" "is_table_word" sIsTW fTW fdTW
  bTW : Binds K fdTW ["word"] []
  gNW : mg "is_number_word" = some (.ref fNW)
  FNW : Fun K "is_number_word" "is_number_word" sIsNW fNW fdNW
  bNW : Binds K fdNW ["word"] []
  gRW : mg "is_reminder_word" = some (.ref fRW)
  FRW : Fun K "is_reminder_word" "is_reminder_word" sIsRW fRW fdRW
  bRW : Binds K fdRW ["word"] []
theorem str_eq_iff {x y : Str} : x = y ↔ tl x = tl y := ⟨fun h => by rw [h], ext_tl⟩
section
variable {P : Program} {w : World} {K : PySem.W.Frag} {mg : Str → Option Value} {base : Heap} {fII fIB fHO : Addr} {fdII fdIB fdHO : FuncData} {fTW fNW fRW : Addr} {fdTW fdNW fdRW : FuncData}
theorem scIsTW : FnScope ["word"] ["word"] (defScope sIsTW) := ⟨rfl, rfl, rfl, by decide +kernel, rfl, by decide +kernel, by decide +kernel⟩
theorem ok_istw (TF : TxtF K mg fII fIB fHO fdII fdIB fdHO) (TM : TxtM K mg fTW fNW fRW fdTW fdNW fdRW) : FnOk P w K mg base CX0 2 fTW fdTW ["word"] (spWord isTW) := by
  have GH : FnOk P w K mg base CX0 1 fHO fdHO ["word", "characters"] spHasOnly := ok_hasonly TF
  obtain ⟨tL, eL⟩ := TF.letters
  refine TM.FTW.ok scIsTW (fun vs H Q E h => ?_) (fun cdv A outer s H vs Q E hr h => ?_)
  · obtain ⟨x, rfl, _⟩ := h
    rfl
  · obtain ⟨x, rfl, hz, k⟩ := h
    refine ⟨_, pss_one (ps_ret (pe_and (pe_cmpR op_ne (pv 0) pe_str (nomark _)) (pe_one (pe_call GH hr rfl TF.gHO TF.FHO.kp TF.bHO .nil pass0 (pa_cons (pv 0) (pa_cons (pe_glob (v := .str hoS) rfl eL ⟨_, rfl⟩) pa_nil)))))), ?_⟩
    refine ⟨_, rfl, rfl, _, rfl, ?_⟩
    have e0 : tl (Str.ofString "") = [] := by decide +kernel
    cases e : tl x with
    | nil =>
      have ex : x = Str.ofString "" := ext_tl (by rw [e, e0])
      have c : (!decide (V.str x = V.str (Str.ofString ""))) = false := by rw [decide_eq_true (by rw [ex])]; rfl
      rw [c]
      refine iteF ?_
      have := k H (Same.refl H)
      have e2 : isTW x = false := by unfold isTW; rw [e]; rfl
      rw [e2] at this; exact this
    | cons a r =>
      have c : (!decide (V.str x = V.str (Str.ofString ""))) = true := by
        rw [decide_eq_false fun q => ?_]; rfl
        have := V.str.inj q
        rw [this, e0] at e; cases e
      rw [c]
      refine iteT ⟨_, rfl, x, hoS, rfl, hz, fun H' s' => ?_⟩
      have e2 : isTW x = only x hoS := by unfold isTW; rw [e]; rfl
      have := k H' s'
      rw [e2] at this; exact this
theorem scIsNW : FnScope ["word"] ["word"] (defScope sIsNW) := ⟨rfl, rfl, rfl, by decide +kernel, rfl, by decide +kernel, by decide +kernel⟩
theorem ok_isnw (T : TxtA mg) (TF : TxtF K mg fII fIB fHO fdII fdIB fdHO) (TM : TxtM K mg fTW fNW fRW fdTW fdNW fdRW) : FnOk P w K mg base CX0 2 fNW fdNW ["word"] (spWord isNW) := by
  have GH : FnOk P w K mg base CX0 1 fHO fdHO ["word", "characters"] spHasOnly := ok_hasonly TF
  obtain ⟨tD, eD⟩ := TM.digits
  refine TM.FNW.ok scIsNW (fun vs H Q E h => ?_) (fun cdv A outer s H vs Q E hr h => ?_)
  · obtain ⟨x, rfl, _⟩ := h
    rfl
  · obtain ⟨x, rfl, hz, k⟩ := h
    have hz' : x.length ≤ sizeLine := Nat.le_trans hz (by decide)
    refine ⟨_, pss_cons (ps_if (PW.pt (pw_or (pt_cmpR op_notIn_seq (pe_callB call_len_str (by rfl) T.len PySem.boot_len (pa_cons (pv 0) pa_nil)) (pe_tup (pa_cons pe_int (pa_cons pe_int pa_nil))) (by rfl))
        (pw_or1 (pt_not (pt_val (pe_call GH hr rfl TF.gHO TF.FHO.kp TF.bHO .nil pass0 (pa_cons (pv 0) (pa_cons (pe_glob (v := .str digS) rfl eD ⟨_, rfl⟩) pa_nil)))))))) (pss_one (ps_ret pe_bl)) pss_nil)
      (pss_one (ps_ret (pe_or (pe_cmpR op_eq (pe_callB call_len_str (by rfl) T.len PySem.boot_len (pa_cons (pv 0) pa_nil)) pe_int (nomark _)) (pe_one (pe_cmpR op_ne (pe_item_str (pv 0) pe_int (fun _ _ => rfl)) pe_str (nomark _)))))), ?_⟩
    refine ⟨_, rfl, _, rfl, hz', by show 2 ≤ sizeLine; decide, fun p hp => ?_⟩
    refine ⟨p, _, rfl, .inr (SqT.of upd_same), rfl, rfl, _, rfl, ?_⟩
    have ei : inV (V.int (x.length : Int)) [V.int 1, V.int 2] = decide ((x.length : Int) ∈ ([1, 2] : List Int)) := any_eqI [1, 2] _
    show (if (!inV (V.int (x.length : Int)) [V.int 1, V.int 2]) = true then _ else _)
    rw [ei]
    have sp := same_upd (o := .tup [V.int 1, V.int 2]) hp
    have hl := len_tl x
    by_cases c : (x.length : Int) ∈ ([1, 2] : List Int)
    · rw [decide_eq_true c]
      refine iteF ⟨_, rfl, x, digS, rfl, hz, fun H1 s1 => ⟨_, rfl, ?_⟩⟩
      have s2 := sp.trans s1
      simp only [List.mem_cons, List.not_mem_nil, or_false] at c
      have cases2 : (∃ a, tl x = [a]) ∨ ∃ a b, tl x = [a, b] := by
        rcases c with c | c
        · left
          have : (tl x).length = 1 := by omega
          match h : tl x, this with
          | [a], _ => exact ⟨a, rfl⟩
        · right
          have : (tl x).length = 2 := by omega
          match h : tl x, this with
          | [a, b], _ => exact ⟨a, b, rfl⟩
      rcases cases2 with ⟨a, ea⟩ | ⟨a, b, ea⟩
      · have eo : only x digS = dig a := by unfold only dig; rw [ea]; simp
        have en : isNW x = dig a := by unfold isNW; rw [ea]
        rw [eo]
        have k2 := k H1 s2
        rw [en] at k2
        cases cd : dig a with
        | false => rw [cd] at k2; exact iteT k2
        | true =>
          rw [cd] at k2
          refine iteF ⟨_, rfl, _, rfl, hz', rfl, _, rfl, ?_⟩
          have c1 : decide (V.int (x.length : Int) = V.int 1) = true := decide_eq_true (by rw [hl, ea]; rfl)
          rw [c1]
          exact iteT k2
      · have eo : only x digS = (dig a && dig b) := by unfold only dig; rw [ea]; simp
        have en : isNW x = (dig a && dig b && decide (a ≠ 48)) := by unfold isNW; rw [ea]
        rw [eo]
        have k2 := k H1 s2
        rw [en] at k2
        cases cd : dig a && dig b with
        | false => rw [cd] at k2; exact iteT k2
        | true =>
          rw [cd] at k2
          refine iteF ⟨_, rfl, _, rfl, hz', rfl, _, rfl, ?_⟩
          have c1 : decide (V.int (x.length : Int) = V.int 1) = false := decide_eq_false fun q => by
            have := V.int.inj q
            rw [hl, ea] at this
            cases this
          rw [c1]
          have e0 : x.cps[(0 : Int).toNat]? = some a := by
            have h1 : (tl x)[0]? = some a := by rw [ea]; rfl
            rw [← h1]; exact Array.getElem?_toList.symm
          refine iteF ⟨_, rfl, x, 0, a, rfl, rfl, by decide, by decide, by rw [hl, ea]; simp, e0, rfl, ?_⟩
          have c2 : (!decide (V.str (⟨#[a]⟩ : Str) = V.str (Str.ofString "0"))) = (true && decide (a ≠ 48)) := by
            have e48 : tl (Str.ofString "0") = [48] := by decide +kernel
            by_cases h : a = 48
            · subst h
              rw [decide_eq_true (congrArg V.str (ext_tl (by rw [e48])))]
              simp
            · have hn : ¬ V.str (⟨#[a]⟩ : Str) = V.str (Str.ofString "0") := fun q => by
                have h1 : tl (⟨#[a]⟩ : Str) = tl (Str.ofString "0") := congrArg tl (V.str.inj q)
                rw [e48] at h1
                exact h (List.cons.inj h1).1
              rw [decide_eq_false hn]
              simp [h]
          rw [c2]
          exact k2
    · rw [decide_eq_false c]
      refine iteT ?_
      have en : isNW x = false := by
        unfold isNW
        split
        · rename_i a ea
          exact absurd (by rw [hl, ea]; simp) c
        · rename_i a b ea
          exact absurd (by rw [hl, ea]; simp) c
        · rfl
      have := k _ sp
      rw [en] at this; exact this
end
end Dk

set_option Elab.async false
set_option linter.all false
set_option maxRecDepth 100000
set_option maxHeartbeats 1000000
namespace Dk
open PySem PySem.Spec PyProof.Rows L2 TL
theorem sum_len {l : List Str} {n : Nat} (h : ∀ p ∈ l, p.length ≤ n) : (l.map (·.length)).sum ≤ l.length * n := by
  induction l with
  | nil => simp
  | cons x l ih =>
    have h1 := h x (List.mem_cons_self ..)
    have h2 := ih fun p hp => h p (List.mem_cons_of_mem _ hp)
    rw [List.map_cons, List.sum_cons, List.length_cons, Nat.succ_mul]
    omega
section
variable {P : Program} {w : World} {K : PySem.W.Frag} {mg : Str → Option Value} {base : Heap} {fII fIB fHO : Addr} {fdII fdIB fdHO : FuncData} {fTW fNW fRW : Addr} {fdTW fdNW fdRW : FuncData}
theorem scIsRW : FnScope ["word", "parts", "part"] ["word"] (defScope sIsRW) := ⟨rfl, rfl, rfl, by decide +kernel, rfl, by decide +kernel, by decide +kernel⟩
/-- the reading of [f(part) for part in l], f telling g of a text: the list of g's -/
theorem comp_all {l : Addr} {ws : List Str} {H1 : Hp} {D : Addr} {g : Str → Bool} {σ : L2.St} {i : Nat} {vs : List Nat} {te : TE} {Qd : Hp → Prop} (hD : H1 D = none) (hl : SqL K H1 l (ws.map V.str)) (hz : ws.length ≤ 200000)
    (hte : ∀ (x : Str) (H2 : Hp) (Q : VK), x ∈ ws → (∀ H3, Same H2 H3 → Q (.bl (g x)) H3) → te ((wipe σ vs).set i (some (.str x))) H2 Q) (hw : ∀ x : V, wipe ((wipe σ vs).set i (some x)) vs = wipe σ vs)
    (hd : ∀ H2, Same H1 H2 → H2 D = some (.lst ((ws.map g).map V.bl)) → Qd H2) :
    ∃ W : Nat → Nat → Hp → Prop, (∃ m, W 0 m (upd H1 D (.lst []))) ∧ ∀ i' m H, W i' m H →
      ((Itl K l).stop i' H ∧ Qd H) ∨ ((Itl K l).go i' H ∧ ∃ Nx : Hp → Prop, (∀ H', Nx H' → ∃ m', m' < m ∧ W (i' + 1) m' H') ∧ ∀ x H', (Itl K l).yld i' H x H' → gName i x (wipe σ vs) H' fun σ2 H2 => wipe σ2 vs = wipe σ vs ∧ tYes σ2 H2 fun b H3 =>
        if b = true then te σ2 H3 fun y H4 => ∃ acc, H4 D = some (.lst acc) ∧ acc.length < sizeLine ∧ Nx (upd H4 D (.lst (acc ++ [y]))) else Nx H3) := by
  refine lc_list (K := K) (a := l) (xs := ws.map V.str) (g := gName i) (tt := tYes) (te := te) (vs := vs) (σ := σ) (Qd := Qd)
    (fun i H3 => Same H1 H3 ∧ H3 D = some (.lst (((ws.take i).map g).map V.bl)))
    ⟨same_upd hD, upd_same⟩ (fun i H3 _ ⟨e, _⟩ => e.seq hl) ?_ ?_
  · rintro j y H3 hi ⟨s3, eD⟩
    obtain ⟨t, ht, rfl⟩ := map_at hi
    have hj : j < ws.length := (List.getElem?_eq_some_iff.mp ht).1
    refine ⟨hw _, hte t H3 _ (List.mem_of_getElem? ht) fun H4 s4 => ⟨_, s4 _ _ eD, ?_, fun b o eb => ?_, ?_⟩⟩
    · rw [List.length_map, List.length_map, List.length_take]
      exact Nat.lt_of_le_of_lt (Nat.le_trans (Nat.min_le_left _ _) (by omega : j ≤ 200000)) (by decide)
    · rw [upd_ne (ne_of_none eb hD)]; exact s4 _ _ (s3 _ _ eb)
    · rw [upd_same, take_more ht, List.map_append, List.map_append]; rfl
  · rintro H3 ⟨s3, eD⟩
    rw [List.length_map, List.take_length] at eD
    exact hd H3 s3 eD
theorem all_map (ws : List Str) (g : Str → Bool) : (ws.map g).all id = ws.all g := by rw [List.all_map]; rfl
theorem ok_isrw (T : TxtA mg) (TF : TxtF K mg fII fIB fHO fdII fdIB fdHO) (TM : TxtM K mg fTW fNW fRW fdTW fdNW fdRW) : FnOk P w K mg base CX0 3 fRW fdRW ["word"] (spWord isRW) := by
  have GN : FnOk P w K mg base CX0 2 fNW fdNW ["word"] (spWord isNW) := ok_isnw T TF TM
  refine TM.FRW.ok scIsRW (fun vs H Q E h => ?_) (fun cdv A outer s H vs Q E hr h => ?_)
  · obtain ⟨x, rfl, _⟩ := h
    rfl
  · obtain ⟨x, rfl, hz, k⟩ := h
    refine ⟨_, pss_cons (ps_set (i := 1) scIsRW.nd rfl (.inl rfl) (pe_split (pv 0) pe_str))
      (pss_one (ps_ret (pe_and (pe_cmpR op_eq (pe_callB call_len_seq (by rfl) T.len PySem.boot_len (pa_cons (pv 1) pa_nil)) pe_int (nomark _)) (pe_one
        (pe_callB (cr_all rfl) (by rfl) TF.all (by decide +kernel) (pa_cons (pe_lc (own := [("part", 2)]) (g := gName 2) (by rfl) scIsRW.nd (pi_list (pv 1)) (blkOk_by (N := ["word", "parts", "part"]) (sc := defScope sIsRW) (by decide +kernel))
          (fun _ _ _ _ _ => pg_name (i := 2) scIsRW.nd rfl (Or.inl rfl)) (fun _ _ _ _ _ => pts_nil)
          (fun _ _ _ _ _ => pe_call GN hr rfl TM.gNW TM.FNW.kp TM.bNW .nil pass0 (pa_cons (pv 2) pa_nil))) pa_nil)))))), ?_⟩
    refine ⟨_, rfl, ⟨_, rfl⟩, x, colS, rfl, rfl, sepCol.z, Nat.le_trans (by omega : x.length + 2 ≤ 100002) (by decide), fun l hl => ?_⟩
    have s1 := same_upd (o := .lst ((Txt.split x colS).map V.str)) hl
    have hb := split_bound (x := x) sepCol
    have hn := split_le x colS
    refine ⟨_, rfl, l, _, rfl, .inl (SqL.of upd_same), rfl, _, rfl, ?_⟩
    rw [List.length_map]
    have ed : decide (V.int (((Txt.split x colS).length : Nat) : Int) = V.int 2) = ((Txt.split x colS).length == 2) := by
      by_cases c : (Txt.split x colS).length = 2
      · rw [c]; rfl
      · rw [decide_eq_false fun q => c (by have := V.int.inj q; omega)]
        exact (by simpa using c : ((Txt.split x colS).length == 2) = false).symm
    rw [ed]
    have er : isRW x = ((Txt.split x colS).length == 2 && (Txt.split x colS).all isNW) := rfl
    cases c : (Txt.split x colS).length == 2 with
    | false =>
      rw [c] at er
      have := k _ s1
      rw [er] at this
      exact iteF this
    | true =>
      rw [c] at er
      refine iteT ⟨_, rfl, l, rfl, ⟨_, SqL.of upd_same⟩, fun D hD => ?_⟩
      refine comp_all (i := 2) (vs := [2]) (g := isNW) hD (SqL.of upd_same) (by omega) (fun y H2 Q2 hm hq => ?_) (fun _ => rfl) (fun H2 s2 eD => ?_)
      · exact ⟨_, rfl, y, rfl, Nat.le_trans (hb y hm) hz, hq⟩
      · refine ⟨D, _, rfl, SqL.of eD, ?_⟩
        rw [all_map]
        have := k _ (s1.trans s2)
        rw [er] at this
        exact this
theorem scAreArgs : FnScope ["word", "rest", "part"] ["word", "rest"] (defScope sAreArgs) := ⟨rfl, rfl, rfl, by decide +kernel, rfl, by decide +kernel, by decide +kernel⟩
theorem ok_areargs {f : Addr} {fd : FuncData} (F : Fun K "are_arguments" "are_arguments" sAreArgs f fd) (T : TxtA mg) (TF : TxtF K mg fII fIB fHO fdII fdIB fdHO) (TM : TxtM K mg fTW fNW fRW fdTW fdNW fdRW) : FnOk P w K mg base CX0 4 f fd ["word", "rest"] (spAreArgs K) := by
  have GN : FnOk P w K mg base CX0 2 fNW fdNW ["word"] (spWord isNW) := ok_isnw T TF TM
  have GT : FnOk P w K mg base CX0 2 fTW fdTW ["word"] (spWord isTW) := ok_istw TF TM
  have GR : FnOk P w K mg base CX0 3 fRW fdRW ["word"] (spWord isRW) := ok_isrw T TF TM
  refine F.ok scAreArgs (fun vs H Q E h => ?_) (fun cdv A outer s H vs Q E hr h => ?_)
  · obtain ⟨x, a, ws, rfl, _⟩ := h
    rfl
  · obtain ⟨x, a, ws, rfl, hS, hz, hw, k⟩ := h
    have hr2 : Room 2 (A.deeper (envOfC (Str.ofString "are_arguments") (defScope sAreArgs) s.heap.objs.size f cdv)) := hr.mono (by decide)
    refine ⟨_, pss_cons (ps_if (pt_cmpR op_eq (pv 0) pe_str (nomark _)) (pss_one (ps_ret
        (pe_callB (cr_all rfl) (by rfl) TF.all (by decide +kernel) (pa_cons (pe_lc (own := [("part", 2)]) (g := gName 2) (by rfl) scAreArgs.nd (pi_list (pv 1)) (blkOk_by (N := ["word", "rest", "part"]) (sc := defScope sAreArgs) (by decide +kernel))
          (fun _ _ _ _ _ => pg_name (i := 2) scAreArgs.nd rfl (Or.inl rfl)) (fun _ _ _ _ _ => pts_nil)
          (fun _ _ _ _ _ => pe_call GT hr2 rfl TM.gTW TM.FTW.kp TM.bTW .nil pass0 (pa_cons (pv 2) pa_nil))) pa_nil)))) pss_nil)
      (pss_cons (ps_if (pt_cmpR op_eq (pv 0) pe_str (nomark _)) (pss_one (ps_ret
        (pe_callB (cr_all rfl) (by rfl) TF.all (by decide +kernel) (pa_cons (pe_lc (own := [("part", 2)]) (g := gName 2) (by rfl) scAreArgs.nd (pi_list (pv 1)) (blkOk_by (N := ["word", "rest", "part"]) (sc := defScope sAreArgs) (by decide +kernel))
          (fun _ _ _ _ _ => pg_name (i := 2) scAreArgs.nd rfl (Or.inl rfl)) (fun _ _ _ _ _ => pts_nil)
          (fun _ _ _ _ _ => pe_call GR hr rfl TM.gRW TM.FRW.kp TM.bRW .nil pass0 (pa_cons (pv 2) pa_nil))) pa_nil)))) pss_nil)
      (pss_cons (ps_if (PW.pt (pw_and (pt_cmpR op_eq (pv 0) pe_str (nomark _)) (pw_and1 (pt_cmpR op_ne (pe_callB call_len_seq (by rfl) T.len PySem.boot_len (pa_cons (pv 1) pa_nil)) pe_int (nomark _))))) (pss_one (ps_ret pe_bl)) pss_nil)
      (pss_one (ps_ret
        (pe_callB (cr_all rfl) (by rfl) TF.all (by decide +kernel) (pa_cons (pe_lc (own := [("part", 2)]) (g := gName 2) (by rfl) scAreArgs.nd (pi_list (pv 1)) (blkOk_by (N := ["word", "rest", "part"]) (sc := defScope sAreArgs) (by decide +kernel))
          (fun _ _ _ _ _ => pg_name (i := 2) scAreArgs.nd rfl (Or.inl rfl)) (fun _ _ _ _ _ => pts_nil)
          (fun _ _ _ _ _ => pe_call GN hr2 rfl TM.gNW TM.FNW.kp TM.bNW .nil pass0 (pa_cons (pv 2) pa_nil))) pa_nil)))))), ?_⟩
    refine ⟨_, rfl, rfl, _, rfl, ?_⟩
    by_cases c1 : x = wTab
    · have e1 : decide (V.str x = V.str (Str.ofString "tables")) = true := decide_eq_true (by rw [c1]; rfl)
      rw [e1]
      have er : areArgs x ws = ws.all isTW := by unfold areArgs; rw [if_pos c1]
      rw [er] at k
      refine iteT ⟨_, rfl, a, rfl, ⟨_, hS⟩, fun D hD => ?_⟩
      refine comp_all (i := 2) (vs := [2]) (g := isTW) hD hS (Nat.le_trans hz (by decide)) (fun y H2 Q2 hm hq => ⟨_, rfl, y, rfl, hw y hm, hq⟩) (fun _ => rfl) (fun H2 s2 eD => ⟨D, _, rfl, SqL.of eD, ?_⟩)
      rw [all_map]; exact k _ s2
    · have e1 : decide (V.str x = V.str (Str.ofString "tables")) = false := decide_eq_false fun q => c1 (V.str.inj q)
      rw [e1]
      refine iteF ⟨_, rfl, rfl, _, rfl, ?_⟩
      by_cases c2 : x = wRem
      · have e2 : decide (V.str x = V.str (Str.ofString "remind")) = true := decide_eq_true (by rw [c2]; rfl)
        rw [e2]
        have er : areArgs x ws = ws.all isRW := by unfold areArgs; rw [if_neg c1, if_pos c2]
        rw [er] at k
        refine iteT ⟨_, rfl, a, rfl, ⟨_, hS⟩, fun D hD => ?_⟩
        refine comp_all (i := 2) (vs := [2]) (g := isRW) hD hS (Nat.le_trans hz (by decide)) (fun y H2 Q2 hm hq => ⟨_, rfl, y, rfl, hw y hm, hq⟩) (fun _ => rfl) (fun H2 s2 eD => ⟨D, _, rfl, SqL.of eD, ?_⟩)
        rw [all_map]; exact k _ s2
      · have e2 : decide (V.str x = V.str (Str.ofString "remind")) = false := decide_eq_false fun q => c2 (V.str.inj q)
        rw [e2]
        refine iteF ⟨_, rfl, rfl, _, rfl, ?_⟩
        have fin : (¬ (x = wKey ∧ ws.length ≠ 1)) → ∀ H', Same H H' → Q (.bl (ws.all isNW)) H' := fun c => by
          have er : areArgs x ws = ws.all isNW := by unfold areArgs; rw [if_neg c1, if_neg c2, if_neg c]
          rw [er] at k; exact k
        by_cases c3 : x = wKey
        · have e3 : decide (V.str x = V.str (Str.ofString "keys")) = true := decide_eq_true (by rw [c3]; rfl)
          rw [e3]
          refine iteT ⟨_, rfl, a, _, rfl, .inl hS, rfl, _, rfl, ?_⟩
          rw [List.length_map]
          by_cases c4 : ws.length = 1
          · have e4 : (!decide (V.int ((ws.length : Nat) : Int) = V.int 1)) = false := by rw [decide_eq_true (by rw [c4]; rfl)]; rfl
            rw [e4]
            refine iteF ⟨_, rfl, a, rfl, ⟨_, hS⟩, fun D hD => ?_⟩
            refine comp_all (i := 2) (vs := [2]) (g := isNW) hD hS (Nat.le_trans hz (by decide)) (fun y H2 Q2 hm hq => ⟨_, rfl, y, rfl, hw y hm, hq⟩) (fun _ => rfl) (fun H2 s2 eD => ⟨D, _, rfl, SqL.of eD, ?_⟩)
            rw [all_map]; exact fin (fun q => q.2 c4) _ s2
          · have e4 : (!decide (V.int ((ws.length : Nat) : Int) = V.int 1)) = true := by rw [decide_eq_false fun q => c4 (by have := V.int.inj q; omega)]; rfl
            rw [e4]
            refine iteT ?_
            have er : areArgs x ws = false := by unfold areArgs; rw [if_neg c1, if_neg c2, if_pos ⟨c3, c4⟩]
            have := k H (Same.refl H)
            rw [er] at this; exact this
        · have e3 : decide (V.str x = V.str (Str.ofString "keys")) = false := decide_eq_false fun q => c3 (V.str.inj q)
          rw [e3]
          refine iteF (iteF ⟨_, rfl, a, rfl, ⟨_, hS⟩, fun D hD => ?_⟩)
          refine comp_all (i := 2) (vs := [2]) (g := isNW) hD hS (Nat.le_trans hz (by decide)) (fun y H2 Q2 hm hq => ⟨_, rfl, y, rfl, hw y hm, hq⟩) (fun _ => rfl) (fun H2 s2 eD => ⟨D, _, rfl, SqL.of eD, ?_⟩)
          rw [all_map]; exact fin (fun q => c3 q.1) _ s2
end
end Dk

set_option Elab.async false
set_option linter.all false
set_option maxRecDepth 100000
set_option maxHeartbeats 1000000
namespace Dk
open PySem PySem.Spec PyProof.Rows L2 TL
def lineWords : List Str := [wTab, wKey, wCar, wRem]
/-- the first invalid line -/
def faultL : Nat → List Str → List Str → Option Nat
  | _, [], [] => none
  | k, [], _ :: _ => some k
  | k, _ :: _, [] => some k
  | k, w :: ws, l :: ls => match Txt.split l spS with
    | [] => some k
    | f :: r => if f = w ∧ areArgs w r = true then faultL (k + 1) ws ls else some k
def linesOf (x : Str) : List Str := Txt.split x nlS
def fault (x : Str) : Option Nat := faultL 0 lineWords (linesOf x)
def rowOf (l : Str) : List Str := (Txt.split l spS).tail
def TFRaised (C : Addr) (E : XK) (H : Hp) (i : Int) : Prop := ∀ (H' : Hp) (d : Addr), Same H H' → H d = none → H' d = some (.xd [("line", .int i)]) → E (.ref C) (some d) H'
theorem TFRaised.mono {C : Addr} {E : XK} {H H1 : Hp} {i : Int} (h : TFRaised C E H i) (s : Same H H1) : TFRaised C E H1 i := fun H' d s2 n e => h H' d (s.trans s2) (s.free n) e
structure TxtTF (K : PySem.W.Frag) (mg : Str → Option Value) (C fI : Addr) (fdI : FuncData) : Prop where
  gC : mg "TextFault" = some (.ref C)
  O : OexC K C
  iC : PySem.W.findIn K (.ref C) "__init__" = some (some (.ref fI))
  tI : PySem.W.typeIn K (.ref fI) = some (.type "function")
  F : Fun K "__init__" "TextFault.__init__" sTFInit fI fdI
  b : Binds K fdI ["self", "line"] []
  nL : PySem.W.findIn K (.ref C) "line" = some none
def spTFInit (C : Addr) : Sp := fun vs H Q _ => ∃ (a : Addr) (i : V), vs = [.ref a, i] ∧ H a = some (exo a C none) ∧
  ∀ d, H d = none → d ≠ a → Q .non (upd (upd H d (exd d [("line", i)])) a (exo a C (some d)))
/-- rows at as -/
def RowsAt (H : Hp) (as : List Addr) (rows : List (List Str)) : Prop := Paired (fun a ws => H a = some (.lst (ws.map V.str))) as rows
theorem RowsAt.mono {H H' : Hp} : ∀ {as : List Addr} {rows : List (List Str)}, Same H H' → RowsAt H as rows → RowsAt H' as rows
  | [], [], _, .nil => .nil
  | _ :: _, _ :: _, s, .cons h t => .cons (s _ _ h) (RowsAt.mono s t)
theorem RowsAt.app {H : Hp} : ∀ {as : List Addr} {rows : List (List Str)} {a : Addr} {ws : List Str}, RowsAt H as rows → H a = some (.lst (ws.map V.str)) → RowsAt H (as ++ [a]) (rows ++ [ws])
  | [], [], _, _, .nil, h => .cons h .nil
  | _ :: _, _ :: _, _, _, .cons h t, q => .cons h (RowsAt.app t q)
theorem RowsAt.len {H : Hp} {as : List Addr} {rows : List (List Str)} (h : RowsAt H as rows) : as.length = rows.length := Paired.length h
theorem RowsAt.keep {H H' : Hp} {r : Addr} : ∀ {as : List Addr} {rows : List (List Str)}, RowsAt H as rows → (∀ b o, b ≠ r → H b = some o → H' b = some o) → r ∉ as → RowsAt H' as rows
  | [], [], .nil, _, _ => .nil
  | a :: _, _ :: _, .cons h t, k, n => .cons (k a _ (fun e => n (by rw [← e]; exact List.mem_cons_self ..)) h) (RowsAt.keep t k fun m => n (List.mem_cons_of_mem _ m))
/-- a text that is not larger than this -/
def spSplitText (C : Addr) : Sp := fun vs H Q E => ∃ x : Str, vs = [.str x] ∧ x.length ≤ 10000 ∧
  (fault x = none → ∀ (H' : Hp) (a : Addr) (as : List Addr), Same H H' → H a = none → H' a = some (.lst (as.map V.ref)) → RowsAt H' as ((linesOf x).map rowOf) → Q (.ref a) H') ∧
  (∀ k, fault x = some k → TFRaised C E H (k : Int))
structure TxtO (K : PySem.W.Frag) (mg : Str → Option Value) (fAA : Addr) (fdAA : FuncData) : Prop where
  gAA : mg "are_arguments" = some (.ref fAA)
  FAA : Fun K "are_arguments" "are_arguments" sAreArgs fAA fdAA
  bAA : Binds K fdAA ["word", "rest"] []
  words : ∃ a, mg "LINE_WORDS" = some (.ref a) ∧ SqT K (fun _ => none) a (lineWords.map V.str)
theorem fault_step {x : Str} {i : Nat} {w l f : Str} {r : List Str} {n : Nat} (hw : lineWords[i]? = some w) (hl : (linesOf x)[i]? = some l) (hs : Txt.split l spS = f :: r) :
    faultL n (lineWords.drop i) ((linesOf x).drop i) = if f = w ∧ areArgs w r = true then faultL (n + 1) (lineWords.drop (i + 1)) ((linesOf x).drop (i + 1)) else some n := by
  have e1 : lineWords.drop i = w :: lineWords.drop (i + 1) := by
    obtain ⟨h1, h2⟩ := List.getElem?_eq_some_iff.mp hw
    rw [List.drop_eq_getElem_cons h1, h2]
  have e2 : (linesOf x).drop i = l :: (linesOf x).drop (i + 1) := by
    obtain ⟨h1, h2⟩ := List.getElem?_eq_some_iff.mp hl
    rw [List.drop_eq_getElem_cons h1, h2]
  rw [e1, e2]
  show (match Txt.split l spS with | [] => some n | f :: r => if f = w ∧ areArgs w r = true then faultL (n + 1) (lineWords.drop (i + 1)) ((linesOf x).drop (i + 1)) else some n) = _
  rw [hs]
section
variable {P : Program} {w : World} {K : PySem.W.Frag} {mg : Str → Option Value} {base : Heap} {fII fIB fHO : Addr} {fdII fdIB fdHO : FuncData} {fTW fNW fRW : Addr} {fdTW fdNW fdRW : FuncData} {fIT fIR fAs : Addr} {fdIT fdIR fdAs : FuncData} {C fI fAA : Addr} {fdI fdAA : FuncData}
theorem scTFInit : FnScope ["self", "line"] ["self", "line"] (defScope sTFInit) := ⟨rfl, rfl, rfl, by decide +kernel, rfl, by decide +kernel, by decide +kernel⟩
theorem ok_tfinit (TT : TxtTF K mg C fI fdI) : FnOk P w K mg base CX0 1 fI fdI ["self", "line"] (spTFInit C) := by
  refine TT.F.ok scTFInit (fun vs H Q E h => ?_) (fun cdv A outer s H vs Q E hr h => ?_)
  · obtain ⟨a, i, rfl, _⟩ := h
    rfl
  · obtain ⟨a, i, rfl, ha, k⟩ := h
    refine ⟨_, pss_one (ps_ost (pv 0) (pv 1)), ?_⟩
    exact ⟨_, rfl, _, rfl, a, C, rfl, TT.O, TT.nL, .inl ⟨ha, fun d hd nd => k d hd nd⟩⟩
theorem raise_tf {H : Hp} {E : XK} {i : Int} (k : TFRaised C E H i) :
    ([V.int i] : List V).length ≤ 1000 ∧ ∀ a, H a = none → spTFInit C (.ref a :: ([V.int i] ++ [])) (upd H a (exo a C none))
      (fun v H2 => v = .non ∧ ∃ (d : Addr) (fs : List (Str × V)), H2 a = some (exo a C (some d)) ∧ H2 d = some (exd d fs) ∧ H d = none ∧ E (.ref C) (some d) (upd (del H2 a) d (.xd fs))) (fun _ _ _ => False) := by
  refine ⟨by simp, fun a hn => ⟨a, V.int i, rfl, upd_same, fun d hd nd => ⟨rfl, d, [("line", V.int i)], upd_same, ?_, ?_, ?_⟩⟩⟩
  · rw [upd_ne nd]; exact upd_same
  · rw [upd_ne nd] at hd; exact hd
  · rw [upd_ne nd] at hd
    refine k _ d (fun b o e => ?_) hd upd_same
    have nb : b ≠ a := ne_of_none e hn
    have nd' : b ≠ d := ne_of_none e hd
    rw [upd_ne nd', del_ne nb, upd_ne nb, upd_ne nd', upd_ne nb]
    exact e
abbrev nSplit : List Str := ["text", "lines", "rows", "number", "word", "first", "rest"]
theorem scSplit : FnScope nSplit ["text"] (defScope sSplit) := ⟨rfl, rfl, rfl, by decide +kernel, rfl, by decide +kernel, by decide +kernel⟩
theorem ok_split {f : Addr} {fd : FuncData} (F : Fun K "split_text" "split_text" sSplit f fd) (T : TxtA mg) (TF : TxtF K mg fII fIB fHO fdII fdIB fdHO) (TM : TxtM K mg fTW fNW fRW fdTW fdNW fdRW) (TI : TxtI K mg fIT fIR fAs fdIT fdIR fdAs)
    (TT : TxtTF K mg C fI fdI) (TO : TxtO K mg fAA fdAA) : FnOk P w K mg base (L2.CX P w) 5 f fd ["text"] (spSplitText C) := by
  have GA : FnOk P w K mg base CX0 4 fAA fdAA ["word", "rest"] (spAreArgs K) := ok_areargs TO.FAA T TF TM
  have GI : FnOk P w K mg base CX0 1 fI fdI ["self", "line"] (spTFInit C) := ok_tfinit TT
  obtain ⟨aW, eW, hW⟩ := TO.words
  refine F.okX scSplit (fun vs H Q E h => ?_) (fun cdv A outer s H vs Q E hr h => ?_)
  · obtain ⟨x, rfl, _⟩ := h
    rfl
  · obtain ⟨x, rfl, hz, k1, k2⟩ := h
    have hr2 : Room 2 (A.deeper (envOfC (Str.ofString "split_text") (defScope sSplit) s.heap.objs.size f cdv)) := hr.mono (by decide)
    refine ⟨_, pss_cons (ps_if (pt_not (pt_val (pe_callB call_isi (by rfl) TF.isinstance (by decide +kernel) (pa_cons (pv 0) (pa_cons (pe_bltn (v := .ty "str") (by rfl) TF.str (by decide +kernel) rfl) pa_nil)))))
        (pss_one (ps_raise rfl (takes_of rfl rfl rfl rfl) (pmk_oex TT.O TT.iC TT.tI GI hr2 TT.b .nil pass0 rfl TT.gC (pa_cons pe_int pa_nil)))) pss_nil)
      (pss_cons (ps_set (i := 1) scSplit.nd rfl (.inl rfl) (pe_split (pv 0) pe_str))
      (pss_cons (ps_set (i := 2) scSplit.nd rfl (.inl rfl) (pe_lst pa_nil))
      (pss_cons (ps_for (passes_of rfl) rfl (pi_enumT (by rfl) TI.enumerate (pa_cons (pe_glob (v := .ref aW) rfl eW rfl) pa_nil)) (pg_tup rfl (pgs_cons (pg_name (i := 3) scSplit.nd rfl (.inl rfl)) (pgs_cons (pg_name (i := 4) scSplit.nd rfl (.inl rfl)) pgs_nil)))
        (pss_cons (ps_if (pt_cmpR op_eq (pv 3) (pe_callB call_len_seq (by rfl) T.len PySem.boot_len (pa_cons (pv 1) pa_nil)) (nomark _))
          (pss_one (ps_raise rfl (takes_of rfl rfl rfl rfl) (pmk_oex TT.O TT.iC TT.tI GI hr2 TT.b .nil pass0 rfl TT.gC (pa_cons (pv 3) pa_nil)))) pss_nil)
        (pss_cons (ps_asg (pe_split (pe_ix ix_list (pv 1) (pv 3) (fun _ _ => rfl)) pe_str) (pg_star rfl (pgs_cons (pg_name (i := 5) scSplit.nd rfl (.inl rfl)) (pgs_cons (pg_name (i := 6) scSplit.nd rfl (.inl rfl)) pgs_nil))))
        (pss_cons (ps_if (PW.pt (pw_or (pt_cmpR op_ne (pv 5) (pv 4) (nomark _)) (pw_or1 (pt_not (pt_val (pe_call GA hr rfl TO.gAA TO.FAA.kp TO.bAA .nil pass0 (pa_cons (pv 4) (pa_cons (pv 6) pa_nil))))))))
          (pss_one (ps_raise rfl (takes_of rfl rfl rfl rfl) (pmk_oex TT.O TT.iC TT.tI GI hr2 TT.b .nil pass0 rfl TT.gC (pa_cons (pv 3) pa_nil)))) pss_nil)
        (pss_one (ps_expr (pe_bm PySem.F.plainAttrs_list PySem.F.slot_list_append PySem.F.type_list_append mt_append (pv 2) (pa_cons (pv 6) pa_nil))))))))
      (pss_cons (ps_if (pt_cmpR op_gt (pe_callB call_len_seq (by rfl) T.len PySem.boot_len (pa_cons (pv 1) pa_nil)) (pe_callB call_len_seq (by rfl) T.len PySem.boot_len (pa_cons (pe_glob (v := .ref aW) rfl eW rfl) pa_nil)) (nomark _))
        (pss_one (ps_raise rfl (takes_of rfl rfl rfl rfl) (pmk_oex TT.O TT.iC TT.tI GI hr2 TT.b .nil pass0 rfl TT.gC (pa_cons (pe_callB call_len_seq (by rfl) T.len PySem.boot_len (pa_cons (pe_glob (v := .ref aW) rfl eW rfl) pa_nil)) pa_nil)))) pss_nil)
      (pss_one (ps_ret (pv 2))))))), ?_⟩
    refine ⟨_, rfl, _, _, _, _, _, rfl, .ty "str", tyx (.str x), kit_ty (kit_str (.str x)), _, rfl, iteF ?_⟩
    refine ⟨_, rfl, ⟨_, rfl⟩, x, nlS, rfl, rfl, sepNl.z, Nat.le_trans (by omega : x.length + 2 ≤ 10002) (by decide), fun l hl => ?_⟩
    refine ⟨Nat.zero_le _, fun r hrr => ?_⟩
    have sA : Same H (upd (upd H l (.lst ((Txt.split x nlS).map V.str))) r (.lst [])) := (same_upd hl).trans (same_upd hrr)
    have eL : (upd (upd H l (.lst ((Txt.split x nlS).map V.str))) r (.lst [])) l = some (.lst ((linesOf x).map V.str)) := same_upd hrr _ _ upd_same
    have eR : (upd (upd H l (.lst ((Txt.split x nlS).map V.str))) r (.lst [])) r = some (.lst (([] : List Addr).map V.ref)) := upd_same
    have nlr : l ≠ r := ne_of_none upd_same hrr
    have nHr : H r = none := (same_upd hl).free hrr
    have hbx := split_bound (x := x) sepNl
    have hbn : (linesOf x).length ≤ 10002 := Nat.le_trans (split_le x nlS) (by omega)
    have eF : fault x = faultL 0 (lineWords.drop 0) ((linesOf x).drop 0) := rfl
    generalize hHA : upd (upd H l (.lst ((Txt.split x nlS).map V.str))) r (.lst []) = HA at sA eL eR
    refine ⟨aW, _, rfl, sqtK hW, for_it walk_enumT
      (fun i σ H' => ∃ (v3 v4 v5 v6 : Option V) (as : List Addr), σ = [some (.str x), some (.ref l), some (.ref r), v3, v4, v5, v6] ∧ Same H H' ∧ H' l = some (.lst ((linesOf x).map V.str)) ∧ H' r = some (.lst (as.map V.ref)) ∧
        RowsAt H' as (((linesOf x).take i).map rowOf) ∧ r ∉ as ∧ i ≤ (linesOf x).length ∧ fault x = faultL i (lineWords.drop i) ((linesOf x).drop i))
      ⟨none, none, none, none, [], rfl, sA, eL, eR, .nil, by simp, Nat.zero_le _, eF⟩ (fun i σ H' _ _ => sqtK hW) ?_ ?_⟩
    · rintro i y σ H1 H2 hi ⟨v3, v4, v5, v6, as, rfl, s1, eL1, eR1, hR1, hra, hil, eF1⟩ ⟨Tp, y1, y2, rfl, hTp, rfl, e1, e2⟩
      cases e1
      obtain ⟨wd, ewd, rfl⟩ := map_at e2
      have sT := same_upd (o := .tup [.int (i : Nat), .str wd]) hTp
      refine ⟨Tp, _, rfl, SqT.of upd_same, rfl, _, _, rfl, _, _, rfl, rfl, ?_⟩
      have s2 := s1.trans sT
      have eL2 := sT _ _ eL1
      have eR2 := sT _ _ eR1
      have hR2 := hR1.mono sT
      generalize upd H1 Tp (.tup [.int (i : Nat), .str wd]) = H2 at s2 eL2 eR2 hR2
      refine ⟨_, rfl, _, rfl, l, _, rfl, .inl (SqL.of eL2), rfl, _, rfl, ?_⟩
      rw [List.length_map]
      by_cases c : i = (linesOf x).length
      · rw [decide_eq_true (congrArg V.int (by rw [c]) : V.int ((i : Nat) : Int) = V.int (((linesOf x).length : Nat) : Int))]
        refine iteT ⟨_, rfl, raise_tf (TFRaised.mono (k2 i ?_) s2)⟩
        rw [eF1, c, List.drop_length]
        have e4 : lineWords.drop i = wd :: lineWords.drop (i + 1) := by
          obtain ⟨h1, h2⟩ := List.getElem?_eq_some_iff.mp ewd
          rw [List.drop_eq_getElem_cons h1, h2]
        rw [← c, e4]; rfl
      · rw [decide_eq_false (fun q => c (by have := V.int.inj q; omega) : ¬ V.int ((i : Nat) : Int) = V.int (((linesOf x).length : Nat) : Int))]
        have hi2 : i < (linesOf x).length := by omega
        have elin : (linesOf x)[i]? = some (linesOf x)[i] := List.getElem?_eq_getElem hi2
        generalize (linesOf x)[i] = li at elin
        have hbi : li.length ≤ 10000 := Nat.le_trans (hbx li (List.mem_of_getElem? elin)) hz
        refine iteF ⟨_, rfl, _, rfl, l, _, _, .str li, rfl, rfl, SqL.of eL2, atI_nat (by rw [List.getElem?_map, elin]; rfl), ⟨_, rfl⟩, li, spS, rfl, rfl, sepSp.z, Nat.le_trans (by omega : li.length + 2 ≤ 10002) (by decide), fun q hq => ?_⟩
        obtain ⟨f0, r0, ef⟩ : ∃ f0 r0, Txt.split li spS = f0 :: r0 := by
          cases h : Txt.split li spS with
          | nil => exact absurd h (split_ne sepSp)
          | cons f0 r0 => exact ⟨f0, r0, rfl⟩
        have hbq := split_bound (x := li) sepSp
        have hbq2 := split_le li spS
        have sQ := same_upd (o := .lst ((Txt.split li spS).map V.str)) hq
        have eQ : (upd H2 q (.lst ((Txt.split li spS).map V.str))) q = some (.lst (V.str f0 :: r0.map V.str)) := by rw [upd_same, ef]; rfl
        have s3 := s2.trans sQ
        have eL3 := sQ _ _ eL2
        have eR3 := sQ _ _ eR2
        have hR3 := hR2.mono sQ
        rw [ef] at hbq hbq2
        have hr0 : r0.length ≤ 10002 := by rw [List.length_cons] at hbq2; omega
        generalize upd H2 q (.lst ((Txt.split li spS).map V.str)) = H3 at s3 eL3 eR3 hR3 eQ
        refine ⟨q, V.str f0, r0.map V.str, rfl, SqL.of eQ, by rw [List.length_map]; omega, fun D hD => ?_⟩
        have sD := same_upd (o := .lst (r0.map V.str)) hD
        have s4 := s3.trans sD
        have eL4 := sD _ _ eL3
        have eR4 := sD _ _ eR3
        have hR4 := hR3.mono sD
        have eD4 : (upd H3 D (.lst (r0.map V.str))) D = some (.lst (r0.map V.str)) := upd_same
        have nDr : D ≠ r := fun e => by rw [e, eR3] at hD; cases hD
        generalize upd H3 D (.lst (r0.map V.str)) = H4 at s4 eL4 eR4 hR4 eD4
        have st := fault_step (n := i) ewd elin ef
        refine ⟨_, _, rfl, _, _, rfl, rfl, ?_⟩
        refine ⟨_, rfl, _, rfl, rfl, _, rfl, ?_⟩
        by_cases cf : f0 = wd
        · have ecf : (!decide (V.str f0 = V.str wd)) = false := by rw [decide_eq_true (by rw [cf])]; rfl
          rw [ecf]
          refine iteF ⟨_, rfl, _, rfl, wd, D, r0, rfl, SqL.of eD4, by omega, fun y hy => Nat.le_trans (hbq y (List.mem_cons_of_mem _ hy)) (by omega), fun H5 s5 => ⟨_, rfl, ?_⟩⟩
          cases ca : areArgs wd r0 with
          | true =>
            rw [if_pos ⟨cf, ca⟩] at st
            have eR5 := s5 _ _ eR4
            refine iteF ⟨_, rfl, .inl ⟨rfl, _, SqL.of eR5⟩, _, rfl, r, _, _, rfl, rfl, eR5, ?_, ?_⟩
            · have : as.length = _ := hR4.len
              rw [List.length_map, List.length_take] at this
              rw [List.length_map]
              exact Nat.lt_of_le_of_lt (by omega : as.length ≤ 10002) (by decide)
            · have tK : ∀ b o, b ≠ r → H4 b = some o → (upd H5 r (.lst (as.map V.ref ++ [V.ref D]))) b = some o := fun b o nb h => by rw [upd_ne nb]; exact s5 _ _ h
              refine ⟨_, _, _, _, as ++ [D], rfl, fun b o eb => tK b o (fun e => by rw [e, nHr] at eb; cases eb) (s4 _ _ eb), tK _ _ nlr eL4, by rw [upd_same]; simp, ?_, ?_, by omega, ?_⟩
              · have e5 : ((linesOf x).take (i + 1)).map rowOf = ((linesOf x).take i).map rowOf ++ [r0] := by
                  rw [take_more elin, List.map_append]
                  show _ ++ [rowOf li] = _
                  unfold rowOf
                  rw [ef]; rfl
                rw [e5]
                refine RowsAt.app ?_ (tK _ _ nDr eD4)
                exact hR4.keep tK hra
              · intro hm
                rcases List.mem_append.mp hm with hm | hm
                · exact hra hm
                · exact nDr (List.mem_singleton.mp hm).symm
              · rw [eF1, st]
          | false =>
            rw [if_neg (fun q => by rw [ca] at q; cases q.2)] at st
            refine iteT ⟨_, rfl, raise_tf (TFRaised.mono (k2 i (by rw [eF1, st])) (s4.trans s5))⟩
        · have ecf : (!decide (V.str f0 = V.str wd)) = true := by rw [decide_eq_false fun q => cf (V.str.inj q)]; rfl
          rw [ecf]
          rw [if_neg (fun q => cf q.1)] at st
          exact iteT (iteT ⟨_, rfl, raise_tf (TFRaised.mono (k2 i (by rw [eF1, st])) s4)⟩)
    · rintro σ H1 ⟨v3, v4, v5, v6, as, rfl, s1, eL1, eR1, hR1, hra, hil, eF1⟩
      have h4 : (lineWords.map V.str).length = 4 := rfl
      rw [h4] at hR1 hil eF1
      have e4 : lineWords.drop 4 = [] := rfl
      rw [e4] at eF1
      have ell : ((linesOf x).map V.str).length = (linesOf x).length := List.length_map _
      refine ⟨_, rfl, l, _, rfl, .inl (SqL.of eL1), aW, _, rfl, .inr (sqtK hW), _, _, rfl, rfl, _, rfl, ?_⟩
      rw [ell, h4]
      by_cases c : 4 < (linesOf x).length
      · rw [decide_eq_true (by omega : ((4 : Nat) : Int) < (((linesOf x).length : Nat) : Int))]
        refine iteT ⟨aW, _, rfl, .inr (sqtK hW), ?_⟩
        rw [h4]
        refine raise_tf (TFRaised.mono (k2 4 ?_) s1)
        rw [eF1]
        cases hd : (linesOf x).drop 4 with
        | nil => exact absurd (List.drop_eq_nil_iff.mp hd) (by omega)
        | cons a b => rfl
      · rw [decide_eq_false (by omega : ¬ ((4 : Nat) : Int) < (((linesOf x).length : Nat) : Int))]
        have hl4 : (linesOf x).length = 4 := by omega
        refine iteF ⟨_, rfl, k1 ?_ H1 r as s1 nHr eR1 ?_⟩
        · rw [eF1, List.drop_eq_nil_of_le (by omega)]; rfl
        · rw [List.take_of_length_le (by omega)] at hR1; exact hR1
end
end Dk

set_option Elab.async false
set_option linter.all false
set_option maxRecDepth 100000
set_option maxHeartbeats 1000000
namespace Dk
open PySem PySem.Spec PyProof.Rows L2 TL
def numD : List Nat → Int
  | [a] => (a : Int) - 48
  | [a, b] => ((a : Int) - 48) * 10 + ((b : Int) - 48)
  | _ => 0
def numOf (x : Str) : Int := numD (tl x)
def nw2 : List (List Nat) := (List.range 10).map (fun a => [48 + a]) ++ ((List.range 9).flatMap fun a => (List.range 10).map fun b => [49 + a, 48 + b])
theorem nw_all : ∀ l ∈ nw2, PySem.intText? (⟨l.toArray⟩ : Str) = some (numD l) ∧ tl (Str.ofString (toString (numD l))) = l ∧ 0 ≤ numD l ∧ numD l ≤ 99 := by decide +kernel
theorem nw_mem {x : Str} (h : isNW x = true) : tl x ∈ nw2 := by
  unfold isNW at h
  have key : ∀ c, dig c = true → 48 ≤ c ∧ c ≤ 57 := fun c hc => by
    have := of_decide_eq_true hc
    rw [tl_dig] at this
    simp at this
    omega
  split at h
  · rename_i a ea
    have := key a h
    rw [ea]
    refine List.mem_append_left _ (List.mem_map.mpr ⟨a - 48, List.mem_range.mpr (by omega), by rw [show 48 + (a - 48) = a by omega]⟩)
  · rename_i a b ea
    simp only [Bool.and_eq_true, decide_eq_true_eq] at h
    have h1 := key a h.1.1
    have h2 := key b h.1.2
    have h3 := h.2
    rw [ea]
    refine List.mem_append_right _ (List.mem_flatMap.mpr ⟨a - 49, List.mem_range.mpr (by omega), List.mem_map.mpr ⟨b - 48, List.mem_range.mpr (by omega), ?_⟩⟩)
    rw [show 49 + (a - 49) = a by omega, show 48 + (b - 48) = b by omega]
  · cases h
theorem nw_num {x : Str} (h : isNW x = true) : PySem.intText? x = some (numOf x) ∧ Str.ofString (toString (numOf x)) = x ∧ 0 ≤ numOf x ∧ numOf x ≤ 99 := by
  have := nw_all _ (nw_mem h)
  rw [mk_tl] at this
  exact ⟨this.1, ext_tl this.2.1, this.2.2⟩
theorem nw_len {x : Str} (h : isNW x = true) : x.length ≤ 2 := by
  rw [len_tl x]
  unfold isNW at h
  split at h
  · rename_i a ea; rw [ea]; simp
  · rename_i a b ea; rw [ea]; simp
  · cases h
/-- a number from 0 to 99 is written as a number word -/
theorem num_nw_all : ∀ n ∈ List.range 100, isNW (Str.ofString (toString ((n : Nat) : Int))) = true ∧ numOf (Str.ofString (toString ((n : Nat) : Int))) = ((n : Nat) : Int) := by decide +kernel
theorem num_nw {i : Int} (h0 : 0 ≤ i) (h1 : i ≤ 99) : isNW (Str.ofString (toString i)) = true ∧ numOf (Str.ofString (toString i)) = i := by
  obtain ⟨n, rfl⟩ := Int.eq_ofNat_of_zero_le h0
  exact num_nw_all n (List.mem_range.mpr (by omega))
end Dk

set_option Elab.async false
set_option linter.all false
set_option maxRecDepth 100000
set_option maxHeartbeats 1000000
namespace Dk
open PySem PySem.Spec PyProof.Rows L2 TL
/-! ### the text of a house -/
def numS (i : Int) : Str := Str.ofString (toString i)
def remS (r : Pr) : Str := ((Str.empty ++ numS r.1) ++ colS) ++ numS r.2
def rowsT (ts : List Str) (k : Int) (cs : List Int) (rs : List Pr) : List (List Str) := [wTab :: ts, [wKey, numS k], wCar :: cs.map numS, wRem :: rs.map remS]
def textOf (ts : List Str) (k : Int) (cs : List Int) (rs : List Pr) : Str := Txt.join nlS ((rowsT ts k cs rs).map (Txt.join spS))
/-- numbers from 0 to 99, not too many of anything -/
structure Sizes (ts : List Str) (k : Int) (cs : List Int) (rs : List Pr) : Prop where
  tl : ts.length ≤ 6
  tb : ∀ t ∈ ts, t.length ≤ 1000
  k0 : 0 ≤ k
  k9 : k ≤ 99
  cl : cs.length ≤ 6
  cb : ∀ c ∈ cs, (0 : Int) ≤ c ∧ c ≤ 99
  rl : rs.length ≤ 10
  rb : ∀ r ∈ rs, (0 : Int) ≤ r.1 ∧ r.1 ≤ 99 ∧ (0 : Int) ≤ r.2 ∧ r.2 ≤ 99
structure HouseAt (K : PySem.W.Frag) (C : Addr) (H : Hp) (p : Addr) (ts : List Str) (k : Int) (cs : List Int) (rs : List Pr) : Prop where
  ex : ∃ dx aT aC aR xs, H p = some (.ins C dx (hFields (.ref aT) (.int k) (.ref aC) (.ref aR))) ∧ SqT K H aT (ts.map V.str) ∧ SqT K H aC (cs.map V.int) ∧ SqT K H aR xs ∧ Prs H xs rs
def spText (K : PySem.W.Frag) (C : Addr) : Sp := fun vs H Q _ => ∃ (p : Addr) (ts : List Str) (k : Int) (cs : List Int) (rs : List Pr), vs = [.ref p] ∧ HouseAt K C H p ts k cs rs ∧ Sizes ts k cs rs ∧ ∀ H', Same H H' → Q (.str (textOf ts k cs rs)) H'
theorem hf_tables (a b c d : V) : (hFields a b c d).lookup ("tables" : Str) = some a := by
  unfold hFields
  rw [lookup_putF, if_neg (by decide +kernel), lookup_putF, if_neg (by decide +kernel), lookup_putF, if_neg (by decide +kernel), lookup_putF, if_pos rfl]
theorem hf_keys (a b c d : V) : (hFields a b c d).lookup ("key_count" : Str) = some b := by
  unfold hFields
  rw [lookup_putF, if_neg (by decide +kernel), lookup_putF, if_neg (by decide +kernel), lookup_putF, if_pos rfl]
theorem hf_careful (a b c d : V) : (hFields a b c d).lookup ("careful" : Str) = some c := by
  unfold hFields
  rw [lookup_putF, if_neg (by decide +kernel), lookup_putF, if_pos rfl]
theorem hf_rem (a b c d : V) : (hFields a b c d).lookup ("reminders" : Str) = some d := by
  unfold hFields
  rw [lookup_putF, if_pos rfl]
theorem numS_len {i : Int} (h0 : 0 ≤ i) (h1 : i ≤ 99) : (numS i).length ≤ 2 := nw_len (num_nw h0 h1).1
theorem log_small {i : Int} (h0 : 0 ≤ i) (h1 : i ≤ 99) : i.natAbs.log2 < 1920 := by
  have := Nat.log2_le_self i.natAbs
  omega
theorem len_app (x y : Str) : (x ++ y).length = x.length + y.length := by
  rw [len_tl, len_tl x, len_tl y, tl_append, List.length_append]
theorem col_len : colS.length = 1 := by decide +kernel
theorem remS_len {r : Pr} (h : (0 : Int) ≤ r.1 ∧ r.1 ≤ 99 ∧ (0 : Int) ≤ r.2 ∧ r.2 ≤ 99) : (remS r).length ≤ 5 := by
  unfold remS
  rw [len_app, len_app, len_app, col_len]
  have h1 := numS_len h.1 h.2.1
  have h2 := numS_len h.2.2.1 h.2.2.2
  have h3 : Str.empty.length = 0 := rfl
  omega
theorem rowsAt_get {H : Hp} : ∀ {as : List Addr} {rows : List (List Str)} {i : Nat} {a : Addr}, RowsAt H as rows → as[i]? = some a → ∃ ws, rows[i]? = some ws ∧ H a = some (.lst (ws.map V.str))
  | [], [], _, _, .nil, e => by simp at e
  | _ :: _, _ :: _, 0, _, .cons h _, e => by simp at e; subst e; exact ⟨_, rfl, h⟩
  | _ :: _, _ :: _, i + 1, _, .cons _ t, e => by
    obtain ⟨ws, e1, e2⟩ := rowsAt_get (i := i) t (by simpa using e)
    exact ⟨ws, by simpa using e1, e2⟩
theorem joinL_len (S : List Nat) : ∀ ps : List (List Nat), (joinL S ps).length ≤ (ps.map List.length).sum + ps.length * S.length
  | [] => by simp [joinL]
  | [p] => by simp [joinL]
  | p :: q :: r => by
    have ih := joinL_len S (q :: r)
    show (p ++ (S ++ joinL S (q :: r))).length ≤ _
    rw [List.length_append, List.length_append, List.map_cons, List.sum_cons, List.length_cons (as := q :: r), Nat.succ_mul]
    omega
theorem join_len (y : Str) (ps : List Str) : (Txt.join y ps).length ≤ (ps.map (·.length)).sum + ps.length * y.length := by
  have h := joinL_len (tl y) (ps.map tl)
  rw [len_tl, join_eq, tl_join]
  rw [List.length_map, List.map_map, show List.length ∘ tl = fun p : Str => p.length from funext fun p => (len_tl p).symm, ← len_tl y] at h
  exact h
theorem row_size {ws : List Str} {n m : Nat} (h1 : ws.length ≤ n) (h2 : ∀ x ∈ ws, x.length ≤ m) (h3 : n * m + n ≤ 16000) : (ws.map (·.length)).sum + ws.length * spS.length ≤ 16000 := by
  have h4 := sum_len h2
  have h5 : spS.length = 1 := by decide +kernel
  rw [h5, Nat.mul_one]
  have h6 : ws.length * m ≤ n * m := Nat.mul_le_mul_right _ h1
  omega
theorem rows_small {ts : List Str} {k : Int} {cs : List Int} {rs : List Pr} (S : Sizes ts k cs rs) : ∀ ws ∈ rowsT ts k cs rs, ws.length ≤ 11 ∧ (ws.map (·.length)).sum + ws.length * spS.length ≤ 16000 := by
  have l1 : wTab.length = 6 := by decide +kernel
  have l2 : wKey.length = 4 := by decide +kernel
  have l3 : wCar.length = 7 := by decide +kernel
  have l4 : wRem.length = 6 := by decide +kernel
  intro ws h
  simp only [rowsT, List.mem_cons, List.not_mem_nil, or_false] at h
  rcases h with rfl | rfl | rfl | rfl
  · refine ⟨by rw [List.length_cons]; have := S.tl; omega, row_size (n := 7) (m := 1000) (by rw [List.length_cons]; have := S.tl; omega) (fun x hx => ?_) (by decide)⟩
    rcases List.mem_cons.mp hx with rfl | hx
    · omega
    · exact S.tb x hx
  · refine ⟨by simp, row_size (n := 7) (m := 1000) (by simp) (fun x hx => ?_) (by decide)⟩
    simp only [List.mem_cons, List.not_mem_nil, or_false] at hx
    rcases hx with rfl | rfl
    · omega
    · have := numS_len S.k0 S.k9; omega
  · refine ⟨by rw [List.length_cons, List.length_map]; have := S.cl; omega, row_size (n := 7) (m := 1000) (by rw [List.length_cons, List.length_map]; have := S.cl; omega) (fun x hx => ?_) (by decide)⟩
    rcases List.mem_cons.mp hx with rfl | hx
    · omega
    · obtain ⟨c, hc, rfl⟩ := List.mem_map.mp hx
      have := numS_len (S.cb c hc).1 (S.cb c hc).2; omega
  · refine ⟨by rw [List.length_cons, List.length_map]; have := S.rl; omega, row_size (n := 11) (m := 1000) (by rw [List.length_cons, List.length_map]; have := S.rl; omega) (fun x hx => ?_) (by decide)⟩
    rcases List.mem_cons.mp hx with rfl | hx
    · omega
    · obtain ⟨r, hr, rfl⟩ := List.mem_map.mp hx
      have := remS_len (S.rb r hr); omega
theorem text_size {ts : List Str} {k : Int} {cs : List Int} {rs : List Pr} (S : Sizes ts k cs rs) : (((rowsT ts k cs rs).map (Txt.join spS)).map (·.length)).sum + ((rowsT ts k cs rs).map (Txt.join spS)).length * nlS.length ≤ 16777216 := by
  have h1 : ∀ x ∈ (rowsT ts k cs rs).map (Txt.join spS), x.length ≤ 16000 := fun x hx => by
    obtain ⟨ws, hw, rfl⟩ := List.mem_map.mp hx
    exact Nat.le_trans (join_len _ _) (rows_small S ws hw).2
  have h2 := sum_len h1
  have h3 : nlS.length = 1 := by decide +kernel
  have h4 : ((rowsT ts k cs rs).map (Txt.join spS)).length = 4 := rfl
  rw [h4] at h2 ⊢
  omega
/-- the reading of [sep.join(row) for row in rows] -/
theorem comp_join {K : PySem.W.Frag} {l : Addr} {as : List Addr} {rows : List (List Str)} {H1 : Hp} {D : Addr} {σ : L2.St} {i : Nat} {vs : List Nat} {te : TE} {Qd : Hp → Prop} (hD : H1 D = none) (hl : SqL K H1 l (as.map V.ref)) (hR : RowsAt H1 as rows) (hz : rows.length ≤ 1000)
    (hte : ∀ (a : Addr) (ws : List Str) (H2 : Hp) (Q : VK), ws ∈ rows → H2 a = some (.lst (ws.map V.str)) → Q (.str (Txt.join spS ws)) H2 → te ((wipe σ vs).set i (some (.ref a))) H2 Q) (hw : ∀ x : V, wipe ((wipe σ vs).set i (some x)) vs = wipe σ vs)
    (hd : ∀ H2, Same H1 H2 → H2 D = some (.lst ((rows.map (Txt.join spS)).map V.str)) → Qd H2) :
    ∃ W : Nat → Nat → Hp → Prop, (∃ m, W 0 m (upd H1 D (.lst []))) ∧ ∀ i' m H, W i' m H →
      ((Itl K l).stop i' H ∧ Qd H) ∨ ((Itl K l).go i' H ∧ ∃ Nx : Hp → Prop, (∀ H', Nx H' → ∃ m', m' < m ∧ W (i' + 1) m' H') ∧ ∀ x H', (Itl K l).yld i' H x H' → gName i x (wipe σ vs) H' fun σ2 H2 => wipe σ2 vs = wipe σ vs ∧ tYes σ2 H2 fun b H3 =>
        if b = true then te σ2 H3 fun y H4 => ∃ acc, H4 D = some (.lst acc) ∧ acc.length < sizeLine ∧ Nx (upd H4 D (.lst (acc ++ [y]))) else Nx H3) := by
  have hlen := hR.len
  refine lc_list (K := K) (a := l) (xs := as.map V.ref) (g := gName i) (tt := tYes) (te := te) (vs := vs) (σ := σ) (Qd := Qd)
    (fun i H3 => Same H1 H3 ∧ H3 D = some (.lst (((rows.take i).map (Txt.join spS)).map V.str)))
    ⟨same_upd hD, upd_same⟩ (fun i H3 _ ⟨e, _⟩ => e.seq hl) ?_ ?_
  · rintro j y H3 hi ⟨s3, eD⟩
    obtain ⟨a, ha, rfl⟩ := map_at hi
    obtain ⟨ws, hws, ea⟩ := rowsAt_get hR ha
    have hj : j < rows.length := (List.getElem?_eq_some_iff.mp hws).1
    refine ⟨hw _, hte a ws H3 _ (List.mem_of_getElem? hws) (s3 _ _ ea) ⟨_, eD, ?_, fun b o eb => ?_, ?_⟩⟩
    · rw [List.length_map, List.length_map, List.length_take]
      exact Nat.lt_of_le_of_lt (Nat.le_trans (Nat.min_le_left _ _) (by omega : j ≤ 1000)) (by decide)
    · rw [upd_ne (ne_of_none eb hD)]; exact s3 _ _ eb
    · rw [upd_same, take_more hws, List.map_append, List.map_append]; rfl
  · rintro H3 ⟨s3, eD⟩
    rw [List.length_map, hlen, List.take_length] at eD
    exact hd H3 s3 eD
end Dk

set_option Elab.async false
set_option linter.all false
set_option maxRecDepth 100000
set_option maxHeartbeats 1000000
namespace Dk
open PySem PySem.Spec PyProof.Rows L2 TL
def rJoin (K : PySem.W.Frag) : V → List V → Hp → VK → Prop := fun x xs H Q => ∃ a p, ∃ ys : List Str, x = .str a ∧ xs = [.ref p] ∧ (SqL K H p (ys.map V.str) ∨ SqT K H p (ys.map V.str)) ∧ (ys.map (·.length)).sum + ys.length * a.length ≤ 16777216 ∧ Q (.str (Txt.join a ys)) H
def tRem : TE := fun σ H Q => tJs [tFmt (tVar 1), tC (.str colS), tFmt (tVar 2)] Str.empty σ H fun out H1 => Q (.str out) H1
def spKeysL : Sp := fun vs H Q _ => ∃ k : Int, vs = [.int k] ∧ 0 ≤ k ∧ k ≤ 99 ∧ Q (.str (Txt.join spS [wKey, numS k])) H
def spCarL (K : PySem.W.Frag) : Sp := fun vs H Q _ => ∃ (a : Addr) (cs : List Int), vs = [.ref a] ∧ SqT K H a (cs.map V.int) ∧ cs.length ≤ 6 ∧ (∀ c ∈ cs, (0 : Int) ≤ c ∧ c ≤ 99) ∧ ∀ H', Same H H' → Q (.str (Txt.join spS (wCar :: cs.map numS))) H'
def spRemL (K : PySem.W.Frag) : Sp := fun vs H Q _ => ∃ (a : Addr) (xs : List V) (rs : List Pr), vs = [.ref a] ∧ SqT K H a xs ∧ Prs H xs rs ∧ rs.length ≤ 10 ∧ (∀ r ∈ rs, (0 : Int) ≤ r.1 ∧ r.1 ≤ 99 ∧ (0 : Int) ≤ r.2 ∧ r.2 ≤ 99) ∧ ∀ H', Same H H' → Q (.str (Txt.join spS (wRem :: rs.map remS))) H'
structure TxtLn (K : PySem.W.Frag) (mg : Str → Option Value) : Prop where
  kl : ∃ f fd, mg "keys_line" = some (.ref f) ∧ Fun K "keys_line" "keys_line" sKeysL f fd ∧ Binds K fd ["keys"] []
  cl : ∃ f fd, mg "careful_line" = some (.ref f) ∧ Fun K "careful_line" "careful_line" sCarL f fd ∧ Binds K fd ["careful"] []
  rl : ∃ f fd, mg "remind_line" = some (.ref f) ∧ Fun K "remind_line" "remind_line" sRemL f fd ∧ Binds K fd ["reminders"] []
  str : mg "str" = none
def keyS : Str := "keys "
theorem key_line (k : Int) : (Str.empty ++ keyS) ++ numS k = Txt.join spS [wKey, numS k] := by
  apply ext_tl
  rw [join_eq, tl_join]
  simp only [tl_append, List.map_cons, List.map_nil, joinL]
  rw [show tl keyS = tl wKey ++ tl spS by decide +kernel, show tl Str.empty = [] by decide +kernel]
  simp
section
variable {P : Program} {w : World} {K : PySem.W.Frag} {mg : Str → Option Value} {base : Heap} {CH fP fT fK fC fR : Addr} {fdP fdT fdK fdC fdR : FuncData}
theorem scKeysL : FnScope ["keys"] ["keys"] (defScope sKeysL) := ⟨rfl, rfl, rfl, by decide +kernel, rfl, by decide +kernel, by decide +kernel⟩
theorem ok_keysl {f : Addr} {fd : FuncData} (F : Fun K "keys_line" "keys_line" sKeysL f fd) : FnOk P w K mg base CX0 1 f fd ["keys"] spKeysL := by
  refine F.ok scKeysL (fun vs H Q E h => ?_) (fun cdv A outer s H vs Q E hr h => ?_)
  · obtain ⟨k, rfl, _⟩ := h
    rfl
  · obtain ⟨kk, rfl, h0, h9, k⟩ := h
    have n1 := numS_len h0 h9
    have n0 : Str.empty.length = 0 := rfl
    have n5 : keyS.length = 5 := by decide +kernel
    refine ⟨_, pss_one (ps_ret (pe_joined (.cons pe_str (.cons (pe_fmt (pv 0)) .nil)))), ?_⟩
    refine ⟨keyS, rfl, ?_, _, rfl, .inr ⟨kk, rfl, log_small h0 h9, numS kk, rfl, ?_, ?_⟩⟩
    · rw [len_app]; exact Nat.le_trans (by omega : _ ≤ 1000) (by decide)
    · rw [len_app, len_app]; exact Nat.le_trans (by omega : _ ≤ 1000) (by decide)
    · show Q (.str ((Str.empty ++ keyS) ++ numS kk)) H
      rw [key_line]; exact k
theorem scCarL : FnScope ["careful", "person"] ["careful"] (defScope sCarL) := ⟨rfl, rfl, rfl, by decide +kernel, rfl, by decide +kernel, by decide +kernel⟩
theorem ok_carl {f : Addr} {fd : FuncData} (F : Fun K "careful_line" "careful_line" sCarL f fd) (gs : mg "str" = none) : FnOk P w K mg base CX0 1 f fd ["careful"] (spCarL K) := by
  refine F.ok scCarL (fun vs H Q E h => ?_) (fun cdv A outer s H vs Q E hr h => ?_)
  · obtain ⟨a, cs, rfl, _⟩ := h
    rfl
  · obtain ⟨aC, cs, rfl, hC, hl, hb, k⟩ := h
    refine ⟨_, pss_one (ps_ret (pe_join pe_str (pe_lst (pa_cons pe_str (StX.pa_star (pe_lc (own := [("person", 1)]) (g := gName 1) (by rfl) scCarL.nd (pi_tup (pv 0)) (blkOk_by (N := ["careful", "person"]) (sc := defScope sCarL) (by decide +kernel))
            (fun _ _ _ _ _ => pg_name (i := 1) scCarL.nd rfl (Or.inl rfl)) (fun _ _ _ _ _ => pts_nil) (fun _ _ _ _ _ => pe_callTy call_str_int (by rfl) gs (by decide +kernel) (pa_cons (pv 1) pa_nil))) pa_nil))))), ?_⟩
    refine ⟨⟨_, rfl⟩, _, rfl, aC, rfl, ⟨_, hC⟩, fun D hD => lc_tup (K := K) (a := aC) (xs := cs.map V.int)
      (fun i H3 => Same H H3 ∧ H3 D = some (.lst (((cs.take i).map numS).map V.str))) ⟨same_upd hD, upd_same⟩ (fun i H3 _ ⟨e, _⟩ => sSqT e hC) ?_ ?_⟩
    · rintro j y H3 hi ⟨s3, eD⟩
      obtain ⟨c, hc, rfl⟩ := map_at hi
      have hcm := hb c (List.mem_of_getElem? hc)
      refine ⟨rfl, _, rfl, c, rfl, log_small hcm.1 hcm.2, _, eD, ?_, fun b o eb => ?_, ?_⟩
      · rw [List.length_map, List.length_map, List.length_take]
        exact Nat.lt_of_le_of_lt (Nat.le_trans (Nat.min_le_right _ _) (by omega : _ ≤ 1000)) (by decide)
      · rw [upd_ne (ne_of_none eb hD)]; exact s3 _ _ eb
      · rw [upd_same, take_more hc, List.map_append, List.map_append]; rfl
    rintro H3 ⟨s3, eD⟩
    rw [List.length_map, List.take_length] at eD
    refine ⟨D, _, rfl, .inr (SqL.of eD), ?_, fun l3 hl3 => ?_⟩
    · show (V.str wCar :: ((cs.map numS).map V.str ++ [])).length ≤ sizeLine
      rw [List.append_nil, List.length_cons, List.length_map, List.length_map]
      exact Nat.le_trans (by omega : _ ≤ 1000) (by decide)
    have s4 := same_upd (o := .lst (V.str (Str.ofString "careful") :: ((cs.map numS).map V.str ++ []))) hl3
    have e3 : (upd H3 l3 (.lst (V.str (Str.ofString "careful") :: ((cs.map numS).map V.str ++ [])))) l3 = some (.lst ((wCar :: cs.map numS).map V.str)) := by rw [upd_same, List.append_nil]; rfl
    refine ⟨spS, l3, _, rfl, rfl, .inl (SqL.of e3), ?_, k _ (s3.trans s4)⟩
    refine Nat.le_trans (row_size (n := 7) (m := 1000) (by rw [List.length_cons, List.length_map]; omega) (fun x hx => ?_) (by decide)) (by decide)
    rcases List.mem_cons.mp hx with rfl | hx
    · have l3 : wCar.length = 7 := by decide +kernel
      omega
    · obtain ⟨c, hc, rfl⟩ := List.mem_map.mp hx
      have := numS_len (hb c hc).1 (hb c hc).2; omega
theorem scRemL : FnScope ["reminders", "tick", "person"] ["reminders"] (defScope sRemL) := ⟨rfl, rfl, rfl, by decide +kernel, rfl, by decide +kernel, by decide +kernel⟩
theorem ok_reml {f : Addr} {fd : FuncData} (F : Fun K "remind_line" "remind_line" sRemL f fd) : FnOk P w K mg base CX0 1 f fd ["reminders"] (spRemL K) := by
  refine F.ok scRemL (fun vs H Q E h => ?_) (fun cdv A outer s H vs Q E hr h => ?_)
  · obtain ⟨a, xs, rs, rfl, _⟩ := h
    rfl
  · obtain ⟨aR, xs, rs, rfl, hR, hP, hl, hb, k⟩ := h
    refine ⟨_, pss_one (ps_ret (pe_join pe_str (pe_lst (pa_cons pe_str (StX.pa_star (pe_lc (own := [("tick", 1), ("person", 2)]) (g := gTup K 2 (gCons (gName 1) (gCons (gName 2) gNil))) (te := tRem) (by rfl) scRemL.nd (pi_tup (pv 0)) (blkOk_by (N := ["reminders", "tick", "person"]) (sc := defScope sRemL) (by decide +kernel))
            (fun _ _ _ _ _ => by exact pg_tup rfl (pgs_cons (pg_name (i := 1) scRemL.nd rfl (Or.inl rfl)) (pgs_cons (pg_name (i := 2) scRemL.nd rfl (Or.inl rfl)) pgs_nil))) (fun _ _ _ _ _ => pts_nil)
            (fun _ _ _ _ _ => by exact pe_joined (.cons (pe_fmt (pv 1)) (.cons pe_str (.cons (pe_fmt (pv 2)) .nil))))) pa_nil))))), ?_⟩
    refine ⟨⟨_, rfl⟩, _, rfl, aR, rfl, ⟨_, hR⟩, fun D hD => lc_tup (K := K) (a := aR) (xs := xs)
      (fun i H5 => Same H H5 ∧ H5 D = some (.lst (((rs.take i).map remS).map V.str))) ⟨same_upd hD, upd_same⟩ (fun i H5 _ ⟨e, _⟩ => sSqT e hR) ?_ ?_⟩
    · rintro j y H5 hi ⟨s5, eD⟩
      have hj : j < xs.length := (List.getElem?_eq_some_iff.mp hi).1
      have hlen := hP.len
      have hrj : rs[j]? = some (rs[j]'(by omega)) := List.getElem?_eq_getElem _
      generalize rs[j]'(by omega) = r at hrj
      have hPr : PrAt H y r := by
        have hk : (xs.map (kf H))[j]? = some (kf H y) := by rw [List.getElem?_map, hi]; rfl
        rw [hP.kf, hrj] at hk
        have e := Option.some.inj hk
        rw [e]; exact hP.mem y (List.mem_of_getElem? hi)
      obtain ⟨t, rfl, ht⟩ := hPr
      have hb := hb r (List.mem_of_getElem? hrj)
      have n1 := numS_len hb.1 hb.2.1
      have n2 := numS_len hb.2.2.1 hb.2.2.2
      refine ⟨t, _, rfl, SqT.of (s5 _ _ ht), rfl, _, _, rfl, _, _, rfl, rfl, rfl, ?_⟩
      refine ⟨_, rfl, .inr ⟨r.1, rfl, log_small hb.1 hb.2.1, numS r.1, rfl, ?_, colS, rfl, ?_, _, rfl, .inr ⟨r.2, rfl, log_small hb.2.2.1 hb.2.2.2, numS r.2, rfl, ?_, ?_⟩⟩⟩
      · rw [len_app]; exact Nat.le_trans (by have : Str.empty.length = 0 := rfl; omega : _ ≤ 1000) (by decide)
      · rw [len_app, len_app, col_len]; exact Nat.le_trans (by have : Str.empty.length = 0 := rfl; omega : _ ≤ 1000) (by decide)
      · rw [len_app, len_app, len_app, col_len]; exact Nat.le_trans (by have : Str.empty.length = 0 := rfl; omega : _ ≤ 1000) (by decide)
      · refine ⟨_, eD, ?_, fun b o eb => ?_, ?_⟩
        · rw [List.length_map, List.length_map, List.length_take]
          exact Nat.lt_of_le_of_lt (Nat.le_trans (Nat.min_le_right _ _) (by omega : _ ≤ 1000)) (by decide)
        · rw [upd_ne (ne_of_none eb hD)]; exact s5 _ _ eb
        · rw [upd_same, take_more hrj, List.map_append, List.map_append]; rfl
    rintro H5 ⟨s5, eD⟩
    rw [hP.len, List.take_length] at eD
    refine ⟨D, _, rfl, .inr (SqL.of eD), ?_, fun l4 hl4 => ?_⟩
    · show (V.str wRem :: ((rs.map remS).map V.str ++ [])).length ≤ sizeLine
      rw [List.append_nil, List.length_cons, List.length_map, List.length_map]
      exact Nat.le_trans (by omega : _ ≤ 1000) (by decide)
    have s6 := same_upd (o := .lst (V.str (Str.ofString "remind") :: ((rs.map remS).map V.str ++ []))) hl4
    have e4 : (upd H5 l4 (.lst (V.str (Str.ofString "remind") :: ((rs.map remS).map V.str ++ [])))) l4 = some (.lst ((wRem :: rs.map remS).map V.str)) := by rw [upd_same, List.append_nil]; rfl
    refine ⟨spS, l4, _, rfl, rfl, .inl (SqL.of e4), ?_, k _ (s5.trans s6)⟩
    refine Nat.le_trans (row_size (n := 11) (m := 1000) (by rw [List.length_cons, List.length_map]; omega) (fun x hx => ?_) (by decide)) (by decide)
    rcases List.mem_cons.mp hx with rfl | hx
    · have l4 : wRem.length = 6 := by decide +kernel
      omega
    · obtain ⟨r, hr, rfl⟩ := List.mem_map.mp hx
      have := remS_len (hb r hr); omega
abbrev nText : List Str := ["self"]
theorem scText : FnScope nText ["self"] (defScope sText) := ⟨rfl, rfl, rfl, by decide +kernel, rfl, by decide +kernel, by decide +kernel⟩
theorem ok_text {f : Addr} {fd : FuncData} (F : Fun K "text" "House.text" sText f fd) (TL' : TxtL K mg CH fP fT fK fC fR fdP fdT fdK fdC fdR) (LN : TxtLn K mg) : FnOk P w K mg base CX0 2 f fd ["self"] (spText K CH) := by
  obtain ⟨fKl, fdKl, gKl, FKl, bKl⟩ := LN.kl
  obtain ⟨fCl, fdCl, gCl, FCl, bCl⟩ := LN.cl
  obtain ⟨fRl, fdRl, gRl, FRl, bRl⟩ := LN.rl
  have GK : FnOk P w K mg base CX0 1 fKl fdKl ["keys"] spKeysL := ok_keysl FKl
  have GC : FnOk P w K mg base CX0 1 fCl fdCl ["careful"] (spCarL K) := ok_carl FCl LN.str
  have GR : FnOk P w K mg base CX0 1 fRl fdRl ["reminders"] (spRemL K) := ok_reml FRl
  refine F.ok scText (fun vs H Q E h => ?_) (fun cdv A outer s H vs Q E hr h => ?_)
  · obtain ⟨p, ts, kk, cs, rs, rfl, _⟩ := h
    rfl
  · obtain ⟨p, ts, kk, cs, rs, rfl, ⟨dx, aT, aC, aR, xs, hp, hT, hC, hR, hP⟩, S, k⟩ := h
    refine ⟨_, pss_one (ps_ret (pe_join pe_str (pe_lst
        (pa_cons (pe_join pe_str (pe_lst (pa_cons pe_str (StX.pa_star (pe_fld (pv 0) rfl) pa_nil))))
        (pa_cons (pe_call GK hr rfl gKl FKl.kp bKl .nil pass0 (pa_cons (pe_fld (pv 0) rfl) pa_nil))
        (pa_cons (pe_call GC hr rfl gCl FCl.kp bCl .nil pass0 (pa_cons (pe_fld (pv 0) rfl) pa_nil))
        (pa_cons (pe_call GR hr rfl gRl FRl.kp bRl .nil pass0 (pa_cons (pe_fld (pv 0) rfl) pa_nil)) pa_nil))))))), ?_⟩
    refine ⟨⟨_, rfl⟩, ⟨_, rfl⟩, _, rfl, p, CH, dx, _, _, rfl, hp, TL'.cl, TL'.nT, hf_tables _ _ _ _, aT, _, rfl, .inl hT, ?_⟩
    refine ⟨?_, fun l1 hl1 => ?_⟩
    · show (V.str wTab :: (ts.map V.str ++ [])).length ≤ sizeLine
      rw [List.append_nil, List.length_cons, List.length_map]
      exact Nat.le_trans (by have := S.tl; omega : _ ≤ 1000) (by decide)
    have s1 := same_upd (o := .lst (V.str (Str.ofString "tables") :: (ts.map V.str ++ []))) hl1
    have e1 : (upd H l1 (.lst (V.str (Str.ofString "tables") :: (ts.map V.str ++ [])))) l1 = some (.lst ((wTab :: ts).map V.str)) := by rw [upd_same, List.append_nil]; rfl
    generalize upd H l1 (.lst (V.str (Str.ofString "tables") :: (ts.map V.str ++ []))) = H1 at s1 e1
    have rs1 := rows_small S
    refine ⟨spS, l1, _, rfl, rfl, .inl (SqL.of e1), Nat.le_trans (rs1 _ (by simp [rowsT])).2 (by decide), ?_⟩
    refine ⟨_, rfl, p, CH, dx, _, _, rfl, s1 _ _ hp, TL'.cl, TL'.nK, hf_keys _ _ _ _, kk, rfl, S.k0, S.k9, ?_⟩
    refine ⟨_, rfl, p, CH, dx, _, _, rfl, s1 _ _ hp, TL'.cl, TL'.nC, hf_careful _ _ _ _, aC, cs, rfl, sSqT s1 hC, S.cl, S.cb, fun H2 s2 => ?_⟩
    have s12 := s1.trans s2
    refine ⟨_, rfl, p, CH, dx, _, _, rfl, s12 _ _ hp, TL'.cl, TL'.nR, hf_rem _ _ _ _, aR, xs, rs, rfl, sSqT s12 hR, hP.mono fun t ys h => s12 _ _ h, S.rl, S.rb, fun H3 s3 => ?_⟩
    have s13 := s12.trans s3
    refine ⟨by show 4 ≤ sizeLine; decide, fun l hl => ?_⟩
    refine ⟨nlS, l, (rowsT ts kk cs rs).map (Txt.join spS), rfl, rfl, .inl (SqL.of upd_same), text_size S, k _ (s13.trans (same_upd hl))⟩
end
end Dk

set_option Elab.async false
set_option linter.all false
set_option maxRecDepth 100000
set_option maxHeartbeats 1000000
namespace Dk
open PySem PySem.Spec PyProof.Rows L2 TL
/-! ### cls(e, ..), cls a local name that holds an own class -/
def tMakeL (i : Nat) (C : Addr) (sp : Sp) (dvs : List V) (E : XK) (t : TA) : TE := fun σ H Q => σ[i]? = some (some (.ref C)) ∧ tMake C sp dvs E t σ H Q
section
variable {X : Cx} {CX : CXT} {k i : Nat} {f C : Addr} {fd : FuncData} {ps : List Str} {sp : Sp} {dvs : List V} {ds : List Value} {E : XK} {x : Str} {p pos : Pos} {e : Expr} {es : List Expr} {t : TA}
theorem pe_makeL (M : Mk X.K C f) (F : FnOk X.prog X.w X.K X.mg X.base CX k f fd ps sp) (hr : Room (k + 1) X.A) (hN : X.N[i]? = some x) (hv : Vis X.env.scope x) (hb : Binds X.K fd ps ds) (hd : Vals dvs ds) (hx : Passes CX X E) (ha : PA X (e :: es) t)
    (hdb : (x == ("__debug__" : Str)) = false := by decide) (hcd : (x == ("__classdict__" : Str)) = false := by decide)
    (he : starEach (e :: es) X.env = (false, eval e X.env) :: starEach es X.env := by rfl) (hpl : (backTo pos (starEach es X.env)).any (·.1) = false := by rfl) : PE X (.Call (.Name x p) (e :: es) [] pos) (tMakeL i C sp dvs E t) := by
  refine ⟨fun pins s σ H Q I h => ?_⟩
  obtain ⟨hs, ht⟩ := h
  refine wpAny_Call_Name_kw (thn ((pe_var (pos := p) hN hv hdb hcd).run pins s σ H (fun v H1 => v = .ref C ∧ H1 = H) I ⟨.ref C, hs, rfl, rfl⟩) fun u s1 ⟨v, H1, I1, r1, q1⟩ => ?_)
  obtain ⟨rfl, rfl⟩ := q1
  cases r1
  refine PySem.W.callWith_K (h₀ := X.base) I.ok.mod.kin M.kp (thn (ha.run pos pins s1 σ _ _ I1 ht) fun us s2 ⟨vs, H2, I2, r, q⟩ => ⟨I2.kIn, ?_⟩) he hpl
  exact run_make M F hr hb hd hx I2 r q
end
/-! ### reading a text -/
def remOf (x : Str) : Pr := match Txt.split x colS with
  | [a, b] => (numOf a, numOf b)
  | _ => (0, 0)
theorem rw_parts {x : Str} (h : isRW x = true) : ∃ a b, Txt.split x colS = [a, b] ∧ isNW a = true ∧ isNW b = true ∧ remOf x = (numOf a, numOf b) := by
  unfold isRW at h
  rw [Bool.and_eq_true] at h
  have hl : (Txt.split x colS).length = 2 := by simpa using h.1
  match e : Txt.split x colS, hl with
  | [a, b], _ =>
    rw [e] at h
    simp only [List.all_cons, List.all_nil, Bool.and_true, Bool.and_eq_true] at h
    exact ⟨a, b, rfl, h.2.1, h.2.2, by unfold remOf; rw [e]⟩
def spReadRem : Sp := fun vs H Q _ => ∃ x : Str, vs = [.str x] ∧ x.length ≤ 100000 ∧ isRW x = true ∧ ∀ (H' : Hp) (t : Addr), Same H H' → H t = none → H' t = some (.tup [.int (remOf x).1, .int (remOf x).2]) → Q (.ref t) H'
structure Rows4 (x : Str) (r0 : List Str) (wk : Str) (r2 r3 : List Str) : Prop where
  rows : (linesOf x).map rowOf = [r0, [wk], r2, r3]
  h0 : ∀ y ∈ r0, isTW y = true
  hk : isNW wk = true
  h2 : ∀ y ∈ r2, isNW y = true
  h3 : ∀ y ∈ r3, isRW y = true
  lines : (linesOf x).map (fun l => Txt.split l spS) = [wTab :: r0, [wKey, wk], wCar :: r2, wRem :: r3]
theorem fault_none {x : Str} (h : fault x = none) : ∃ r0 wk r2 r3, Rows4 x r0 wk r2 r3 := by
  unfold fault at h
  have d1 : ¬ wKey = wTab := by decide +kernel
  have d2 : ¬ wKey = wRem := by decide +kernel
  have d3 : ¬ wCar = wTab := by decide +kernel
  have d4 : ¬ wCar = wRem := by decide +kernel
  have d5 : ¬ wCar = wKey := by decide +kernel
  have d6 : ¬ wRem = wTab := by decide +kernel
  have step : ∀ {n : Nat} {w : Str} {ws ls : List Str}, faultL n (w :: ws) ls = none → ∃ l ls' r, ls = l :: ls' ∧ Txt.split l spS = w :: r ∧ areArgs w r = true ∧ faultL (n + 1) ws ls' = none := by
    intro n w ws ls h
    cases ls with
    | nil => cases h
    | cons l ls =>
      unfold faultL at h
      cases e : Txt.split l spS with
      | nil => rw [e] at h; cases h
      | cons f r =>
        rw [e] at h
        dsimp only at h
        by_cases c : f = w ∧ areArgs w r = true
        · rw [if_pos c] at h
          exact ⟨l, ls, r, rfl, by rw [e, c.1], c.2, h⟩
        · rw [if_neg c] at h; cases h
  obtain ⟨l0, ls0, r0, e0, p0, a0, h⟩ := step h
  obtain ⟨l1, ls1, r1, e1, p1, a1, h⟩ := step h
  obtain ⟨l2, ls2, r2, e2, p2, a2, h⟩ := step h
  obtain ⟨l3, ls3, r3, e3, p3, a3, h⟩ := step h
  have e4 : ls3 = [] := by
    cases ls3 with
    | nil => rfl
    | cons a b => cases h
  subst e1 e2 e3 e4
  have q0 : r0.all isTW = true := by unfold areArgs at a0; rw [if_pos rfl] at a0; exact a0
  have q1 : r1.length = 1 ∧ r1.all isNW = true := by
    unfold areArgs at a1
    rw [if_neg d1, if_neg d2] at a1
    by_cases c : r1.length = 1
    · rw [if_neg (fun q => q.2 c)] at a1; exact ⟨c, a1⟩
    · rw [if_pos ⟨rfl, c⟩] at a1; cases a1
  have q2 : r2.all isNW = true := by
    unfold areArgs at a2
    rw [if_neg d3, if_neg d4, if_neg (fun q => d5 q.1)] at a2; exact a2
  have q3 : r3.all isRW = true := by
    unfold areArgs at a3
    rw [if_neg d6, if_pos rfl] at a3; exact a3
  obtain ⟨wk, rfl⟩ : ∃ wk, r1 = [wk] := by
    match r1, q1.1 with
    | [a], _ => exact ⟨a, rfl⟩
  refine ⟨r0, wk, r2, r3, ?_, List.all_eq_true.mp q0, ?_, List.all_eq_true.mp q2, List.all_eq_true.mp q3, ?_⟩
  · rw [e0]
    simp only [List.map_cons, List.map_nil, rowOf, p0, p1, p2, p3, List.tail_cons]
  · have := q1.2
    simpa using this
  · rw [e0]
    simp only [List.map_cons, List.map_nil, p0, p1, p2, p3]
def spReadNs (K : PySem.W.Frag) : Sp := fun vs H Q _ => ∃ (a : Addr) (ws : List Str), vs = [.ref a] ∧ SqL K H a (ws.map V.str) ∧ ws.length ≤ 100000 ∧ (∀ x ∈ ws, isNW x = true) ∧ ∀ (H' : Hp) (q : Addr), Same H H' → H q = none → H' q = some (.tup ((ws.map numOf).map V.int)) → Q (.ref q) H'
def spReadRs (K : PySem.W.Frag) : Sp := fun vs H Q _ => ∃ (a : Addr) (ws : List Str), vs = [.ref a] ∧ SqL K H a (ws.map V.str) ∧ ws.length ≤ 100000 ∧ (∀ x ∈ ws, x.length ≤ 100000 ∧ isRW x = true) ∧ ∀ (H' : Hp) (q : Addr) (xs : List V), Same H H' → H q = none → H' q = some (.tup xs) → Prs H' xs (ws.map remOf) → Q (.ref q) H'
section
variable {P : Program} {w : World} {K : PySem.W.Frag} {mg : Str → Option Value} {base : Heap}
theorem scReadNs : FnScope ["words", "word"] ["words"] (defScope sReadNs) := ⟨rfl, rfl, rfl, by decide +kernel, rfl, by decide +kernel, by decide +kernel⟩
theorem ok_readns {f : Addr} {fd : FuncData} (F : Fun K "read_numbers" "read_numbers" sReadNs f fd) (gi : mg "int" = none) (gt : mg "tuple" = none) : FnOk P w K mg base CX0 1 f fd ["words"] (spReadNs K) := by
  refine F.ok scReadNs (fun vs H Q E h => ?_) (fun cdv A outer s H vs Q E hr h => ?_)
  · obtain ⟨a, ws, rfl, _⟩ := h
    rfl
  · obtain ⟨a2, ws, rfl, h2, hl, hw, k⟩ := h
    refine ⟨_, pss_one (ps_ret (pe_callTy call_tuple_of (by rfl) gt (by decide +kernel) (pa_cons (pe_lc (own := [("word", 1)]) (g := gName 1) (by rfl) scReadNs.nd (pi_list (pv 0)) (blkOk_by (N := ["words", "word"]) (sc := defScope sReadNs) (by decide +kernel))
            (fun _ _ _ _ _ => pg_name (i := 1) scReadNs.nd rfl (Or.inl rfl)) (fun _ _ _ _ _ => pts_nil) (fun _ _ _ _ _ => pe_callTy call_int_str (by rfl) gi (by decide +kernel) (pa_cons (pv 1) pa_nil))) pa_nil))), ?_⟩
    refine ⟨_, rfl, a2, rfl, ⟨_, h2⟩, fun D hD => lc_list (K := K) (a := a2) (xs := ws.map V.str)
              (fun i H3 => Same H H3 ∧ H3 D = some (.lst (((ws.take i).map numOf).map V.int))) ⟨same_upd hD, upd_same⟩ (fun i H3 _ ⟨e, _⟩ => e.seq h2) ?_ ?_⟩
    · rintro j y H3 hi ⟨s3, eD⟩
      obtain ⟨t, ht, rfl⟩ := map_at hi
      have hj : j < ws.length := (List.getElem?_eq_some_iff.mp ht).1
      have hnw := hw t (List.mem_of_getElem? ht)
      refine ⟨rfl, _, rfl, t, numOf t, rfl, (nw_num hnw).1, by have := nw_len hnw; omega, _, eD, ?_, fun b o eb => ?_, ?_⟩
      · rw [List.length_map, List.length_map, List.length_take]
        exact Nat.lt_of_le_of_lt (Nat.le_trans (Nat.min_le_left _ _) (by omega : j ≤ 100000)) (by decide)
      · rw [upd_ne (ne_of_none eb hD)]; exact s3 _ _ eb
      · rw [upd_same, take_more ht, List.map_append, List.map_append]; rfl
    rintro H3 ⟨s3, eD⟩
    rw [List.length_map, List.take_length] at eD
    refine ⟨D, _, rfl, .inl ⟨SqL.of eD, fun aC haC => ?_⟩⟩
    exact k _ aC (s3.trans (same_upd haC)) (s3.free haC) upd_same
theorem scReadRs : FnScope ["words", "word"] ["words"] (defScope sReadRs) := ⟨rfl, rfl, rfl, by decide +kernel, rfl, by decide +kernel, by decide +kernel⟩
theorem ok_readrs {f : Addr} {fd : FuncData} (F : Fun K "read_reminders" "read_reminders" sReadRs f fd) (gi : mg "int" = none) (gt : mg "tuple" = none) {fN : Addr} {fdN : FuncData} (gN : mg "read_numbers" = some (.ref fN)) (FN : Fun K "read_numbers" "read_numbers" sReadNs fN fdN) (bN : Binds K fdN ["words"] []) : FnOk P w K mg base CX0 2 f fd ["words"] (spReadRs K) := by
  have GN : FnOk P w K mg base CX0 1 fN fdN ["words"] (spReadNs K) := ok_readns FN gi gt
  refine F.ok scReadRs (fun vs H Q E h => ?_) (fun cdv A outer s H vs Q E hr h => ?_)
  · obtain ⟨a, ws, rfl, _⟩ := h
    rfl
  · obtain ⟨a3, ws, rfl, h3, hl, hw, k⟩ := h
    refine ⟨_, pss_one (ps_ret (pe_callTy call_tuple_of (by rfl) gt (by decide +kernel) (pa_cons (pe_lc (own := [("word", 1)]) (g := gName 1) (by rfl) scReadRs.nd (pi_list (pv 0)) (blkOk_by (N := ["words", "word"]) (sc := defScope sReadRs) (by decide +kernel))
            (fun _ _ _ _ _ => pg_name (i := 1) scReadRs.nd rfl (Or.inl rfl)) (fun _ _ _ _ _ => pts_nil) (fun _ _ _ _ _ => pe_call GN hr rfl gN FN.kp bN .nil pass0 (pa_cons (pe_split (pv 1) pe_str) pa_nil))) pa_nil))), ?_⟩
    refine ⟨_, rfl, a3, rfl, ⟨_, h3⟩, fun D hD => lc_list (K := K) (a := a3) (xs := ws.map V.str)
              (fun i H5 => ∃ xs, Same H H5 ∧ H5 D = some (.lst xs) ∧ Prs H5 xs ((ws.take i).map remOf)) ⟨[], same_upd hD, upd_same, .nil⟩ (fun i H5 _ ⟨_, e, _⟩ => e.seq h3) ?_ ?_⟩
    · rintro j y H5 hi ⟨xs, s5, eD, hP⟩
      obtain ⟨t, ht, rfl⟩ := map_at hi
      have hj : j < ws.length := (List.getElem?_eq_some_iff.mp ht).1
      obtain ⟨hz, hrw⟩ := hw t (List.mem_of_getElem? ht)
      obtain ⟨a, b, es, ha, hb, er⟩ := rw_parts hrw
      refine ⟨rfl, _, rfl, ⟨_, rfl⟩, t, colS, rfl, rfl, sepCol.z, Nat.le_trans (by omega : t.length + 2 ≤ 100002) (by decide), fun l hl => ?_⟩
      have s1 := same_upd (o := .lst ((Txt.split t colS).map V.str)) hl
      have eL : (upd H5 l (.lst ((Txt.split t colS).map V.str))) l = some (.lst ([a, b].map V.str)) := by rw [upd_same, es]
      generalize upd H5 l (.lst ((Txt.split t colS).map V.str)) = H6 at s1 eL
      refine ⟨l, [a, b], rfl, SqL.of eL, by simp, fun x hx => ?_, fun H7 q s7 hq eq => ⟨_, s7 _ _ (s1 _ _ eD), ?_, xs ++ [.ref q], fun b o eb => ?_, upd_same, ?_⟩⟩
      · simp only [List.mem_cons, List.not_mem_nil, or_false] at hx
        rcases hx with rfl | rfl
        · exact ha
        · exact hb
      · rw [hP.len, List.length_map, List.length_take]
        exact Nat.lt_of_le_of_lt (Nat.le_trans (Nat.min_le_left _ _) (by omega : j ≤ 100000)) (by decide)
      · rw [upd_ne (ne_of_none eb hD)]; exact s7 _ _ (s1 _ _ (s5 _ _ eb))
      · have tK : ∀ t' ys, H7 t' = some (.tup ys) → (upd H7 D (.lst (xs ++ [V.ref q]))) t' = some (.tup ys) := fun t' ys h => by
          rw [upd_ne (fun e => by rw [e, s7 _ _ (s1 _ _ eD)] at h; cases h)]; exact h
        rw [take_more ht, List.map_append]
        refine (hP.mono fun t' ys h => tK _ _ (s7 _ _ (s1 _ _ h))).app ⟨q, rfl, ?_⟩
        have e2 := tK _ _ eq
        rw [er]
        exact e2
    rintro H5 ⟨xs, s5, eD, hP⟩
    rw [List.length_map, List.take_length] at hP
    refine ⟨D, xs, rfl, .inl ⟨SqL.of eD, fun aR haR => ?_⟩⟩
    have sR := same_upd (o := .tup xs) haR
    exact k _ aR xs (s5.trans sR) (s5.free haR) upd_same (hP.mono fun t ys h => sR _ _ h)
end
end Dk

set_option Elab.async false
set_option linter.all false
set_option maxRecDepth 100000
set_option maxHeartbeats 1000000
namespace Dk
open PySem PySem.Spec PyProof.Rows L2 TL
def dStrs (ts : List Str) : PyData := .tuple (ts.map PyData.str)
def dInts (ns : List Int) : PyData := .tuple (ns.map PyData.int)
def dPrs (rs : List Pr) : PyData := .tuple (rs.map prR)
def spParse (K : PySem.W.Frag) (CH CI CT : Addr) : Sp := fun vs H Q E => ∃ x : Str, vs = [.ref CH, .str x] ∧ x.length ≤ 10000 ∧
  (∀ i, fault x = some i → TFRaised CT E H (i : Int)) ∧
  (∀ r0 wk r2 r3, Rows4 x r0 wk r2 r3 →
    (chkHouse (dStrs r0) (.int (numOf wk)) (dInts (r2.map numOf)) (dPrs (r3.map remOf)) = none → ∀ (H' : Hp) (p : Addr), Same H H' → H p = none → HouseAt K CH H' p r0 (numOf wk) (r2.map numOf) (r3.map remOf) → Q (.ref p) H') ∧
    (∀ part i, chkHouse (dStrs r0) (.int (numOf wk)) (dInts (r2.map numOf)) (dPrs (r3.map remOf)) = some (part, i) → Raised CI E H part (i : Int)))
structure TxtT (K : PySem.W.Frag) (mg : Str → Option Value) (fS fRR : Addr) (fdS fdRR : FuncData) : Prop where
  gS : mg "split_text" = some (.ref fS)
  FS : Fun K "split_text" "split_text" sSplit fS fdS
  bS : Binds K fdS ["text"] []
  gRR : mg "read_reminders" = some (.ref fRR)
  FRR : Fun K "read_reminders" "read_reminders" sReadRs fRR fdRR
  bRR : Binds K fdRR ["words"] []
  rn : ∃ f fd, mg "read_numbers" = some (.ref f) ∧ Fun K "read_numbers" "read_numbers" sReadNs f fd ∧ Binds K fd ["words"] []
theorem dpAll_ints {K : PySem.W.Frag} {H : Hp} : ∀ ns : List Int, DpAll K H (ns.map V.int) (ns.map PyData.int)
  | [] => .nil
  | n :: ns => .cons (.int n) (dpAll_ints ns)
theorem join_le {y : Str} {ps : List Str} : ∀ p ∈ ps, p.length ≤ (Txt.join y ps).length := by
  intro p hp
  rw [len_tl p, len_tl, join_eq, tl_join]
  have key : ∀ (S : List Nat) (l : List (List Nat)) (q : List Nat), q ∈ l → q.length ≤ (joinL S l).length := by
    intro S l
    induction l with
    | nil => intro q h; cases h
    | cons a l ih =>
      intro q h
      cases l with
      | nil => rw [List.mem_singleton.mp h]; exact Nat.le_refl _
      | cons b l =>
        show q.length ≤ (a ++ (S ++ joinL S (b :: l))).length
        rw [List.length_append, List.length_append]
        rcases List.mem_cons.mp h with rfl | h
        · omega
        · have := ih q h; omega
  exact key _ _ _ (List.mem_map.mpr ⟨p, hp, rfl⟩)
/-- every word of a text's lines is not larger than the text -/
theorem rows_bound {x : Str} {r0 r2 r3 : List Str} {wk : Str} (h : Rows4 x r0 wk r2 r3) : (∀ y ∈ r0, y.length ≤ x.length) ∧ (∀ y ∈ r2, y.length ≤ x.length) ∧ (∀ y ∈ r3, y.length ≤ x.length) ∧ r0.length ≤ x.length + 2 ∧ r2.length ≤ x.length + 2 ∧ r3.length ≤ x.length + 2 := by
  have hb := split_bound (x := x) sepNl
  have key : ∀ r ∈ (linesOf x).map rowOf, (∀ y ∈ r, y.length ≤ x.length) ∧ r.length ≤ x.length + 2 := by
    intro r hr
    obtain ⟨l, hl, rfl⟩ := List.mem_map.mp hr
    have h1 := hb l hl
    have h2 := split_bound (x := l) sepSp
    have h3 := split_le l spS
    refine ⟨fun y hy => Nat.le_trans (h2 y (List.mem_of_mem_tail hy)) h1, ?_⟩
    unfold rowOf
    rw [List.length_tail]
    omega
  rw [h.rows] at key
  have k0 := key r0 (by simp)
  have k2 := key r2 (by simp)
  have k3 := key r3 (by simp)
  exact ⟨k0.1, k2.1, k3.1, k0.2, k2.2, k3.2⟩
section
variable {P : Program} {w : World} {K : PySem.W.Frag} {mg : Str → Option Value} {base : Heap} {C fI : Addr} {fdI : FuncData} {fII fIB fHO : Addr} {fdII fdIB fdHO : FuncData} {fIT fIR fAs : Addr} {fdIT fdIR fdAs : FuncData}
  {CH fP fT fK fC fR : Addr} {fdP fdT fdK fdC fdR : FuncData} {fTW fNW fRW : Addr} {fdTW fdNW fdRW : FuncData} {CT fTI fAA : Addr} {fdTI fdAA : FuncData} {fS fRR : Addr} {fdS fdRR : FuncData} {fH : Addr} {fdH : FuncData} {dvs : List V}
abbrev nParse : List Str := ["cls", "text", "tables", "keys", "careful", "reminders"]
theorem scParse : FnScope nParse ["cls", "text"] (defScope sParse) := ⟨rfl, rfl, rfl, by decide +kernel, rfl, by decide +kernel, by decide +kernel⟩
theorem ok_parse {f : Addr} {fd : FuncData} (F : Fun K "parse" "House.parse" sParse f fd) (T : TxtA mg) (TC : TxtC mg) (TF : TxtF K mg fII fIB fHO fdII fdIB fdHO) (TI : TxtI K mg fIT fIR fAs fdIT fdIR fdAs) (TH : TxtIH K mg C fI fdI)
    (TL' : TxtL K mg CH fP fT fK fC fR fdP fdT fdK fdC fdR) (TM : TxtM K mg fTW fNW fRW fdTW fdNW fdRW) (TTF : TxtTF K mg CT fTI fdTI) (TO : TxtO K mg fAA fdAA) (TT : TxtT K mg fS fRR fdS fdRR)
    (FH : FunD K "__init__" "House.__init__" (defArgs sInit) (defBody sInit) (defScope sInit) dvs [] fH fdH) (bH : Binds K fdH ["self", "tables", "keys", "careful", "reminders"] []) (M : Mk K CH fH) :
    FnOk P w K mg base (L2.CX P w) 7 f fd ["cls", "text"] (spParse K CH C CT) := by
  have GS : FnOk P w K mg base (L2.CX P w) 5 fS fdS ["text"] (spSplitText CT) := ok_split TT.FS T TF TM TI TTF TO
  obtain ⟨fRN, fdRN, gRN, FRN, bRN⟩ := TT.rn
  have GN : FnOk P w K mg base CX0 1 fRN fdRN ["words"] (spReadNs K) := ok_readns FRN TF.int TF.tuple
  have GR : FnOk P w K mg base CX0 2 fRR fdRR ["words"] (spReadRs K) := ok_readrs TT.FRR TF.int TF.tuple gRN FRN bRN
  have GH : FnOk P w K mg base (L2.CX P w) 5 fH fdH ["self", "tables", "keys", "careful", "reminders"] (spInit K CH C) := ok_init FH T TC TF TI TH TL'
  refine F.okX scParse (fun vs H Q E h => ?_) (fun cdv A outer s H vs Q E hr h => ?_)
  · obtain ⟨x, rfl, _⟩ := h
    rfl
  · obtain ⟨x, rfl, hz, k1, k2⟩ := h
    have hr5 : Room 5 (A.deeper (envOfC (Str.ofString "House.parse") (defScope sParse) s.heap.objs.size f cdv)) := hr.mono (by decide)
    have hr1 : Room 1 (A.deeper (envOfC (Str.ofString "House.parse") (defScope sParse) s.heap.objs.size f cdv)) := hr.mono (by decide)
    have hr2 : Room 2 (A.deeper (envOfC (Str.ofString "House.parse") (defScope sParse) s.heap.objs.size f cdv)) := hr.mono (by decide)
    refine ⟨_, pss_cons (ps_asg (pe_call GS hr5 rfl TT.gS TT.FS.kp TT.bS .nil (passes_call (takes_of rfl rfl rfl rfl) (fun _ _ _ _ h => h)) (pa_cons (pv 1) pa_nil)) (pg_unl (n := 4) rfl (pgs_cons (pg_name (i := 2) scParse.nd rfl (.inl rfl)) (pgs_cons (pg_name (i := 3) scParse.nd rfl (.inl rfl)) (pgs_cons (pg_name (i := 4) scParse.nd rfl (.inl rfl)) (pgs_cons (pg_name (i := 5) scParse.nd rfl (.inl rfl)) pgs_nil))))))
      (pss_one (ps_ret (pe_makeL (i := 0) M GH hr rfl (.inl rfl) bH .nil (passes_call (takes_of rfl rfl rfl rfl) (fun _ _ _ _ h => h))
        (pa_cons (pe_callTy call_tuple_of (by rfl) TF.tuple (by decide +kernel) (pa_cons (pv 2) pa_nil))
        (pa_cons (pe_callTy call_int_str (by rfl) TF.int (by decide +kernel) (pa_cons (pe_ix ix_list (pv 3) pe_int (fun _ _ => rfl)) pa_nil))
        (pa_cons (pe_call GN hr1 rfl gRN FRN.kp bRN .nil pass0 (pa_cons (pv 4) pa_nil))
        (pa_cons (pe_call GR hr2 rfl TT.gRR TT.FRR.kp TT.bRR .nil pass0 (pa_cons (pv 5) pa_nil)) pa_nil))))))), ?_⟩
    refine ⟨_, rfl, x, rfl, hz, fun hF H1 a as s1 hna eA hR => ?_, k1⟩
    obtain ⟨r0, wk, r2, r3, R4⟩ := fault_none hF
    obtain ⟨k3, k4⟩ := k2 r0 wk r2 r3 R4
    obtain ⟨b0, b2, b3, c0, c2, c3⟩ := rows_bound R4
    rw [R4.rows] at hR
    cases hR with
    | cons h0 hR =>
      cases hR with
      | cons h1 hR =>
        cases hR with
        | cons h2 hR =>
          cases hR with
          | cons h3 hR =>
            cases hR
            rename_i a0 a1 a2 a3
            refine ⟨a, _, rfl, SqL.of eA, rfl, _, _, rfl, _, _, rfl, _, _, rfl, _, _, rfl, rfl, ?_⟩
            refine ⟨rfl, ?_⟩
            -- the timetables
            refine ⟨_, rfl, a0, _, rfl, .inl ⟨SqL.of h0, fun aT haT => ?_⟩⟩
            have sT := same_upd (o := .tup (r0.map V.str)) haT
            have eT : (upd H1 aT (.tup (r0.map V.str))) aT = some (.tup (r0.map V.str)) := upd_same
            have s2 := s1.trans sT
            have h1' := sT _ _ h1
            have h2' := sT _ _ h2
            have h3' := sT _ _ h3
            generalize upd H1 aT (.tup (r0.map V.str)) = H2 at sT eT s2 h1' h2' h3'
            -- the keys
            refine ⟨_, rfl, a1, _, 0, .str wk, rfl, rfl, SqL.of h1', at0, wk, numOf wk, rfl, (nw_num R4.hk).1, by have := nw_len R4.hk; omega, ?_⟩
            -- the careful persons
            refine ⟨_, rfl, a2, r2, rfl, SqL.of h2', by omega, R4.h2, fun H4 aC sC haC eC => ?_⟩
            have eT2 := sC _ _ eT
            have s4 := s2.trans sC
            have h3'' := sC _ _ h3'
            -- the reminders
            refine ⟨_, rfl, a3, r3, rfl, SqL.of h3'', by omega, fun t ht => ⟨Nat.le_trans (b3 t ht) (by omega), R4.h3 t ht⟩, fun H6 aR xs sR haR eR hP6 => ?_⟩
            have eT3 := sR _ _ eT2
            have eC3 := sR _ _ eC
            have s6 := s4.trans sR
            -- the house
            intro p dx hp hdx npd
            have sN : Same H6 (upd (upd H6 dx (.own p)) p (.ins CH dx [])) := fun b o e => by
              rw [upd_ne (ne_of_none e hp), upd_ne (ne_of_none e hdx)]; exact e
            refine ⟨p, dx, .ref aT, .int (numOf wk), .ref aC, .ref aR, dStrs r0, .int (numOf wk), dInts (r2.map numOf), dPrs (r3.map remOf), rfl,
              dpSame sN _ _ (.tup (SqT.of eT3) (dpAll_strs r0)), .int _, dpSame sN _ _ (.tup (SqT.of eC3) (dpAll_ints _)), dpSame sN _ _ (.tup (SqT.of eR) (dpAll_prs hP6)), ?_, upd_same, fun hc H7 k7 e7 => ⟨rfl, ?_⟩, fun part i hc => Raised.mono (k4 part i hc) (s6.trans sN)⟩
            · intro ds hds y hy
              cases hds
              obtain ⟨t, ht, rfl⟩ := List.mem_map.mp hy
              exact Nat.le_trans (b0 t ht) (by omega)
            · have s7 : Same H6 H7 := fun b o e => k7 b o (ne_of_none e hp) (sN _ _ e)
              exact k3 hc H7 p (s6.trans s7) (s6.free hp) ⟨⟨dx, aT, aC, aR, xs, e7, SqT.of (s7 _ _ eT3), SqT.of (s7 _ _ eC3), SqT.of (s7 _ _ eR), hP6.mono fun t ys h => s7 _ _ h⟩⟩
end
end Dk

set_option Elab.async false
set_option linter.all false
set_option maxRecDepth 100000
set_option maxHeartbeats 1000000
namespace Dk
open PySem PySem.Spec PyProof.Rows L2 TL
/-! ### valid parts are accepted -/
theorem getD_map {α : Type} (f : α → PyData) {l : List α} {i : Nat} {x : α} (h : l[i]? = some x) : (l.map f).getD i .none = f x := getD_of (by rw [List.getElem?_map, h]; rfl)
theorem pair_lt {α : Type} {R : α → α → Prop} : ∀ {l : List α} {j : Nat} {x y : α}, l.Pairwise R → l[j]? = some x → l[j + 1]? = some y → R x y
  | [], _, _, _, _, h, _ => by simp at h
  | a :: l, 0, x, y, hp, h1, h2 => by
    simp at h1; subst h1
    have h2' : l[0]? = some y := by simpa using h2
    exact (List.pairwise_cons.mp hp).1 y (List.mem_of_getElem? h2')
  | a :: l, j + 1, x, y, hp, h1, h2 => pair_lt (j := j) (List.pairwise_cons.mp hp).2 (by simpa using h1) (by simpa using h2)
theorem below_is {i n : Int} (h0 : 0 ≤ i) (h1 : i < n) : below (.int i) n = true := by
  show (decide ((0 : Int) ≤ i) && decide (i < n)) = true
  rw [decide_eq_true h0, decide_eq_true h1]; rfl
theorem careful_is {cs : List Int} {n : Int} (hp : cs.Pairwise (· < ·)) (hm : ∀ c ∈ cs, (0 : Int) ≤ c ∧ c < n) : chkCareful (dInts cs) n = none := by
  show bad1 _ 0 _ = none
  refine bad1_none.mpr fun j d hd => ?_
  rw [List.getElem?_map] at hd
  cases e : cs[j]? with
  | none => rw [e] at hd; cases hd
  | some c =>
    rw [e] at hd
    have ed : PyData.int c = d := Option.some.inj hd
    subst ed
    have hc := hm c (List.mem_of_getElem? e)
    rw [below_is hc.1 hc.2, Nat.zero_add]
    have : ascI (cs.map PyData.int) j = true := by
      cases j with
      | zero => rfl
      | succ i =>
        have hi : i < cs.length := by have := (List.getElem?_eq_some_iff.mp e).1; omega
        have e0 : cs[i]? = some cs[i] := List.getElem?_eq_getElem hi
        show decide (intOf _ < intOf _) = true
        rw [getD_map _ e0, getD_map _ e]
        exact decide_eq_true (pair_lt hp e0 e)
    rw [this]; rfl
theorem rem_is {rs : List Pr} {per n : Int} (hp : rs.Pairwise plt) (hm : ∀ r ∈ rs, (0 : Int) ≤ r.1 ∧ r.1 < per ∧ (0 : Int) ≤ r.2 ∧ r.2 < n) (h10 : rs.length ≤ 10) : chkRem (dPrs rs) per n = none := by
  show bad1 _ 0 _ = none
  refine bad1_none.mpr fun j d hd => ?_
  rw [List.getElem?_map] at hd
  cases e : rs[j]? with
  | none => rw [e] at hd; cases hd
  | some r =>
    rw [e] at hd
    have ed : prR r = d := Option.some.inj hd
    subst ed
    have hr := hm r (List.mem_of_getElem? e)
    have hj : j < rs.length := (List.getElem?_eq_some_iff.mp e).1
    have h1 : isRemD (prR r) per n = true := by
      show (below (.int r.1) per && below (.int r.2) n) = true
      rw [below_is hr.1 hr.2.1, below_is hr.2.2.1 hr.2.2.2]; rfl
    have h2 : (j == 10) = false := by simp; omega
    rw [h1, Nat.zero_add, h2]
    have : ascP (rs.map prR) j = true := by
      cases j with
      | zero => rfl
      | succ i =>
        have hi : i < rs.length := by omega
        have e0 : rs[i]? = some rs[i] := List.getElem?_eq_getElem hi
        have hlt := pair_lt hp e0 e
        show HT.lexLt _ _ = true
        rw [getD_map _ e0, getD_map _ e]
        generalize rs[i] = q at hlt
        obtain ⟨q1, q2⟩ := q
        obtain ⟨r1, r2⟩ := r
        show (if q1 = r1 then (if q2 = r2 then false else decide (q2 < r2)) else decide (q1 < r1)) = true
        rcases hlt with h | ⟨h, h'⟩
        · have h : q1 < r1 := h
          rw [if_neg (by omega)]; exact decide_eq_true h
        · have h : q1 = r1 := h
          have h' : q2 < r2 := h'
          rw [if_pos h, if_neg (by omega)]; exact decide_eq_true h'
    rw [this]; rfl
theorem parts_is {ts : List Str} {k : Int} {cs : List Int} {rs : List Pr} (h : Parts ts k cs rs) : chkHouse (dStrs ts) (.int k) (dInts cs) (dPrs rs) = none := by
  have h1 : chkTabs (dStrs ts) = none := tabs_is h.tabs h.n1 h.n6
  have h2 : chkKeys (.int k) = none := by unfold chkKeys; rw [if_pos (below_is h.k0 (by have := h.k9; omega))]
  have hl : (lenD (dStrs ts) : Int) = (ts.length : Int) := by show (((ts.map PyData.str).length : Nat) : Int) = _; rw [List.length_map]
  have hp : (perD (dStrs ts) : Int) = (per ts : Int) := by show (per ((ts.map PyData.str).map strOf) : Int) = _; rw [strs_back]
  have h3 : chkCareful (dInts cs) (lenD (dStrs ts) : Int) = none := by rw [hl]; exact careful_is h.cp h.cm
  have h4 : chkRem (dPrs rs) (perD (dStrs ts) : Int) (lenD (dStrs ts) : Int) = none := by rw [hl, hp]; exact rem_is h.rp h.rm h.r10
  unfold chkHouse
  rw [h1]; dsimp only
  rw [h2]; dsimp only
  rw [h3]; dsimp only
  rw [h4]
def spHouseF (K : PySem.W.Frag) (CH : Addr) : Sp := fun vs H Q _ => ∃ (a : Addr) (ts : List Str) (keys : Int) (cs : List Int) (rs : List Pr), vs = [.ref a] ∧ PartsAt H a ts keys cs rs ∧ Parts ts keys cs rs ∧
  ∀ (H' : Hp) (p : Addr), Same H H' → H p = none → HouseAt K CH H' p ts keys cs rs → Q (.ref p) H'
section
variable {P : Program} {w : World} {K : PySem.W.Frag} {mg : Str → Option Value} {base : Heap} {C fI : Addr} {fdI : FuncData} {fII fIB fHO : Addr} {fdII fdIB fdHO : FuncData} {fIT fIR fAs : Addr} {fdIT fdIR fdAs : FuncData}
  {CH fP fT fK fC fR : Addr} {fdP fdT fdK fdC fdR : FuncData} {fH : Addr} {fdH : FuncData} {dvs : List V}
theorem scHouseF : FnScope ["_law_parts_here"] ["_law_parts_here"] (defScope sHouseF) := ⟨rfl, rfl, rfl, by decide +kernel, rfl, by decide +kernel, by decide +kernel⟩
theorem ok_housef {f : Addr} {fd : FuncData} (F : Fun K "_law_house" "_law_house" sHouseF f fd) (T : TxtA mg) (TC : TxtC mg) (TF : TxtF K mg fII fIB fHO fdII fdIB fdHO) (TI : TxtI K mg fIT fIR fAs fdIT fdIR fdAs) (TH : TxtIH K mg C fI fdI)
    (TL' : TxtL K mg CH fP fT fK fC fR fdP fdT fdK fdC fdR)
    (FH : FunD K "__init__" "House.__init__" (defArgs sInit) (defBody sInit) (defScope sInit) dvs [] fH fdH) (bH : Binds K fdH ["self", "tables", "keys", "careful", "reminders"] []) (M : Mk K CH fH) (gH : mg "House" = some (.ref CH)) :
    FnOk P w K mg base CX0 7 f fd ["_law_parts_here"] (spHouseF K CH) := by
  have GH : FnOk P w K mg base (L2.CX P w) 5 fH fdH ["self", "tables", "keys", "careful", "reminders"] (spInit K CH C) := ok_init FH T TC TF TI TH TL'
  refine F.ok scHouseF (fun vs H Q E h => ?_) (fun cdv A outer s H vs Q E hr h => ?_)
  · obtain ⟨a, ts, kk, cs, rs, rfl, _⟩ := h
    rfl
  · obtain ⟨a, ts, kk, cs, rs, rfl, ⟨aT, aC, aR, xs, e1, e2, e3, e4, e5⟩, hp, k⟩ := h
    refine ⟨_, pss_one (ps_ret (pe_make M GH hr rfl gH bH .nil passL (pa_cons (pe_ix ix_tup (pv 0) pe_int (fun _ _ => rfl)) (pa_cons (pe_ix ix_tup (pv 0) pe_int (fun _ _ => rfl)) (pa_cons (pe_ix ix_tup (pv 0) pe_int (fun _ _ => rfl)) (pa_cons (pe_ix ix_tup (pv 0) pe_int (fun _ _ => rfl)) pa_nil)))))), ?_⟩
    refine ⟨_, rfl, a, _, 0, _, rfl, rfl, SqT.of e1, at0, _, rfl, a, _, 1, _, rfl, rfl, SqT.of e1, at1, _, rfl, a, _, 2, _, rfl, rfl, SqT.of e1, at2, _, rfl, a, _, 3, _, rfl, rfl, SqT.of e1, at3, ?_⟩
    intro p dx hpn hdx npd
    have sN : Same H (upd (upd H dx (.own p)) p (.ins CH dx [])) := fun b o e => by
      rw [upd_ne (ne_of_none e hpn), upd_ne (ne_of_none e hdx)]; exact e
    refine ⟨p, dx, .ref aT, .int kk, .ref aC, .ref aR, dStrs ts, .int kk, dInts cs, dPrs rs, rfl,
      dpSame sN _ _ (.tup (SqT.of e2) (dpAll_strs ts)), .int _, dpSame sN _ _ (.tup (SqT.of e3) (dpAll_ints _)), dpSame sN _ _ (.tup (SqT.of e4) (dpAll_prs e5)), ?_, upd_same, fun hc H7 k7 e7 => ⟨rfl, ?_⟩, fun part i hc => ?_⟩
    · intro ds hds y hy
      cases hds
      obtain ⟨t, ht, rfl⟩ := List.mem_map.mp hy
      show t.length ≤ 100000
      have := (hp.tabs t ht).pos.2
      rw [len_tl t]; omega
    · have s7 : Same H H7 := fun b o e => k7 b o (ne_of_none e hpn) (sN _ _ e)
      exact k H7 p s7 hpn ⟨⟨dx, aT, aC, aR, xs, e7, SqT.of (s7 _ _ e2), SqT.of (s7 _ _ e3), SqT.of (s7 _ _ e4), e5.mono fun t ys h => s7 _ _ h⟩⟩
    · rw [parts_is hp] at hc; cases hc
end
end Dk

set_option Elab.async false
set_option linter.all false
set_option maxRecDepth 100000
set_option maxHeartbeats 1000000
namespace Dk
open PySem PySem.Spec PyProof.Rows L2 TL
/-! ### equal data are found equal -/
def Flat : Nat → PyData → Prop
  | _, .none => True
  | _, .bool _ => True
  | _, .int _ => True
  | _, .str _ => True
  | 0, .list _ => False
  | 0, .tuple _ => False
  | n + 1, .list ds => ds.length ≤ 1000 ∧ ∀ d ∈ ds, Flat n d
  | n + 1, .tuple ds => ds.length ≤ 1000 ∧ ∀ d ∈ ds, Flat n d
  | _, .dict _ => False
def spE (K : PySem.W.Frag) : Nat → Sp
  | 0 => fun _ _ _ _ => False
  | n + 1 => fun vs H Q _ => ∃ (a b : V) (d : PyData), vs = [a, b] ∧ Dp K H a d ∧ Dp K H b d ∧ Flat n d ∧ ∀ H', Same H H' → Q (.bl true) H'
abbrev nEq : List Str := ["_law_actual", "_law_expected", "_law_k"]
theorem all_true {n : Nat} : ((List.replicate n true).map V.bl) = List.replicate n (V.bl true) := List.map_replicate ..
section
variable {P : Program} {w : World} {K : PySem.W.Frag} {mg : Str → Option Value} {base : Heap} {fII fIB fHO : Addr} {fdII fdIB fdHO : FuncData}
theorem scEqual : FnScope nEq ["_law_actual", "_law_expected"] (defScope sEqual) := ⟨rfl, rfl, rfl, by decide +kernel, rfl, by decide +kernel, by decide +kernel⟩
theorem ok_equal {f : Addr} {fd : FuncData} (F : Fun K "_law_equal" "_law_equal" sEqual f fd) (b : Binds K fd ["_law_actual", "_law_expected"] []) (g : mg "_law_equal" = some (.ref f)) (T : TxtA mg) (TF : TxtF K mg fII fIB fHO fdII fdIB fdHO) (gl : mg "list" = none) :
    ∀ n, FnOk P w K mg base CX0 (n + 1) f fd ["_law_actual", "_law_expected"] (spE K n)
  | 0 => F.ok scEqual (fun vs H Q E h => h.elim) (fun cdv A outer s H vs Q E hr h => h.elim)
  | n + 1 => by
    have G : FnOk P w K mg base CX0 (n + 1) f fd ["_law_actual", "_law_expected"] (spE K n) := ok_equal F b g T TF gl n
    refine F.ok scEqual (fun vs H Q E h => ?_) (fun cdv A outer s H vs Q E hr h => ?_)
    · obtain ⟨x, y, d, rfl, _⟩ := h
      rfl
    · obtain ⟨x, y, d, rfl, hx, hy, hf, k⟩ := h
      refine ⟨_, pss_cons (ps_if (pt_cmp (pc_isN (pv 1))) (pss_one (ps_ret (pe_cmp (pc_isN (pv 0)) rfl))) pss_nil)
        (pss_cons (ps_if (pt_val (pe_callB call_isi (by rfl) TF.isinstance (by decide +kernel) (pa_cons (pv 1) (pa_cons (pe_bltn (v := .ty "bool") (by rfl) TF.bool (by decide +kernel) rfl) pa_nil))))
          (pss_one (ps_ret (pe_and (pe_callB call_isi (by rfl) TF.isinstance (by decide +kernel) (pa_cons (pv 0) (pa_cons (pe_bltn (v := .ty "bool") (by rfl) TF.bool (by decide +kernel) rfl) pa_nil))) (pe_one (pe_cmpR op_eq (pv 0) (pv 1) (nomark _)))))) pss_nil)
        (pss_cons (ps_if (pt_val (pe_callB call_isi (by rfl) TF.isinstance (by decide +kernel) (pa_cons (pv 1) (pa_cons (pe_bltn (v := .ty "int") (by rfl) TF.int (by decide +kernel) rfl) pa_nil))))
          (pss_one (ps_ret (pe_and (pe_callB call_isi (by rfl) TF.isinstance (by decide +kernel) (pa_cons (pv 0) (pa_cons (pe_bltn (v := .ty "int") (by rfl) TF.int (by decide +kernel) rfl) pa_nil)))
            (pe_and (pe_not (pe_callB call_isi (by rfl) TF.isinstance (by decide +kernel) (pa_cons (pv 0) (pa_cons (pe_bltn (v := .ty "bool") (by rfl) TF.bool (by decide +kernel) rfl) pa_nil)))) (pe_one (pe_cmpR op_eq (pv 0) (pv 1) (nomark _))))))) pss_nil)
        (pss_cons (ps_if (pt_val (pe_callB call_isi (by rfl) TF.isinstance (by decide +kernel) (pa_cons (pv 1) (pa_cons (pe_bltn (v := .ty "str") (by rfl) TF.str (by decide +kernel) rfl) pa_nil))))
          (pss_one (ps_ret (pe_and (pe_callB call_isi (by rfl) TF.isinstance (by decide +kernel) (pa_cons (pv 0) (pa_cons (pe_bltn (v := .ty "str") (by rfl) TF.str (by decide +kernel) rfl) pa_nil))) (pe_one (pe_cmpR op_eq (pv 0) (pv 1) (nomark _)))))) pss_nil)
        (pss_cons (ps_if (pt_cmpR op_ne (pe_callB call_isi (by rfl) TF.isinstance (by decide +kernel) (pa_cons (pv 1) (pa_cons (pe_bltn (v := .ty "tuple") (by rfl) TF.tuple (by decide +kernel) rfl) pa_nil))) (pe_callB call_isi (by rfl) TF.isinstance (by decide +kernel) (pa_cons (pv 0) (pa_cons (pe_bltn (v := .ty "tuple") (by rfl) TF.tuple (by decide +kernel) rfl) pa_nil))) (nomark _)) (pss_one (ps_ret pe_bl)) pss_nil)
        (pss_cons (ps_if (pt_cmpR op_ne (pe_callB call_isi (by rfl) TF.isinstance (by decide +kernel) (pa_cons (pv 1) (pa_cons (pe_bltn (v := .ty "list") (by rfl) gl (by decide +kernel) rfl) pa_nil))) (pe_callB call_isi (by rfl) TF.isinstance (by decide +kernel) (pa_cons (pv 0) (pa_cons (pe_bltn (v := .ty "list") (by rfl) gl (by decide +kernel) rfl) pa_nil))) (nomark _)) (pss_one (ps_ret pe_bl)) pss_nil)
        (pss_cons (ps_if (pt_cmpR op_ne (pe_callB call_len_seq (by rfl) T.len PySem.boot_len (pa_cons (pv 0) pa_nil)) (pe_callB call_len_seq (by rfl) T.len PySem.boot_len (pa_cons (pv 1) pa_nil)) (nomark _)) (pss_one (ps_ret pe_bl)) pss_nil)
        (pss_one (ps_ret (pe_callB (cr_all rfl) (by rfl) TF.all (by decide +kernel) (pa_cons (pe_lc (own := [("_law_k", 2)]) (g := gName 2) (te := tCall (spE K n) [] E0 (tCons (tOp (rIx K) (tVar 0) (tVar 2)) (tCons (tOp (rIx K) (tVar 1) (tVar 2)) tNil))) (by rfl) scEqual.nd
            (pi_range1 rfl T.range (pa_cons (pe_callB call_len_seq (by rfl) T.len PySem.boot_len (pa_cons (pv 1) pa_nil)) pa_nil)) (blkOk_by (N := nEq) (sc := defScope sEqual) (by decide +kernel))
            (fun _ _ _ _ _ => pg_name (i := 2) scEqual.nd rfl (Or.inl rfl)) (fun _ _ _ _ _ => pts_nil)
            (fun _ _ _ _ _ => by exact pe_call G hr rfl g F.kp b .nil pass0 (pa_cons (pe_ix ix_seq (pv 0) (pv 2) (fun _ _ => rfl)) (pa_cons (pe_ix ix_seq (pv 1) (pv 2) (fun _ _ => rfl)) pa_nil)))) pa_nil)))))))))), ?_⟩
      have sc : ∀ {A B : Prop}, A → (if true = true then A else B) := fun h => by rw [if_pos rfl]; exact h
      cases hy with
      | non =>
        cases hx
        refine ⟨_, rfl, _, rfl, iteT ⟨_, rfl, ?_⟩⟩
        exact k H (Same.refl H)
      | bl c =>
        cases hx
        refine ⟨_, rfl, _, rfl, iteF ?_⟩
        refine ⟨_, rfl, _, _, _, _, _, rfl, .ty "bool", .base (.bl c), kit_ty (kit_bool (.bool c)), _, rfl, iteT ?_⟩
        refine ⟨_, rfl, _, _, _, _, _, rfl, .ty "bool", .base (.bl c), kit_ty (kit_bool (.bool c)), _, rfl, iteT ⟨_, rfl, _, rfl, rfl, ?_⟩⟩
        have e : decide (V.bl c = V.bl c) = true := decide_eq_true rfl
        have := k H (Same.refl H)
        rw [← e] at this; exact this
      | int i =>
        cases hx
        refine ⟨_, rfl, _, rfl, iteF ?_⟩
        refine ⟨_, rfl, _, _, _, _, _, rfl, .ty "bool", .base (.int i), kit_ty (kit_bool (.int i)), _, rfl, iteF ?_⟩
        refine ⟨_, rfl, _, _, _, _, _, rfl, .ty "int", .base (.int i), kit_ty (kit_int (.int i)), _, rfl, iteT ?_⟩
        refine ⟨_, rfl, _, _, _, _, _, rfl, .ty "int", .base (.int i), kit_ty (kit_int (.int i)), _, rfl, iteT ?_⟩
        refine ⟨_, rfl, _, _, _, _, _, rfl, .ty "bool", .base (.int i), kit_ty (kit_bool (.int i)), _, rfl, _, rfl, iteT ⟨_, rfl, _, rfl, rfl, ?_⟩⟩
        have e : decide (V.int i = V.int i) = true := decide_eq_true rfl
        have := k H (Same.refl H)
        rw [← e] at this; exact this
      | str t =>
        cases hx
        refine ⟨_, rfl, _, rfl, iteF ?_⟩
        refine ⟨_, rfl, _, _, _, _, _, rfl, .ty "bool", .base (.str t), kit_ty (kit_bool (.str t)), _, rfl, iteF ?_⟩
        refine ⟨_, rfl, _, _, _, _, _, rfl, .ty "int", .base (.str t), kit_ty (kit_int (.str t)), _, rfl, iteF ?_⟩
        refine ⟨_, rfl, _, _, _, _, _, rfl, .ty "str", .base (.str t), kit_ty (kit_str (.str t)), _, rfl, iteT ?_⟩
        refine ⟨_, rfl, _, _, _, _, _, rfl, .ty "str", .base (.str t), kit_ty (kit_str (.str t)), _, rfl, iteT ⟨_, rfl, _, rfl, rfl, ?_⟩⟩
        have e : decide (V.str t = V.str t) = true := decide_eq_true rfl
        have := k H (Same.refl H)
        rw [← e] at this; exact this
      | @lst a ys ds hs ha =>
        cases hx with
        | @lst a2 xs _ hs2 ha2 =>
          cases n with
          | zero => exact hf.elim
          | succ n =>
            have l1 := dpAll_len ha
            have l2 := dpAll_len ha2
            have hz : ds.length ≤ 1000 := hf.1
            refine ⟨_, rfl, _, rfl, iteF ?_⟩
            refine ⟨_, rfl, _, _, _, _, _, rfl, .ty "bool", tyx (.lst hs ha), kit_ty (kit_bool (.list ds)), _, rfl, iteF ?_⟩
            refine ⟨_, rfl, _, _, _, _, _, rfl, .ty "int", tyx (.lst hs ha), kit_ty (kit_int (.list ds)), _, rfl, iteF ?_⟩
            refine ⟨_, rfl, _, _, _, _, _, rfl, .ty "str", tyx (.lst hs ha), kit_ty (kit_str (.list ds)), _, rfl, iteF ?_⟩
            refine ⟨_, rfl, _, _, _, _, _, rfl, .ty "tuple", tyx (.lst hs ha), kit_ty (kit_tup (.list ds)), _, rfl, _, _, _, _, _, rfl, .ty "tuple", tyx (.lst hs2 ha2), kit_ty (kit_tup (.list ds)), rfl, _, rfl, ?_⟩
            refine ⟨_, rfl, _, _, _, _, _, rfl, .ty "list", tyx (.lst hs ha), kit_ty (kit_lst (.list ds)), _, rfl, _, _, _, _, _, rfl, .ty "list", tyx (.lst hs2 ha2), kit_ty (kit_lst (.list ds)), rfl, _, rfl, ?_⟩
            refine ⟨_, rfl, a2, xs, rfl, .inl hs2, _, rfl, a, ys, rfl, .inl hs, rfl, _, rfl, ?_⟩
            rw [l1, l2]
            have e : (!decide (V.int ((ds.length : Nat) : Int) = V.int ((ds.length : Nat) : Int))) = false := by rw [decide_eq_true rfl]; rfl
            rw [e]
            refine iteF ⟨_, rfl, a, ys, rfl, .inl hs, _, rfl, by omega, by omega, fun D hD => lc_range (lo := 0) (n := ((ys.length : Nat) : Int).toNat)
              (fun i H3 => Same H H3 ∧ H3 D = some (.lst ((List.replicate i true).map V.bl))) ⟨same_upd hD, upd_same⟩ ?_ ?_⟩
            · rintro i H3 hi ⟨s3, eD⟩
              have hi' : i < ds.length := by omega
              obtain ⟨y, hy⟩ : ∃ y, ys[i]? = some y := ⟨_, List.getElem?_eq_getElem (by omega)⟩
              obtain ⟨x, hx⟩ : ∃ x, xs[i]? = some x := ⟨_, List.getElem?_eq_getElem (by omega)⟩
              obtain ⟨d1, ed1, hd1⟩ := dpAll_get ha hy
              obtain ⟨d2, ed2, hd2⟩ := dpAll_get ha2 hx
              rw [ed1] at ed2
              cases ed2
              refine ⟨rfl, _, rfl, _, rfl, .inl ⟨a2, xs, _, x, rfl, rfl, s3.seq hs2, (by rw [Int.zero_add]; exact atI_nat hx), ?_⟩⟩
              refine ⟨_, rfl, _, rfl, .inl ⟨a, ys, _, y, rfl, rfl, s3.seq hs, (by rw [Int.zero_add]; exact atI_nat hy), ?_⟩⟩
              refine ⟨x, y, d1, rfl, dpSame s3 _ _ hd2, dpSame s3 _ _ hd1, hf.2 d1 (List.mem_of_getElem? ed1), fun H4 s4 => ⟨_, s4 _ _ eD, ?_, fun b o eb => ?_, ?_⟩⟩
              · rw [List.length_map, List.length_replicate]; exact Nat.lt_of_le_of_lt (by omega : i ≤ 1000) (by decide)
              · rw [upd_ne (ne_of_none eb hD)]; exact s4 _ _ (s3 _ _ eb)
              · rw [upd_same, List.replicate_succ', List.map_append]; rfl
            · rintro H3 ⟨s3, eD⟩
              refine ⟨D, _, rfl, SqL.of eD, ?_⟩
              have e2 : (List.replicate ((ys.length : Nat) : Int).toNat true).all id = true := List.all_eq_true.mpr fun z hz => by rw [List.eq_of_mem_replicate hz]; rfl
              rw [e2]
              exact k _ s3
      | @tup a ys ds hs ha =>
        cases hx with
        | @tup a2 xs _ hs2 ha2 =>
          cases n with
          | zero => exact hf.elim
          | succ n =>
            have l1 := dpAll_len ha
            have l2 := dpAll_len ha2
            have hz : ds.length ≤ 1000 := hf.1
            refine ⟨_, rfl, _, rfl, iteF ?_⟩
            refine ⟨_, rfl, _, _, _, _, _, rfl, .ty "bool", tyx (.tup hs ha), kit_ty (kit_bool (.tuple ds)), _, rfl, iteF ?_⟩
            refine ⟨_, rfl, _, _, _, _, _, rfl, .ty "int", tyx (.tup hs ha), kit_ty (kit_int (.tuple ds)), _, rfl, iteF ?_⟩
            refine ⟨_, rfl, _, _, _, _, _, rfl, .ty "str", tyx (.tup hs ha), kit_ty (kit_str (.tuple ds)), _, rfl, iteF ?_⟩
            refine ⟨_, rfl, _, _, _, _, _, rfl, .ty "tuple", tyx (.tup hs ha), kit_ty (kit_tup (.tuple ds)), _, rfl, _, _, _, _, _, rfl, .ty "tuple", tyx (.tup hs2 ha2), kit_ty (kit_tup (.tuple ds)), rfl, _, rfl, ?_⟩
            refine ⟨_, rfl, _, _, _, _, _, rfl, .ty "list", tyx (.tup hs ha), kit_ty (kit_lst (.tuple ds)), _, rfl, _, _, _, _, _, rfl, .ty "list", tyx (.tup hs2 ha2), kit_ty (kit_lst (.tuple ds)), rfl, _, rfl, ?_⟩
            refine ⟨_, rfl, a2, xs, rfl, .inr hs2, _, rfl, a, ys, rfl, .inr hs, rfl, _, rfl, ?_⟩
            rw [l1, l2]
            have e : (!decide (V.int ((ds.length : Nat) : Int) = V.int ((ds.length : Nat) : Int))) = false := by rw [decide_eq_true rfl]; rfl
            rw [e]
            refine iteF ⟨_, rfl, a, ys, rfl, .inr hs, _, rfl, by omega, by omega, fun D hD => lc_range (lo := 0) (n := ((ys.length : Nat) : Int).toNat)
              (fun i H3 => Same H H3 ∧ H3 D = some (.lst ((List.replicate i true).map V.bl))) ⟨same_upd hD, upd_same⟩ ?_ ?_⟩
            · rintro i H3 hi ⟨s3, eD⟩
              have hi' : i < ds.length := by omega
              obtain ⟨y, hy⟩ : ∃ y, ys[i]? = some y := ⟨_, List.getElem?_eq_getElem (by omega)⟩
              obtain ⟨x, hx⟩ : ∃ x, xs[i]? = some x := ⟨_, List.getElem?_eq_getElem (by omega)⟩
              obtain ⟨d1, ed1, hd1⟩ := dpAll_get ha hy
              obtain ⟨d2, ed2, hd2⟩ := dpAll_get ha2 hx
              rw [ed1] at ed2
              cases ed2
              refine ⟨rfl, _, rfl, _, rfl, .inr (.inl ⟨a2, xs, _, x, rfl, rfl, sSqT s3 hs2, (by rw [Int.zero_add]; exact atI_nat hx), ?_⟩)⟩
              refine ⟨_, rfl, _, rfl, .inr (.inl ⟨a, ys, _, y, rfl, rfl, sSqT s3 hs, (by rw [Int.zero_add]; exact atI_nat hy), ?_⟩)⟩
              refine ⟨x, y, d1, rfl, dpSame s3 _ _ hd2, dpSame s3 _ _ hd1, hf.2 d1 (List.mem_of_getElem? ed1), fun H4 s4 => ⟨_, s4 _ _ eD, ?_, fun b o eb => ?_, ?_⟩⟩
              · rw [List.length_map, List.length_replicate]; exact Nat.lt_of_le_of_lt (by omega : i ≤ 1000) (by decide)
              · rw [upd_ne (ne_of_none eb hD)]; exact s4 _ _ (s3 _ _ eb)
              · rw [upd_same, List.replicate_succ', List.map_append]; rfl
            · rintro H3 ⟨s3, eD⟩
              refine ⟨D, _, rfl, SqL.of eD, ?_⟩
              have e2 : (List.replicate ((ys.length : Nat) : Int).toNat true).all id = true := List.all_eq_true.mpr fun z hz => by rw [List.eq_of_mem_replicate hz]; rfl
              rw [e2]
              exact k _ s3
end
end Dk

set_option Elab.async false
set_option linter.all false
set_option maxRecDepth 100000
set_option maxHeartbeats 4000000
namespace Dk
open PySem PySem.Spec PyProof.Rows L2 TL
/-! ### the bytes of a house -/
def hBit (c : Nat) : Int := if c = 104 then 1 else 0
def tabB (t : Str) : List Int := ((tl t).length : Int) :: (tl t).map hBit
def prB (r : Pr) : List Int := [r.1, r.2]
def encT (ts : List Str) : List Int := [75, (ts.length : Int)] ++ ts.flatMap tabB
def encC (ts : List Str) (kk : Int) (cs : List Int) : List Int := (encT ts ++ [kk]) ++ ((cs.length : Int) :: cs)
def encB (ts : List Str) (kk : Int) (cs : List Int) (rs : List Pr) : List Int := (encC ts kk cs ++ [(rs.length : Int)]) ++ rs.flatMap prB
def enc (ts : List Str) (kk : Int) (cs : List Int) (rs : List Pr) : List Int := encB ts kk cs rs ++ [(encB ts kk cs rs).sum % 256]
def ohS : Str := Str.ofString "oh"
theorem tl_oh : tl ohS = [111, 104] := by decide +kernel
theorem occ_oh {c : Nat} (h : c = 104 ∨ c = 111) : ∃ i rest, Builtin.Str.occurrences ohS ⟨#[c]⟩ 0 ohS.length 1 = i :: rest ∧ ((i : Nat) : Int) = hBit c := by
  rcases h with rfl | rfl
  · exact ⟨1, [], by decide +kernel, rfl⟩
  · exact ⟨0, [], by decide +kernel, rfl⟩
theorem take_flat {α β : Type} {f : α → List β} {l : List α} {i : Nat} {x : α} (h : l[i]? = some x) : (l.take (i + 1)).flatMap f = (l.take i).flatMap f ++ f x := by
  rw [take_more h, List.flatMap_append]
  simp
theorem flat_len {α β : Type} {f : α → List β} {m : Nat} : ∀ {l : List α}, (∀ x ∈ l, (f x).length ≤ m) → (l.flatMap f).length ≤ l.length * m
  | [], _ => by simp
  | x :: l, h => by
    rw [List.flatMap_cons, List.length_append, List.length_cons, Nat.succ_mul]
    have := flat_len (f := f) (m := m) (l := l) fun y hy => h y (List.mem_cons_of_mem _ hy)
    have := h x (List.mem_cons_self ..)
    omega
theorem tabB_len {ts : List Str} (h : Tabs ts) : ∀ t ∈ ts, (tabB t).length ≤ 25 := fun t ht => by
  unfold tabB
  rw [List.length_cons, List.length_map]
  have := (h t ht).pos.2
  omega
theorem encT_len {ts : List Str} (h : Tabs ts) (h6 : ts.length ≤ 6) : (encT ts).length ≤ 152 := by
  unfold encT
  rw [List.length_append]
  have := flat_len (f := tabB) (tabB_len h)
  show 2 + _ ≤ _
  have : ts.length * 25 ≤ 150 := by omega
  omega
theorem up_le6 {n : Nat} {cs : List Int} (hp : cs.Pairwise (· < ·)) (hm : ∀ c ∈ cs, (0 : Int) ≤ c ∧ c < (n : Int)) (h6 : n ≤ 6) : cs.length ≤ 6 := by
  have key : ∀ (l : List Int) (a : Int), l.Pairwise (· < ·) → (∀ c ∈ l, a ≤ c ∧ c < (n : Int)) → a ≤ (n : Int) → (l.length : Int) ≤ (n : Int) - a := by
    intro l
    induction l with
    | nil => intro a _ _ h; simp; omega
    | cons x l ih =>
      intro a hp hm ha
      have hx := hm x (List.mem_cons_self ..)
      have := ih (x + 1) (List.pairwise_cons.mp hp).2 (fun c hc => ⟨by have := (List.pairwise_cons.mp hp).1 c hc; omega, (hm c (List.mem_cons_of_mem _ hc)).2⟩) (by omega)
      rw [List.length_cons]
      omega
  have := key cs 0 hp hm (by omega)
  omega
theorem encB_len {ts : List Str} {kk : Int} {cs : List Int} {rs : List Pr} (h : Parts ts kk cs rs) : (encC ts kk cs).length ≤ 160 ∧ (encB ts kk cs rs).length ≤ 200 := by
  have h1 := encT_len h.tabs h.n6
  have h2 := up_le6 h.cp h.cm h.n6
  have h3 : (rs.flatMap prB).length ≤ rs.length * 2 := flat_len fun r _ => Nat.le_refl 2
  have h4 := h.r10
  have h5 : (encC ts kk cs).length = (encT ts).length + 1 + (cs.length + 1) := by
    unfold encC
    rw [List.length_append, List.length_append, List.length_cons]; rfl
  have h6 : (encB ts kk cs rs).length = (encC ts kk cs).length + 1 + (rs.flatMap prB).length := by
    unfold encB
    rw [List.length_append, List.length_append]; rfl
  omega
/-! ### persons, checksum -/
abbrev rSIdx : V → List V → Hp → VK → Prop := fun x xs H Q => ∃ a b i rest, x = .str a ∧ xs = [.str b] ∧ Builtin.Str.occurrences a b 0 a.length 1 = i :: rest ∧ Q (.int (i : Nat)) H
def spPers (K : PySem.W.Frag) (CH : Addr) : Sp := fun vs H Q _ => ∃ (p : Addr) (ts : List Str) (k : Int) (cs : List Int) (rs : List Pr), vs = [.ref p] ∧ HouseAt K CH H p ts k cs rs ∧ Q (.int (ts.length : Int)) H
def spSum (K : PySem.W.Frag) : Sp := fun vs H Q _ => ∃ (a : Addr) (ns : List Int), vs = [.ref a] ∧ SqL K H a (ns.map V.int) ∧ Q (.int (ns.sum % 256)) H
def spEnc (K : PySem.W.Frag) (CH : Addr) : Sp := fun vs H Q _ => ∃ (p : Addr) (ts : List Str) (k : Int) (cs : List Int) (rs : List Pr), vs = [.ref p] ∧ HouseAt K CH H p ts k cs rs ∧ Parts ts k cs rs ∧ ∀ (H' : Hp) (a : Addr), Same H H' → H a = none → H' a = some (.lst ((enc ts k cs rs).map V.int)) → Q (.ref a) H'
structure TxtEn (K : PySem.W.Frag) (mg : Str → Option Value) (CH pPs gPs fSm : Addr) (fdPs fdSm : FuncData) : Prop where
  poPs : PropOf K CH "persons" pPs gPs
  FPs : Fun K "persons" "House.persons" sPersonsP gPs fdPs
  bPs : Binds K fdPs ["self"] []
  gSm : mg "checksum" = some (.ref fSm)
  FSm : Fun K "checksum" "checksum" sChksum fSm fdSm
  bSm : Binds K fdSm ["code"] []
  header : ∃ t, mg "HEADER" = some (.int 75 t)
  coded : ∃ t, mg "CODED_LETTERS" = some (.str ohS t)
  sum : mg "sum" = none
section
variable {P : Program} {w : World} {K : PySem.W.Frag} {mg : Str → Option Value} {base : Heap} {CH fP fT fK fC fR : Addr} {fdP fdT fdK fdC fdR : FuncData} {pPs gPs fSm : Addr} {fdPs fdSm : FuncData}
theorem scPers : FnScope ["self"] ["self"] (defScope sPersonsP) := ⟨rfl, rfl, rfl, by decide +kernel, rfl, by decide +kernel, by decide +kernel⟩
theorem ok_pers (N : TxtEn K mg CH pPs gPs fSm fdPs fdSm) (TL' : TxtL K mg CH fP fT fK fC fR fdP fdT fdK fdC fdR) (T : TxtA mg) : FnOk P w K mg base CX0 1 gPs fdPs ["self"] (spPers K CH) := by
  refine N.FPs.ok scPers (fun vs H Q E h => ?_) (fun cdv A outer s H vs Q E hr h => ?_)
  · obtain ⟨p, ts, k, cs, rs, rfl, _⟩ := h
    rfl
  · obtain ⟨p, ts, kk, cs, rs, rfl, ⟨dx, aT, aC, aR, xs, e1, e2, e3, e4, e5⟩, k⟩ := h
    refine ⟨_, pss_one (ps_ret (pe_callB call_len_seq (by rfl) T.len PySem.boot_len (pa_cons (pe_fld (pv 0) rfl) pa_nil))), ?_⟩
    refine ⟨_, rfl, p, CH, dx, _, _, rfl, e1, TL'.cl, TL'.nT, hf_tables _ _ _ _, aT, _, rfl, .inr e2, ?_⟩
    rw [List.length_map]
    exact k
theorem scSum : FnScope ["code"] ["code"] (defScope sChksum) := ⟨rfl, rfl, rfl, by decide +kernel, rfl, by decide +kernel, by decide +kernel⟩
theorem ok_sum (N : TxtEn K mg CH pPs gPs fSm fdPs fdSm) : FnOk P w K mg base CX0 1 fSm fdSm ["code"] (spSum K) := by
  refine N.FSm.ok scSum (fun vs H Q E h => ?_) (fun cdv A outer s H vs Q E hr h => ?_)
  · obtain ⟨a, ns, rfl, _⟩ := h
    rfl
  · obtain ⟨a, ns, rfl, hS, k⟩ := h
    refine ⟨_, pss_one (ps_ret (pe_op op_mod (pe_callB (cr_sum rfl) (by rfl) N.sum (by decide +kernel) (pa_cons (pv 0) pa_nil)) pe_int)), ?_⟩
    exact ⟨_, rfl, a, ns, rfl, hS, _, _, rfl, rfl, by show (0 : Int) < 256; decide, k⟩
abbrev nEnc : List Str := ["house", "code", "table", "tick", "person", "letter"]
theorem scEnc : FnScope nEnc ["house"] (defScope sEncode) := ⟨rfl, rfl, rfl, by decide +kernel, rfl, by decide +kernel, by decide +kernel⟩
theorem ok_encode {f : Addr} {fd : FuncData} (F : Fun K "encode" "encode" sEncode f fd) (N : TxtEn K mg CH pPs gPs fSm fdPs fdSm) (TL' : TxtL K mg CH fP fT fK fC fR fdP fdT fdK fdC fdR) (T : TxtA mg) : FnOk P w K mg base CX0 3 f fd ["house"] (spEnc K CH) := by
  have GP : FnOk P w K mg base CX0 1 gPs fdPs ["self"] (spPers K CH) := ok_pers N TL' T
  have GS : FnOk P w K mg base CX0 1 fSm fdSm ["code"] (spSum K) := ok_sum N
  obtain ⟨t1, eH⟩ := N.header
  obtain ⟨t2, eO⟩ := N.coded
  refine F.ok scEnc (fun vs H Q E h => ?_) (fun cdv A outer s H vs Q E hr h => ?_)
  · obtain ⟨p, ts, k, cs, rs, rfl, _⟩ := h
    rfl
  · obtain ⟨p, ts, kk, cs, rs, rfl, hA, hP, k⟩ := h
    obtain ⟨dx, aT, aC, aR, xs, e1, e2, e3, e4, e5⟩ := id hA.ex
    have hr1 : Room 1 (A.deeper (envOfC (Str.ofString "encode") (defScope sEncode) s.heap.objs.size f cdv)) := hr.mono (by decide)
    have hr2 : Room 2 (A.deeper (envOfC (Str.ofString "encode") (defScope sEncode) s.heap.objs.size f cdv)) := hr.mono (by decide)
    refine ⟨_, pss_cons (ps_set (i := 1) scEnc.nd rfl (.inl rfl) (pe_lst (pa_cons (pe_glob (v := .int 75) rfl eH ⟨_, rfl⟩) (pa_cons (pe_prop (pv 0) TL'.cl N.poPs GP hr2 N.bPs .nil pass0 rfl) pa_nil))))
      (pss_cons (ps_for PassesOwn.never rfl (pi_tup (pe_fld (pv 0) rfl)) (pg_name (i := 2) scEnc.nd rfl (.inl rfl))
        (pss_cons (ps_expr (pe_bm PySem.F.plainAttrs_list PySem.F.slot_list_append PySem.F.type_list_append mt_append (pv 1) (pa_cons (pe_callB call_len_str (by rfl) T.len PySem.boot_len (pa_cons (pv 2) pa_nil)) pa_nil)))
        (pss_one (ps_expr (pe_bm PySem.F.plainAttrs_list PySem.F.slot_list_extend PySem.F.type_list_extend mt_extend (pv 1) (pa_cons
          (pe_lc (own := [("letter", 5)]) (g := gName 5) (te := tBM K "str" rSIdx (tC (.str ohS)) (tCons (tVar 5) tNil)) (by rfl) scEnc.nd (pi_str (pv 2)) (blkOk_by (N := nEnc) (sc := defScope sEncode) (by decide +kernel)) (fun _ _ _ _ _ => pg_name (i := 5) scEnc.nd rfl (Or.inl rfl)) (fun _ _ _ _ _ => pts_nil)
            (fun _ _ _ _ _ => by exact pe_bm PySem.F.plainAttrs_str PySem.F.slot_str_index PySem.F.type_str_index mt_sindex (pe_glob (v := .str ohS) rfl eO ⟨_, rfl⟩) (pa_cons (pv 5) pa_nil))) pa_nil))))))
      (pss_cons (ps_expr (pe_bm PySem.F.plainAttrs_list PySem.F.slot_list_append PySem.F.type_list_append mt_append (pv 1) (pa_cons (pe_fld (pv 0) rfl) pa_nil)))
      (pss_cons (ps_expr (pe_bm PySem.F.plainAttrs_list PySem.F.slot_list_extend PySem.F.type_list_extend mt_extend (pv 1) (pa_cons (pe_lst (pa_cons (pe_callB call_len_seq (by rfl) T.len PySem.boot_len (pa_cons (pe_fld (pv 0) rfl) pa_nil)) (StX.pa_star (pe_fld (pv 0) rfl) pa_nil))) pa_nil)))
      (pss_cons (ps_expr (pe_bm PySem.F.plainAttrs_list PySem.F.slot_list_append PySem.F.type_list_append mt_append (pv 1) (pa_cons (pe_callB call_len_seq (by rfl) T.len PySem.boot_len (pa_cons (pe_fld (pv 0) rfl) pa_nil)) pa_nil)))
      (pss_cons (ps_for PassesOwn.never rfl (pi_tup (pe_fld (pv 0) rfl)) (pg_tup rfl (pgs_cons (pg_name (i := 3) scEnc.nd rfl (.inl rfl)) (pgs_cons (pg_name (i := 4) scEnc.nd rfl (.inl rfl)) pgs_nil)))
        (pss_one (ps_expr (pe_bm PySem.F.plainAttrs_list PySem.F.slot_list_extend PySem.F.type_list_extend mt_extend (pv 1) (pa_cons (pe_lst (pa_cons (pv 3) (pa_cons (pv 4) pa_nil))) pa_nil)))))
      (pss_one (ps_ret (pe_lst (StX.pa_star (pv 1) (pa_cons (pe_call GS hr1 rfl N.gSm N.FSm.kp N.bSm .nil pass0 (pa_cons (pv 1) pa_nil)) pa_nil))))))))))
      , ?_⟩
    have n6 := hP.n6
    have lc6 := up_le6 hP.cp hP.cm n6
    obtain ⟨lC, lB⟩ := encB_len hP
    refine ⟨_, rfl, p, dx, _, rfl, e1, p, ts, kk, cs, rs, rfl, hA, by show 2 ≤ sizeLine; decide, fun q hq => ?_⟩
    have s1 := same_upd (o := .lst [.int 75, .int (ts.length : Int)]) hq
    have eq1 : (upd H q (.lst [.int 75, .int (ts.length : Int)])) q = some (.lst (([75, (ts.length : Int)] : List Int).map V.int)) := upd_same
    generalize upd H q (.lst [.int 75, .int (ts.length : Int)]) = H1 at s1 eq1
    have npq : p ≠ q := ne_of_none e1 hq
    have keep : ∀ {H' : Hp}, Kp q H1 H' → Same H H' := fun k b o e => k _ _ (ne_of_none e hq) (s1 _ _ e)
    -- the timetables
    refine ⟨_, rfl, p, CH, dx, _, _, rfl, s1 _ _ e1, TL'.cl, TL'.nT, hf_tables _ _ _ _, aT, rfl, ⟨_, sSqT s1 e2⟩, for_tup (K := K) (a := aT) (xs := ts.map V.str)
      (fun i σ H' => ∃ v2 v3 v4 v5 : Option V, σ = [some (.ref p), some (.ref q), v2, v3, v4, v5] ∧ Kp q H1 H' ∧ H' q = some (.lst (([75, (ts.length : Int)] ++ (ts.take i).flatMap tabB).map V.int)))
      ⟨_, _, _, _, rfl, Kp.refl, by rw [eq1]; rfl⟩ (fun i σ H' _ ⟨_, _, _, _, _, kk', _⟩ => sSqT (keep kk') e2) ?_ ?_⟩
    · rintro i y σ H2 hi ⟨v2, v3, v4, v5, rfl, k2, eq2⟩
      obtain ⟨t, ht, rfl⟩ := map_at hi
      have hit := hP.tabs t (List.mem_of_getElem? ht)
      have hil : i < ts.length := (List.getElem?_eq_some_iff.mp ht).1
      have hl2 : ([75, (ts.length : Int)] ++ (ts.take i).flatMap tabB).length ≤ 152 := by
        have := flat_len (f := tabB) (l := ts.take i) (m := 25) fun x hx => tabB_len hP.tabs x (List.mem_of_mem_take hx)
        rw [List.length_append]
        have h3 : (ts.take i).length ≤ 6 := by rw [List.length_take]; omega
        have h4 : (ts.take i).length * 25 ≤ 150 := by omega
        show 2 + _ ≤ _
        omega
      generalize hcode : [75, (ts.length : Int)] ++ (ts.take i).flatMap tabB = code at eq2 hl2
      refine ⟨_, rfl, .inl ⟨rfl, _, SqL.of eq2⟩, _, rfl, _, rfl, hit.size, q, _, _, rfl, rfl, eq2, ?_, ?_⟩
      · rw [List.length_map]; exact Nat.lt_of_le_of_lt hl2 (by decide)
      have eq3 : (upd H2 q (.lst (code.map V.int ++ [.int (t.length : Int)]))) q = some (.lst ((code ++ [(t.length : Int)]).map V.int)) := by rw [upd_same, List.map_append]; rfl
      have k3 : Kp q H1 (upd H2 q (.lst (code.map V.int ++ [.int (t.length : Int)]))) := k2.trans kp_upd
      generalize upd H2 q (.lst (code.map V.int ++ [.int (t.length : Int)])) = H3 at eq3 k3
      refine ⟨_, rfl, .inl ⟨rfl, _, SqL.of eq3⟩, _, rfl, t, rfl, fun D hD => lc_it walk_str
        (fun j H4 => Same H3 H4 ∧ H4 D = some (.lst ((((tl t).take j).map hBit).map V.int)))
        ⟨same_upd hD, upd_same⟩ (fun _ _ _ _ => True.intro) ?_ ?_⟩
      · rintro j y H4 H5 hj ⟨s4, eD⟩ ⟨rfl, c, hc, rfl⟩
        have hc' : (tl t)[j]? = some c := by rw [← hc]; exact Array.getElem?_toList
        obtain ⟨m, rest, ho, hb⟩ := occ_oh (hit.ho c (List.mem_of_getElem? hc'))
        have hz := hit.size
        refine ⟨rfl, rfl, _, rfl, ohS, ⟨#[c]⟩, m, rest, rfl, rfl, ho, _, eD, ?_, fun b o eb => ?_, ?_⟩
        · rw [List.length_map, List.length_map, List.length_take]
          exact Nat.lt_of_le_of_lt (Nat.le_trans (Nat.min_le_right _ _) (by have := hit.pos.2; omega : _ ≤ 1000)) (by decide)
        · rw [upd_ne (ne_of_none eb hD)]; exact s4 _ _ eb
        · rw [upd_same, take_more hc', List.map_append, List.map_append, hb]; rfl
      · rintro H4 ⟨s4, eD⟩
        have e : (tl t).take t.cps.size = tl t := List.take_of_length_le (by simp)
        rw [e] at eD
        have eq4 := s4 _ _ eq3
        refine ⟨q, D, _, _, rfl, rfl, eq4, eD, ?_, ?_⟩
        · rw [List.length_map, List.length_map, List.length_map, List.length_append]
          exact Nat.le_trans (by have := hit.pos.2; show code.length + 1 + _ ≤ 1000; omega) (by decide)
        refine ⟨_, _, _, _, rfl, (k3.trans (sKp s4)).trans kp_upd, ?_⟩
        rw [upd_same, take_flat ht, ← List.append_assoc, hcode, ← List.map_append]
        unfold tabB
        rw [len_tl t, List.append_assoc]
        rfl
    · rintro σ H2 ⟨v2, v3, v4, v5, rfl, k2, eq2⟩
      rw [List.length_map, List.take_length] at eq2
      have eq2 : H2 q = some (.lst ((encT ts).map V.int)) := eq2
      have s2 := keep k2
      have hl2 := encT_len hP.tabs n6
      -- the keys
      refine ⟨_, rfl, .inl ⟨rfl, _, SqL.of eq2⟩, _, rfl, p, CH, dx, _, _, rfl, s2 _ _ e1, TL'.cl, TL'.nK, hf_keys _ _ _ _, q, _, _, rfl, rfl, eq2, ?_, ?_⟩
      · rw [List.length_map]; exact Nat.lt_of_le_of_lt hl2 (by decide)
      have eq3 : (upd H2 q (.lst ((encT ts).map V.int ++ [.int kk]))) q = some (.lst ((encT ts ++ [kk]).map V.int)) := by rw [upd_same, List.map_append]; rfl
      have k3 : Kp q H1 (upd H2 q (.lst ((encT ts).map V.int ++ [.int kk]))) := k2.trans kp_upd
      generalize upd H2 q (.lst ((encT ts).map V.int ++ [.int kk])) = H3 at eq3 k3
      have s3 := keep k3
      -- the careful persons
      refine ⟨_, rfl, .inl ⟨rfl, _, SqL.of eq3⟩, _, rfl, p, CH, dx, _, _, rfl, s3 _ _ e1, TL'.cl, TL'.nC, hf_careful _ _ _ _, aC, _, rfl, .inr (sSqT s3 e3), _, rfl, p, CH, dx, _, _, rfl, s3 _ _ e1, TL'.cl, TL'.nC, hf_careful _ _ _ _, aC, _, rfl, .inl (sSqT s3 e3), ?_⟩
      refine ⟨?_, fun l hl => ?_⟩
      · show (V.int _ :: (cs.map V.int ++ [])).length ≤ sizeLine
        rw [List.append_nil, List.length_cons, List.length_map]
        exact Nat.le_trans (by omega : _ ≤ 1000) (by decide)
      rw [List.append_nil, List.length_map]
      have s4 := same_upd (o := .lst (V.int (cs.length : Int) :: cs.map V.int)) hl
      have el : (upd H3 l (.lst (V.int (cs.length : Int) :: cs.map V.int))) l = some (.lst (((cs.length : Int) :: cs).map V.int)) := upd_same
      have eq4 := s4 _ _ eq3
      have k4 := k3.trans (sKp (l := q) s4)
      generalize upd H3 l (.lst (V.int (cs.length : Int) :: cs.map V.int)) = H4 at el eq4 k4
      refine ⟨q, l, _, _, rfl, rfl, eq4, el, ?_, ?_⟩
      · simp only [List.length_map, List.length_append, List.length_cons, List.length_nil]
        exact Nat.le_trans (by omega : _ ≤ 1000) (by decide)
      have eq5 : (upd H4 q (.lst ((encT ts ++ [kk]).map V.int ++ ((cs.length : Int) :: cs).map V.int))) q = some (.lst ((encC ts kk cs).map V.int)) := by rw [upd_same, ← List.map_append]; rfl
      have k5 : Kp q H1 (upd H4 q (.lst ((encT ts ++ [kk]).map V.int ++ ((cs.length : Int) :: cs).map V.int))) := k4.trans kp_upd
      generalize upd H4 q (.lst ((encT ts ++ [kk]).map V.int ++ ((cs.length : Int) :: cs).map V.int)) = H5 at eq5 k5
      have s5 := keep k5
      -- how many reminders
      refine ⟨_, rfl, .inl ⟨rfl, _, SqL.of eq5⟩, _, rfl, p, CH, dx, _, _, rfl, s5 _ _ e1, TL'.cl, TL'.nR, hf_rem _ _ _ _, aR, _, rfl, .inr (sSqT s5 e4), q, _, _, rfl, rfl, eq5, ?_, ?_⟩
      · rw [List.length_map]; exact Nat.lt_of_le_of_lt lC (by decide)
      rw [e5.len]
      have eq6 : (upd H5 q (.lst ((encC ts kk cs).map V.int ++ [.int (rs.length : Int)]))) q = some (.lst ((encC ts kk cs ++ [(rs.length : Int)]).map V.int)) := by rw [upd_same, List.map_append]; rfl
      have k6 : Kp q H1 (upd H5 q (.lst ((encC ts kk cs).map V.int ++ [.int (rs.length : Int)]))) := k5.trans kp_upd
      generalize upd H5 q (.lst ((encC ts kk cs).map V.int ++ [.int (rs.length : Int)])) = H6 at eq6 k6
      have s6 := keep k6
      refine ⟨_, rfl, p, CH, dx, _, _, rfl, s6 _ _ e1, TL'.cl, TL'.nR, hf_rem _ _ _ _, aR, rfl, ⟨_, sSqT s6 e4⟩, for_tup (K := K) (a := aR) (xs := xs)
        (fun i σ H' => ∃ v2 v3 v4 v5 : Option V, σ = [some (.ref p), some (.ref q), v2, v3, v4, v5] ∧ Kp q H1 H' ∧ H' q = some (.lst (((encC ts kk cs ++ [(rs.length : Int)]) ++ (rs.take i).flatMap prB).map V.int)))
        ⟨_, _, _, _, rfl, k6, by rw [eq6]; simp⟩ (fun i σ H' _ ⟨_, _, _, _, _, kk', _⟩ => sSqT (keep kk') e4) ?_ ?_⟩
      · rintro i y σ H7 hi ⟨v2, v3, v4, v5, rfl, k7, eq7⟩
        have s7 := keep k7
        have hj : i < xs.length := (List.getElem?_eq_some_iff.mp hi).1
        have hlen := e5.len
        have hrj : rs[i]? = some (rs[i]'(by omega)) := List.getElem?_eq_getElem _
        generalize rs[i]'(by omega) = r at hrj
        have hPr : PrAt H y r := by
          have hk : (xs.map (kf H))[i]? = some (kf H y) := by rw [List.getElem?_map, hi]; rfl
          rw [e5.kf, hrj] at hk
          have e := Option.some.inj hk
          rw [e]; exact e5.mem y (List.mem_of_getElem? hi)
        obtain ⟨t, rfl, ht⟩ := hPr
        refine ⟨t, _, rfl, SqT.of (s7 _ _ ht), rfl, _, _, rfl, _, _, rfl, rfl, ?_⟩
        refine ⟨_, rfl, .inl ⟨rfl, _, SqL.of eq7⟩, _, rfl, _, rfl, by show 2 ≤ sizeLine; decide, fun l hl => ?_⟩
        have s8 := same_upd (o := .lst [.int r.1, .int r.2]) hl
        have el : (upd H7 l (.lst [.int r.1, .int r.2])) l = some (.lst ((prB r).map V.int)) := upd_same
        have eq8 := s8 _ _ eq7
        have k8 := k7.trans (sKp (l := q) s8)
        generalize upd H7 l (.lst [.int r.1, .int r.2]) = H8 at el eq8 k8
        have hlf : ((rs.take i).flatMap prB).length ≤ (rs.take i).length * 2 := flat_len fun r _ => Nat.le_refl 2
        have hli : (rs.take i).length ≤ 10 := by rw [List.length_take]; have := hP.r10; omega
        refine ⟨q, l, _, _, rfl, rfl, eq8, el, ?_, _, _, _, _, rfl, k8.trans kp_upd, ?_⟩
        · rw [List.length_map, List.length_map, List.length_append, List.length_append]
          exact Nat.le_trans (by show _ + 1 + _ + 2 ≤ 1000; omega) (by decide)
        · rw [upd_same, take_flat hrj, ← List.append_assoc, ← List.map_append]
      · rintro σ H7 ⟨v2, v3, v4, v5, rfl, k7, eq7⟩
        rw [e5.len, List.take_length] at eq7
        have eq7 : H7 q = some (.lst ((encB ts kk cs rs).map V.int)) := eq7
        have s7 := keep k7
        refine ⟨_, rfl, q, _, rfl, .inr (SqL.of eq7), _, rfl, q, encB ts kk cs rs, rfl, SqL.of eq7, ?_, fun l hl => ?_⟩
        · rw [List.length_append, List.length_map]
          exact Nat.le_trans (by show _ + 1 ≤ 1000; omega) (by decide)
        refine k _ l (s7.trans (same_upd hl)) (s7.free hl) ?_
        rw [upd_same]
        unfold enc
        rw [List.map_append]
        rfl
end
end Dk

set_option Elab.async false
set_option linter.all false
set_option maxRecDepth 100000
set_option maxHeartbeats 4000000
namespace Dk
open PySem PySem.Spec PyProof.Rows L2 TL
/-! ### the reader -/
def rFields (a i : V) : List (Str × V) := [("code", a), ("place", i)]
theorem rF_code (a i : V) : (rFields a i).lookup ("code" : Str) = some a := by rfl
theorem rF_place (a i : V) : (rFields a i).lookup ("place" : Str) = some i := by rfl
theorem putF_place (a i j : V) : putF "place" j (rFields a i) = rFields a j := by rfl
structure RdAt (CR : Addr) (H : Hp) (p a : Addr) (i : Nat) : Prop where
  ex : ∃ dx, H p = some (.ins CR dx (rFields (.ref a) (.int (i : Int))))
def SubAt (ns : List Int) (i : Nat) (xs : List Int) : Prop := ∀ j x, xs[j]? = some x → ns[i + j]? = some x
theorem SubAt.left {ns xs ys : List Int} {i : Nat} (h : SubAt ns i (xs ++ ys)) : SubAt ns i xs := fun j x e => h j x (by rw [List.getElem?_append_left (List.getElem?_eq_some_iff.mp e).1]; exact e)
theorem SubAt.right {ns xs ys : List Int} {i : Nat} (h : SubAt ns i (xs ++ ys)) : SubAt ns (i + xs.length) ys := fun j x e => by
  have := h (xs.length + j) x (by rw [List.getElem?_append_right (by omega), Nat.add_sub_cancel_left]; exact e)
  rw [Nat.add_assoc]; exact this
theorem SubAt.head {ns ys : List Int} {x : Int} {i : Nat} (h : SubAt ns i (x :: ys)) : ns[i]? = some x := by simpa using h 0 x rfl
theorem SubAt.tail {ns ys : List Int} {x : Int} {i : Nat} (h : SubAt ns i (x :: ys)) : SubAt ns (i + 1) ys := fun j y e => by
  have := h (j + 1) y (by simpa using e)
  rw [show i + 1 + j = i + (j + 1) by omega]; exact this
def spRInit (CR : Addr) : Sp := fun vs H Q _ => ∃ (p dx a : Addr), vs = [.ref p, .ref a] ∧ H p = some (.ins CR dx []) ∧ ∀ H', Kp p H H' → RdAt CR H' p a 0 → Q .non H'
def spTake (K : PySem.W.Frag) (CR : Addr) : Sp := fun vs H Q _ => ∃ (p a al : Addr) (i : Nat) (ns as : List Int) (x : Int), vs = [.ref p, .ref al] ∧ RdAt CR H p a i ∧ SqL K H a (ns.map V.int) ∧ ns[i]? = some x ∧ (SqL K H al (as.map V.int) ∨ SqT K H al (as.map V.int)) ∧ x ∈ as ∧ ∀ H', Kp p H H' → RdAt CR H' p a (i + 1) → Q (.int x) H'
def spTakeB (K : PySem.W.Frag) (CR : Addr) : Sp := fun vs H Q _ => ∃ (p a : Addr) (lo hi : Int) (i : Nat) (ns : List Int) (x : Int), vs = [.ref p, .int lo, .int hi] ∧ RdAt CR H p a i ∧ SqL K H a (ns.map V.int) ∧ ns[i]? = some x ∧ lo ≤ x ∧ x ≤ hi ∧ 0 ≤ lo ∧ hi ≤ 1000 ∧ ∀ H', Kp p H H' → RdAt CR H' p a (i + 1) → Q (.int x) H'
structure TxtRd (K : PySem.W.Frag) (mg : Str → Option Value) (CR fRI fTk fTB : Addr) (fdRI fdTk fdTB : FuncData) : Prop where
  cl : Cls K CR
  nC : NoAttr K CR "code"
  nP : NoAttr K CR "place"
  FRI : Fun K "__init__" "Reader.__init__" sRInit fRI fdRI
  bRI : Binds K fdRI ["self", "code"] []
  mTk : Meth K CR "take" fTk
  FTk : Fun K "take" "Reader.take" sTakeR fTk fdTk
  bTk : Binds K fdTk ["self", "allowed"] []
  mTB : Meth K CR "take_between" fTB
  FTB : Fun K "take_between" "Reader.take_between" sTakeB fTB fdTB
  bTB : Binds K fdTB ["self", "low", "high"] []
  list : mg "list" = none
theorem all_flatI (l : List Int) : (l.map V.int).all flatV = true := by
  rw [List.all_map]
  exact List.all_eq_true.mpr fun _ _ => rfl
theorem ps_never {X : Cx} {st : Stmt} : PS X st (fun _ _ _ => False) := ⟨fun _ _ _ _ _ _ h => h.elim⟩
section
variable {P : Program} {w : World} {K : PySem.W.Frag} {mg : Str → Option Value} {base : Heap} {CR fRI fTk fTB : Addr} {fdRI fdTk fdTB : FuncData} {fII fIB fHO : Addr} {fdII fdIB fdHO : FuncData}
theorem scRInit : FnScope ["self", "code"] ["self", "code"] (defScope sRInit) := ⟨rfl, rfl, rfl, by decide +kernel, rfl, by decide +kernel, by decide +kernel⟩
theorem ok_rinit (R : TxtRd K mg CR fRI fTk fTB fdRI fdTk fdTB) : FnOk P w K mg base CX0 1 fRI fdRI ["self", "code"] (spRInit CR) := by
  refine R.FRI.ok scRInit (fun vs H Q E h => ?_) (fun cdv A outer s H vs Q E hr h => ?_)
  · obtain ⟨p, dx, a, rfl, _⟩ := h
    rfl
  · obtain ⟨p, dx, a, rfl, e1, k⟩ := h
    refine ⟨_, pss_cons (ps_fld (pv 0) (pv 1) rfl) (pss_one (ps_fld (pv 0) pe_int rfl)), ?_⟩
    refine ⟨_, rfl, _, rfl, p, CR, dx, _, rfl, e1, R.cl, R.nC, by show 0 < 1000; decide, ?_⟩
    refine ⟨_, rfl, p, CR, dx, _, rfl, upd_same, R.cl, R.nP, by show 1 < 1000; decide, ?_⟩
    rw [upd_upd]
    exact k _ kp_upd ⟨dx, upd_same⟩
theorem scTakeR : FnScope ["self", "allowed", "byte"] ["self", "allowed"] (defScope sTakeR) := ⟨rfl, rfl, rfl, by decide +kernel, rfl, by decide +kernel, by decide +kernel⟩
theorem ok_take (R : TxtRd K mg CR fRI fTk fTB fdRI fdTk fdTB) (TF : TxtF K mg fII fIB fHO fdII fdIB fdHO) (T : TxtA mg) : FnOk P w K mg base CX0 2 fTk fdTk ["self", "allowed"] (spTake K CR) := by
  have GI : FnOk P w K mg base CX0 1 fII fdII ["value"] (spIsInt K) := ok_isint TF
  refine R.FTk.ok scTakeR (fun vs H Q E h => ?_) (fun cdv A outer s H vs Q E hr h => ?_)
  · obtain ⟨p, a, al, i, ns, as, x, rfl, _⟩ := h
    rfl
  · obtain ⟨p, a, al, i, ns, as, x, rfl, ⟨dx, e1⟩, hS, hx, hA, hm, k⟩ := h
    have hi : i < ns.length := (List.getElem?_eq_some_iff.mp hx).1
    refine ⟨_, pss_cons (ps_if (pt_cmpR op_eq (pe_fld (pv 0) rfl) (pe_callB call_len_seq (by rfl) T.len PySem.boot_len (pa_cons (pe_fld (pv 0) rfl) pa_nil)) (nomark _)) (pss_one ps_never) pss_nil)
      (pss_cons (ps_set (i := 2) scTakeR.nd rfl (.inl rfl) (pe_ix ix_list (pe_fld (pv 0) rfl) (pe_fld (pv 0) rfl) (fun _ _ => rfl)))
      (pss_cons (ps_if (PW.pt (pw_or (pt_not (pt_val (pe_call GI hr rfl TF.gII TF.FII.kp TF.bII .nil pass0 (pa_cons (pv 2) pa_nil)))) (pw_or1 (pt_cmpR op_notIn_seq (pv 2) (pv 1) (by rfl))))) (pss_one ps_never) pss_nil)
      (pss_cons (ps_fldaug (pv 0) pe_int in_add) (pss_one (ps_ret (pv 2)))))), ?_⟩
    refine ⟨_, rfl, p, CR, dx, _, _, rfl, e1, R.cl, R.nP, rF_place _ _, _, rfl, p, CR, dx, _, _, rfl, e1, R.cl, R.nC, rF_code _ _, a, _, rfl, .inl hS, ?_⟩
    rw [List.length_map]
    refine ⟨rfl, _, rfl, ite2 (fun c => ?_) (fun _ => ?_)⟩
    · have c := of_decide_eq_true c
      injection c with c
      omega
    refine ⟨_, rfl, p, CR, dx, _, _, rfl, e1, R.cl, R.nC, rF_code _ _, _, rfl, p, CR, dx, _, _, rfl, e1, R.cl, R.nP, rF_place _ _, a, _, (i : Int), .int x, rfl, rfl, hS, atI_nat (by rw [List.getElem?_map, hx]; rfl), ?_⟩
    refine ⟨_, rfl, .int x, .int x, rfl, .int x, _, rfl, iteF ⟨_, rfl, _, rfl, al, _, rfl, hA, rfl, all_flatI _, _, rfl, ?_⟩⟩
    show (if (!inV (.int x) (as.map V.int)) = true then _ else _)
    rw [any_eqI, decide_eq_true hm]
    refine iteF ⟨_, rfl, p, CR, dx, _, .int (i : Int), rfl, e1, R.cl, R.nP, rF_place _ _, _, _, rfl, rfl, dx, _, e1, by show 2 < 1000; decide, ?_⟩
    rw [putF_place]
    exact ⟨_, rfl, k _ kp_upd ⟨dx, by rw [upd_same]; rfl⟩⟩
theorem scTakeB : FnScope ["self", "low", "high"] ["self", "low", "high"] (defScope sTakeB) := ⟨rfl, rfl, rfl, by decide +kernel, rfl, by decide +kernel, by decide +kernel⟩
theorem rgV_ints (a b : Int) : rgV a b = ((List.range (b - a).toNat).map fun i : Nat => a + (i : Int)).map V.int := by
  unfold rgV
  rw [List.map_map]
  rfl
theorem ok_takeb (R : TxtRd K mg CR fRI fTk fTB fdRI fdTk fdTB) (TF : TxtF K mg fII fIB fHO fdII fdIB fdHO) (T : TxtA mg) : FnOk P w K mg base CX0 3 fTB fdTB ["self", "low", "high"] (spTakeB K CR) := by
  have GT : FnOk P w K mg base CX0 2 fTk fdTk ["self", "allowed"] (spTake K CR) := ok_take R TF T
  refine R.FTB.ok scTakeB (fun vs H Q E h => ?_) (fun cdv A outer s H vs Q E hr h => ?_)
  · obtain ⟨p, a, lo, hi, i, ns, x, rfl, _⟩ := h
    rfl
  · obtain ⟨p, a, lo, hi, i, ns, x, rfl, hR, hS, hx, h1, h2, h3, h4, k⟩ := h
    obtain ⟨dx, e1⟩ := id hR
    refine ⟨_, pss_one (ps_ret (pe_meth (pv 0) R.cl R.mTk GT hr R.bTk .nil pass0 (pa_cons (pe_listRg rfl (by rfl) R.list (prg_2 (by rfl) T.range (pv 1) (pe_op op_add (pv 2) pe_int))) pa_nil))), ?_⟩
    refine ⟨_, rfl, p, dx, _, rfl, e1, by rfl, _, rfl, _, rfl, _, _, rfl, rfl, lo, hi + 1, rfl, rfl, RgOk.of_le h3 (by omega) (by omega) (by omega), fun q hq => ?_⟩
    have s1 := same_upd (o := .lst (rgV lo (hi + 1))) hq
    refine ⟨p, a, q, i, ns, (List.range (hi + 1 - lo).toNat).map fun i : Nat => lo + (i : Int), x, rfl, ⟨dx, s1 _ _ e1⟩, s1.seq hS, hx, .inl (by rw [← rgV_ints]; exact SqL.of upd_same), ?_, fun H' k' r' => k H' ((sKp s1).trans k') r'⟩
    exact List.mem_map.mpr ⟨(x - lo).toNat, List.mem_range.mpr (by omega), by omega⟩
end
end Dk

set_option Elab.async false
set_option linter.all false
set_option maxRecDepth 100000
set_option maxHeartbeats 4000000
namespace Dk
open PySem PySem.Spec PyProof.Rows L2 TL
structure RSt (CR : Addr) (H : Hp) (p a : Addr) (ns : List Int) (i : Nat) : Prop where
  rd : RdAt CR H p a i
  ls : H a = some (.lst (ns.map V.int))
theorem RSt.ne {CR : Addr} {H : Hp} {p a : Addr} {ns : List Int} {i : Nat} (h : RSt CR H p a ns i) : a ≠ p := fun e => by
  obtain ⟨dx, e1⟩ := h.rd.ex
  have := h.ls
  rw [e, e1] at this; cases this
theorem RSt.kp {CR : Addr} {H H' : Hp} {p a : Addr} {ns : List Int} {i j : Nat} (h : RSt CR H p a ns i) (k : Kp p H H') (r : RdAt CR H' p a j) : RSt CR H' p a ns j := ⟨r, k _ _ h.ne h.ls⟩
theorem RSt.mono {CR : Addr} {H H' : Hp} {p a : Addr} {ns : List Int} {i : Nat} (h : RSt CR H p a ns i) (s : Same H H') : RSt CR H' p a ns i := by
  obtain ⟨dx, e1⟩ := h.rd.ex
  exact ⟨⟨dx, s _ _ e1⟩, s _ _ h.ls⟩
theorem RSt.put {CR : Addr} {H : Hp} {p a q : Addr} {ns : List Int} {i : Nat} {o : HO} (h : RSt CR H p a ns i) (n1 : p ≠ q) (n2 : a ≠ q) : RSt CR (upd H q o) p a ns i := by
  obtain ⟨dx, e1⟩ := h.rd.ex
  exact ⟨⟨dx, by rw [upd_ne n1]; exact e1⟩, by rw [upd_ne n2]; exact h.ls⟩
theorem Kp.free {l : Addr} {H H' : Hp} (k : Kp l H H') {b : Addr} (n : b ≠ l) (h : H' b = none) : H b = none := by
  cases e : H b with
  | none => rfl
  | some o => rw [k b o n e] at h; cases h
def spReadTab (CR : Addr) : Sp := fun vs H Q _ => ∃ (p a : Addr) (ns : List Int) (i : Nat) (t : Str), vs = [.ref p] ∧ RSt CR H p a ns i ∧ IsTab t ∧ SubAt ns i (tabB t) ∧ ∀ H', Kp p H H' → RSt CR H' p a ns (i + (tabB t).length) → Q (.str t) H'
def spReadCar (CR : Addr) : Sp := fun vs H Q _ => ∃ (p a : Addr) (ns : List Int) (i n : Nat) (cs : List Int), vs = [.ref p, .int (n : Int)] ∧ n ≤ 6 ∧ RSt CR H p a ns i ∧ SubAt ns i ((cs.length : Int) :: cs) ∧ cs.Pairwise (· < ·) ∧ (∀ c ∈ cs, (0 : Int) ≤ c ∧ c < (n : Int)) ∧
  ∀ (H' : Hp) (u : Addr), Kp p H H' → RSt CR H' p a ns (i + 1 + cs.length) → H u = none → H' u = some (.tup (cs.map V.int)) → Q (.ref u) H'
def spReadPrs (CR : Addr) : Sp := fun vs H Q _ => ∃ (p a : Addr) (ns : List Int) (i n m : Nat) (rs : List Pr), vs = [.ref p, .int (m : Int), .int (n : Int)] ∧ n ≤ 6 ∧ m ≤ 24 ∧ RSt CR H p a ns i ∧ SubAt ns i ((rs.length : Int) :: rs.flatMap prB) ∧ rs.Pairwise plt ∧ rs.length ≤ 10 ∧
  (∀ r ∈ rs, (0 : Int) ≤ r.1 ∧ r.1 < (m : Int) ∧ (0 : Int) ≤ r.2 ∧ r.2 < (n : Int)) ∧
  ∀ (H' : Hp) (u : Addr) (xs : List V), Kp p H H' → RSt CR H' p a ns (i + 1 + (rs.flatMap prB).length) → H u = none → H' u = some (.tup xs) → Prs H' xs rs → Q (.ref u) H'
theorem oh_get {c : Nat} (h : c = 104 ∨ c = 111) : 0 ≤ hBit c ∧ hBit c ≤ 1 ∧ hBit c < 2 ^ 63 ∧ hBit c < (ohS.length : Int) ∧ ohS.cps[(hBit c).toNat]? = some c := by
  rcases h with rfl | rfl <;> decide +kernel
section
variable {P : Program} {w : World} {K : PySem.W.Frag} {mg : Str → Option Value} {base : Heap} {CR fRI fTk fTB : Addr} {fdRI fdTk fdTB : FuncData} {fII fIB fHO : Addr} {fdII fdIB fdHO : FuncData} {CH pPs gPs fSm : Addr} {fdPs fdSm : FuncData}
theorem scReadTab : FnScope ["reader", "length", "_"] ["reader"] (defScope sReadTab) := ⟨rfl, rfl, rfl, by decide +kernel, rfl, by decide +kernel, by decide +kernel⟩
theorem ok_readtab {f : Addr} {fd : FuncData} (F : Fun K "read_table" "read_table" sReadTab f fd) (R : TxtRd K mg CR fRI fTk fTB fdRI fdTk fdTB) (N : TxtEn K mg CH pPs gPs fSm fdPs fdSm) (TF : TxtF K mg fII fIB fHO fdII fdIB fdHO) (T : TxtA mg) : FnOk P w K mg base CX0 4 f fd ["reader"] (spReadTab CR) := by
  have GT : FnOk P w K mg base CX0 2 fTk fdTk ["self", "allowed"] (spTake K CR) := ok_take R TF T
  have GB : FnOk P w K mg base CX0 3 fTB fdTB ["self", "low", "high"] (spTakeB K CR) := ok_takeb R TF T
  obtain ⟨t2, eO⟩ := N.coded
  obtain ⟨aL, eL, hTL⟩ := TF.lengths
  refine F.ok scReadTab (fun vs H Q E h => ?_) (fun cdv A outer s H vs Q E hr h => ?_)
  · obtain ⟨p, a, ns, i, t, rfl, _⟩ := h
    rfl
  · obtain ⟨p, a, ns, i, t, rfl, hR, hit, hsub, k⟩ := h
    have hr2 : Room 2 (A.deeper (envOfC (Str.ofString "read_table") (defScope sReadTab) s.heap.objs.size f cdv)) := hr.mono (by decide)
    refine ⟨_, pss_cons (ps_set (i := 1) scReadTab.nd rfl (.inl rfl) (pe_meth (pv 0) R.cl R.mTk GT hr2 R.bTk .nil pass0 (pa_cons (pe_glob (v := .ref aL) rfl eL rfl) pa_nil)))
      (pss_one (ps_ret (pe_join pe_str (pe_lc (own := [("_", 2)]) (g := gName 2) (by rfl) scReadTab.nd (pi_range1 rfl T.range (pa_cons (pv 1) pa_nil)) (blkOk_by (N := ["reader", "length", "_"]) (sc := defScope sReadTab) (by decide +kernel))
          (fun _ _ _ _ _ => pg_name (i := 2) scReadTab.nd rfl (Or.inl rfl)) (fun _ _ _ _ _ => pts_nil)
          (fun _ _ _ _ _ => pe_item_str (pe_glob (v := .str ohS) rfl eO ⟨_, rfl⟩) (pe_meth (pv 0) R.cl R.mTB GB hr R.bTB .nil pass0 (pa_cons pe_int (pa_cons pe_int pa_nil))) (fun _ _ => rfl)))))), ?_⟩
    obtain ⟨dx, e1⟩ := hR.rd.ex
    have hpos := hit.pos
    refine ⟨_, rfl, p, dx, _, rfl, e1, by rfl, p, a, aL, i, ns, tabLens, ((tl t).length : Int), rfl, hR.rd, SqL.of hR.ls, hsub.head, .inr (sSqT (fun b o e => by cases e) hTL), ?_, fun H1 k1 hR1' => ?_⟩
    · have := hit.len
      simp only [List.mem_cons, List.not_mem_nil, or_false] at this
      rcases this with e | e | e | e | e | e | e | e <;> rw [e] <;> decide
    have hR1 := hR.kp k1 hR1'
    have hsub1 := hsub.tail
    refine ⟨⟨_, rfl⟩, _, rfl, ((tl t).length : Int), rfl, by omega, by omega, fun D hD => lc_range (lo := 0) (n := (((tl t).length : Nat) : Int).toNat)
      (fun j H3 => Kp p H1 H3 ∧ RSt CR H3 p a ns (i + 1 + j) ∧ H3 D = some (.lst ((((tl t).take j).map one).map V.str)))
      ⟨sKp (same_upd hD), hR1.mono (same_upd hD), upd_same⟩ ?_ ?_⟩
    · rintro j H3 hj ⟨k3, hR3, eD⟩
      have hj : j < (tl t).length := by omega
      have hc : (tl t)[j]? = some (tl t)[j] := List.getElem?_eq_getElem hj
      generalize (tl t)[j] = c at hc
      obtain ⟨g0, g1, g2, g3, g4⟩ := oh_get (hit.ho c (List.mem_of_getElem? hc))
      have hb : ns[i + 1 + j]? = some (hBit c) := hsub1 j (hBit c) (by rw [List.getElem?_map, hc]; rfl)
      obtain ⟨dx3, e3⟩ := hR3.rd.ex
      obtain ⟨dx1, e11⟩ := hR1.rd.ex
      have npD : p ≠ D := ne_of_none e11 hD
      have naD : a ≠ D := ne_of_none hR1.ls hD
      refine ⟨rfl, _, rfl, p, dx3, _, rfl, e3, by rfl, p, a, 0, 1, i + 1 + j, ns, hBit c, rfl, hR3.rd, SqL.of hR3.ls, hb, g0, g1, by decide, by decide, fun H4 k4 hR4' => ⟨ohS, hBit c, c, rfl, rfl, g0, g2, g3, g4, ?_⟩⟩
      have hR4 := hR3.kp k4 hR4'
      refine ⟨_, k4 _ _ npD.symm eD, ?_, fun b o nb eb => ?_, hR4.put npD naD, ?_⟩
      · rw [List.length_map, List.length_map, List.length_take]
        exact Nat.lt_of_le_of_lt (Nat.le_trans (Nat.min_le_left _ _) (by omega : j ≤ 1000)) (by decide)
      · rw [upd_ne (ne_of_none eb hD)]; exact k4 _ _ nb (k3 _ _ nb eb)
      · rw [upd_same, take_more hc, List.map_append, List.map_append]; rfl
    · rintro H3 ⟨k3, hR3, eD⟩
      rw [Int.toNat_natCast] at hR3 eD
      rw [List.take_length] at eD
      refine ⟨_, D, (tl t).map one, rfl, rfl, .inl (SqL.of eD), ?_, ?_⟩
      · rw [ones_sum]
        have : (Str.ofString "").length = 0 := by decide +kernel
        rw [this]
        omega
      · have ej : Txt.join (Str.ofString "") ((tl t).map one) = t := ext_tl (tl_joined (tl t))
        rw [ej]
        refine k H3 (k1.trans k3) ?_
        have : i + (tabB t).length = i + 1 + (tl t).length := by unfold tabB; rw [List.length_cons, List.length_map]; omega
        rw [this]; exact hR3
abbrev nRCar : List Str := ["reader", "persons", "count", "careful", "last", "_"]
theorem scReadCar : FnScope nRCar ["reader", "persons"] (defScope sReadCar) := ⟨rfl, rfl, rfl, by decide +kernel, rfl, by decide +kernel, by decide +kernel⟩
theorem ok_readcar {f : Addr} {fd : FuncData} (F : Fun K "read_careful" "read_careful" sReadCar f fd) (R : TxtRd K mg CR fRI fTk fTB fdRI fdTk fdTB) (TF : TxtF K mg fII fIB fHO fdII fdIB fdHO) (T : TxtA mg) : FnOk P w K mg base CX0 4 f fd ["reader", "persons"] (spReadCar CR) := by
  have GB : FnOk P w K mg base CX0 3 fTB fdTB ["self", "low", "high"] (spTakeB K CR) := ok_takeb R TF T
  refine F.ok scReadCar (fun vs H Q E h => ?_) (fun cdv A outer s H vs Q E hr h => ?_)
  · obtain ⟨p, a, ns, i, n, cs, rfl, _⟩ := h
    rfl
  · obtain ⟨p, a, ns, i, n, cs, rfl, hn6, hR, hsub, hp, hm, k⟩ := h
    refine ⟨_, pss_cons (ps_set (i := 2) scReadCar.nd rfl (.inl rfl) (pe_meth (pv 0) R.cl R.mTB GB hr R.bTB .nil pass0 (pa_cons pe_int (pa_cons (pv 1) pa_nil))))
      (pss_cons (ps_set (i := 3) scReadCar.nd rfl (.inl rfl) (pe_lst pa_nil))
      (pss_cons (ps_set (i := 4) scReadCar.nd rfl (.inl rfl) (pe_un un_neg pe_int))
      (pss_cons (ps_for PassesOwn.never rfl (pi_range1 rfl T.range (pa_cons (pv 2) pa_nil)) (pg_name (i := 5) scReadCar.nd rfl (.inl rfl))
        (pss_cons (ps_set (i := 4) scReadCar.nd rfl (.inl rfl) (pe_meth (pv 0) R.cl R.mTB GB hr R.bTB .nil pass0 (pa_cons (pe_op op_add (pv 4) pe_int) (pa_cons (pe_op op_sub (pv 1) pe_int) pa_nil))))
        (pss_one (ps_expr (pe_bm PySem.F.plainAttrs_list PySem.F.slot_list_append PySem.F.type_list_append mt_append (pv 3) (pa_cons (pv 4) pa_nil))))))
      (pss_one (ps_ret (pe_callTy call_tuple_of (by rfl) TF.tuple (by decide +kernel) (pa_cons (pv 3) pa_nil))))))), ?_⟩
    have hl6 := up_le6 hp hm hn6
    have hln : cs.length ≤ n := by
      have key : ∀ (l : List Int) (a : Int), l.Pairwise (· < ·) → (∀ c ∈ l, a ≤ c ∧ c < (n : Int)) → a ≤ (n : Int) → (l.length : Int) ≤ (n : Int) - a := by
        intro l
        induction l with
        | nil => intro a _ _ h; simp; omega
        | cons x l ih =>
          intro a hp hm ha
          have hx := hm x (List.mem_cons_self ..)
          have := ih (x + 1) (List.pairwise_cons.mp hp).2 (fun c hc => ⟨by have := (List.pairwise_cons.mp hp).1 c hc; omega, (hm c (List.mem_cons_of_mem _ hc)).2⟩) (by omega)
          rw [List.length_cons]
          omega
      have := key cs 0 hp hm (by omega)
      omega
    obtain ⟨dx, e1⟩ := hR.rd.ex
    refine ⟨_, rfl, p, dx, _, rfl, e1, by rfl, _, rfl, p, a, 0, (n : Int), i, ns, (cs.length : Int), rfl, hR.rd, SqL.of hR.ls, hsub.head, by omega, by omega, by decide, by omega, fun H1 k1 hR1' => ?_⟩
    have hR1 := hR.kp k1 hR1'
    have hsub1 := hsub.tail
    refine ⟨Nat.zero_le _, fun q hq => ?_⟩
    have s2 := same_upd (o := .lst []) hq
    have eq2 : (upd H1 q (.lst [])) q = some (.lst []) := upd_same
    have hR2 := hR1.mono s2
    obtain ⟨dx1, e11⟩ := hR1.rd.ex
    have npq : p ≠ q := ne_of_none e11 hq
    have naq : a ≠ q := ne_of_none hR1.ls hq
    have hqH : H q = none := k1.free npq.symm hq
    have k2 : Kp p H (upd H1 q (.lst [])) := k1.trans (sKp s2)
    generalize upd H1 q (.lst []) = H2 at eq2 hR2 k2
    have prev : ∀ j x, cs[j]? = some x → ((-1 : Int) :: cs).getD j 0 < x := by
      intro j x hx
      cases j with
      | zero => have := (hm x (List.mem_of_getElem? hx)).1; show (-1 : Int) < x; omega
      | succ j =>
        have hj : j < cs.length := by have := (List.getElem?_eq_some_iff.mp hx).1; omega
        have e : ((-1 : Int) :: cs).getD (j + 1) 0 = cs[j] := by simp [List.getD, List.getElem?_eq_getElem hj]
        rw [e]
        obtain ⟨hj2, ex⟩ := List.getElem?_eq_some_iff.mp hx
        rw [← ex]
        exact List.pairwise_iff_getElem.mp hp j (j + 1) hj hj2 (by omega)
    have prev0 : ∀ j, j < cs.length → (0 : Int) ≤ ((-1 : Int) :: cs).getD j 0 + 1 := by
      intro j hj
      cases j with
      | zero => show (0 : Int) ≤ -1 + 1; omega
      | succ j =>
        have e : ((-1 : Int) :: cs).getD (j + 1) 0 = cs[j] := by simp [List.getD, List.getElem?_eq_getElem (show j < cs.length by omega)]
        rw [e]
        have := (hm cs[j] (List.getElem_mem _)).1
        omega
    refine ⟨_, rfl, _, rfl, (cs.length : Int), rfl, by omega, by omega, for_range (lo := 0) (n := ((cs.length : Nat) : Int).toNat)
      (fun j σ H3 => ∃ v5 : Option V, σ = [some (.ref p), some (.int (n : Int)), some (.int (cs.length : Int)), some (.ref q), some (.int (((-1 : Int) :: cs).getD j 0)), v5] ∧ Kp p H H3 ∧ RSt CR H3 p a ns (i + 1 + j) ∧ H3 q = some (.lst ((cs.take j).map V.int)))
      ⟨_, rfl, k2, hR2, eq2⟩ ?_ ?_⟩
    · rintro j σ H3 hj ⟨v5, rfl, k3, hR3, eq3⟩
      have hj : j < cs.length := by omega
      have hc : cs[j]? = some cs[j] := List.getElem?_eq_getElem hj
      generalize cs[j] = c at hc
      have hcm := hm c (List.mem_of_getElem? hc)
      have hlt := prev j c hc
      have hge := prev0 j hj
      obtain ⟨dx3, e3⟩ := hR3.rd.ex
      refine ⟨_, rfl, p, dx3, _, rfl, e3, by rfl, _, rfl, _, _, rfl, rfl, _, rfl, _, _, rfl, rfl, p, a, ((-1 : Int) :: cs).getD j 0 + 1, (n : Int) - 1, i + 1 + j, ns, c, rfl, hR3.rd, SqL.of hR3.ls, hsub1 j c hc, by omega, by omega, hge, by omega, fun H4 k4 hR4' => ?_⟩
      have hR4 := hR3.kp k4 hR4'
      have eq4 := k4 _ _ npq.symm eq3
      refine ⟨_, rfl, .inl ⟨rfl, _, SqL.of eq4⟩, _, rfl, q, _, _, rfl, rfl, eq4, ?_, some (.int ((0 : Int) + (j : Int))), ?_, ?_, hR4.put npq naq, ?_⟩
      · rw [List.length_map, List.length_take]
        exact Nat.lt_of_le_of_lt (Nat.le_trans (Nat.min_le_right _ _) (by omega : _ ≤ 1000)) (by decide)
      · have e : ((-1 : Int) :: cs).getD (j + 1) 0 = c := by simp [List.getD, hc]
        rw [e]; rfl
      · exact fun b o nb eb => by rw [upd_ne (ne_of_none eb hqH)]; exact k4 _ _ nb (k3 _ _ nb eb)
      · rw [upd_same, take_more hc, List.map_append]; rfl
    · rintro σ H3 ⟨v5, rfl, k3, hR3, eq3⟩
      rw [Int.toNat_natCast] at hR3 eq3
      rw [List.take_length] at eq3
      refine ⟨_, rfl, q, _, rfl, .inl ⟨SqL.of eq3, fun u hu => ?_⟩⟩
      have s4 := same_upd (o := .tup (cs.map V.int)) hu
      have nup : u ≠ p := fun e => by
        obtain ⟨dx3, e3⟩ := hR3.rd.ex
        rw [e, e3] at hu; cases hu
      exact k _ u (k3.trans (sKp s4)) (hR3.mono s4) (k3.free nup hu) upd_same
abbrev nRPrs : List Str := ["reader", "period", "persons", "count", "reminders", "last_tick", "last_person", "_", "tick", "lowest", "person"]
theorem scReadPrs : FnScope nRPrs ["reader", "period", "persons"] (defScope sReadPrs) := ⟨rfl, rfl, rfl, by decide +kernel, rfl, by decide +kernel, by decide +kernel⟩
theorem prs_at {ns : List Int} {rs : List Pr} : ∀ {i j : Nat} {r : Pr}, SubAt ns i (rs.flatMap prB) → rs[j]? = some r → ns[i + 2 * j]? = some r.1 ∧ ns[i + 2 * j + 1]? = some r.2 := by
  induction rs with
  | nil => intro i j r _ e; simp at e
  | cons s rs ih =>
    intro i j r h e
    rw [List.flatMap_cons] at h
    cases j with
    | zero =>
      simp at e; subst e
      exact ⟨h.left.head, h.left.tail.head⟩
    | succ j =>
      have := ih (i := i + 2) (j := j) h.right (by simpa using e)
      rw [show i + 2 * (j + 1) = i + 2 + 2 * j by omega]
      exact this
theorem flat2 (rs : List Pr) : (rs.flatMap prB).length = 2 * rs.length := by
  induction rs with
  | nil => rfl
  | cons r rs ih => rw [List.flatMap_cons, List.length_append, ih, List.length_cons]; show 2 + _ = _; omega
def prsLoop : List Stmt := match (defBody sReadPrs)[3]? with
  | some (Stmt.For _ _ b _ _) => b
  | _ => []
theorem prs_tail {f : Addr} {cdv : Value} {A : Around} {outer : List Env} {s : Shared} {H0 : Hp} {E : XK} (hr : Room 3 (A.deeper (envOfC (Str.ofString "read_pairs") (defScope sReadPrs) s.heap.objs.size f cdv))) (R : TxtRd K mg CR fRI fTk fTB fdRI fdTk fdTB) (TF : TxtF K mg fII fIB fHO fdII fdIB fdHO) (T : TxtA mg) :
    ∃ tm, PSs (cxOf CX0 P w K mg base nRPrs "read_pairs" (defScope sReadPrs) f cdv A outer s H0 E).nox (prsLoop.drop 2) tm ∧ ∀ (D : Ends) (σ : L2.St) (H : Hp) (p a q : Addr) (ns : List Int) (i n : Nat) (xs : List V) (rs : List Pr) (lo t x : Int) (v1 v3 v5 v6 v7 v10 : Option V),
      σ = [some (.ref p), v1, some (.int (n : Int)), v3, some (.ref q), v5, v6, v7, some (.int t), some (.int lo), v10] → RSt CR H p a ns i → ns[i]? = some x → 0 ≤ lo → lo ≤ x → x < (n : Int) → n ≤ 6 → a ≠ q → H q = some (.lst xs) → Prs H xs rs → xs.length ≤ 10 →
      (∀ (H' : Hp) (u : Addr), (∀ b o, b ≠ p → b ≠ q → H b = some o → H' b = some o) → RSt CR H' p a ns (i + 1) → H' q = some (.lst (xs ++ [.ref u])) → Prs H' (xs ++ [.ref u]) (rs ++ [(t, x)]) → D.nx [some (.ref p), v1, some (.int (n : Int)), v3, some (.ref q), some (.int t), some (.int x), v7, some (.int t), some (.int lo), some (.int x)] H') → tm D σ H := by
  have GB : FnOk P w K mg base CX0 3 fTB fdTB ["self", "low", "high"] (spTakeB K CR) := ok_takeb R TF T
  refine ⟨_, by
    exact pss_cons (ps_set (i := 10) scReadPrs.nd rfl (.inl rfl) (pe_meth (pv 0) R.cl R.mTB GB hr R.bTB .nil pass0 (pa_cons (pv 9) (pa_cons (pe_op op_sub (pv 2) pe_int) pa_nil))))
      (pss_cons (ps_expr (pe_bm PySem.F.plainAttrs_list PySem.F.slot_list_append PySem.F.type_list_append mt_append (pv 4) (pa_cons (pe_tup (pa_cons (pv 8) (pa_cons (pv 10) pa_nil))) pa_nil)))
      (pss_one (ps_par (i := 5) (j := 6) rfl scReadPrs.nd rfl rfl (by decide) rfl rfl (pa_cons (pv 8) (pa_cons (pv 10) pa_nil)) (by rfl)))), ?_⟩
  intro D σ H p a q ns i n xs rs lo t x v1 v3 v5 v6 v7 v10 hσ hR hx h0 h1 h2 h6 naq eq hP hl k
  subst hσ
  obtain ⟨dx, e1⟩ := hR.rd.ex
  have npq : p ≠ q := fun e => by rw [e, eq] at e1; cases e1
  refine ⟨_, rfl, p, dx, _, rfl, e1, by rfl, _, rfl, _, rfl, _, _, rfl, rfl, p, a, lo, (n : Int) - 1, i, ns, x, rfl, hR.rd, SqL.of hR.ls, hx, h1, by omega, h0, by omega, fun H1 k1 hR1' => ?_⟩
  have hR1 := hR.kp k1 hR1'
  have eq1 := k1 _ _ npq.symm eq
  have hP1 := hP.mono (fun t ys z => k1 t _ (fun e => by rw [e, e1] at z; cases z) z)
  refine ⟨_, rfl, .inl ⟨rfl, _, SqL.of eq1⟩, _, rfl, _, rfl, by show 2 ≤ sizeLine; decide, fun u hu => ?_⟩
  have s2 := same_upd (o := .tup [.int t, .int x]) hu
  have eu : (upd H1 u (.tup [.int t, .int x])) u = some (.tup [.int t, .int x]) := upd_same
  have eq2 := s2 _ _ eq1
  have hR2 := hR1.mono s2
  have hP2 : Prs (upd H1 u (.tup [.int t, .int x])) (xs ++ [.ref u]) (rs ++ [(t, x)]) := (hP1.mono fun t ys z => s2 _ _ z).app ⟨u, rfl, eu⟩
  generalize upd H1 u (.tup [.int t, .int x]) = H2 at s2 eu eq2 hR2 hP2
  refine ⟨q, _, _, rfl, rfl, eq2, Nat.lt_of_le_of_lt hl (by decide), ?_⟩
  have tK : ∀ t' ws, H2 t' = some (.tup ws) → (upd H2 q (.lst (xs ++ [V.ref u]))) t' = some (.tup ws) := fun t' ws h => by
    rw [upd_ne (fun z => by rw [z, eq2] at h; cases h)]; exact h
  exact ⟨_, rfl, _, rfl, _, _, rfl, k _ u (fun b o n1 n2 eb => by rw [upd_ne n2]; exact s2 _ _ (k1 _ _ n1 eb)) (hR2.put npq naq) upd_same (hP2.mono tK)⟩
theorem ok_readprs {f : Addr} {fd : FuncData} (F : Fun K "read_pairs" "read_pairs" sReadPrs f fd) (R : TxtRd K mg CR fRI fTk fTB fdRI fdTk fdTB) (TF : TxtF K mg fII fIB fHO fdII fdIB fdHO) (T : TxtA mg) (hRem : ∃ t, mg "MOST_REMINDERS" = some (.int 10 t)) : FnOk P w K mg base CX0 4 f fd ["reader", "period", "persons"] (spReadPrs CR) := by
  have GB : FnOk P w K mg base CX0 3 fTB fdTB ["self", "low", "high"] (spTakeB K CR) := ok_takeb R TF T
  obtain ⟨t1, eM⟩ := hRem
  refine F.ok scReadPrs (fun vs H Q E h => ?_) (fun cdv A outer s H vs Q E hr h => ?_)
  · obtain ⟨p, a, ns, i, n, m, rs, rfl, _⟩ := h
    rfl
  · obtain ⟨p, a, ns, i, n, m, rs, rfl, hn6, hm24, hR, hsub, hp, h10, hm, k⟩ := h
    obtain ⟨tI, pI, hI⟩ := prs_tail (P := P) (w := w) (K := K) (mg := mg) (base := base) (f := f) (cdv := cdv) (A := A) (outer := outer) (s := s) (H0 := H) (E := E) hr R TF T
    refine ⟨_, pss_cons (ps_set (i := 3) scReadPrs.nd rfl (.inl rfl) (pe_meth (pv 0) R.cl R.mTB GB hr R.bTB .nil pass0 (pa_cons pe_int (pa_cons (pe_glob (v := .int 10) rfl eM ⟨_, rfl⟩) pa_nil))))
      (pss_cons (ps_set (i := 4) scReadPrs.nd rfl (.inl rfl) (pe_lst pa_nil))
      (pss_cons (ps_asg (pe_tup (pa_cons pe_int (pa_cons (pe_un un_neg pe_int) pa_nil))) (pg_tup rfl (pgs_cons (pg_name (i := 5) scReadPrs.nd rfl (.inl rfl)) (pgs_cons (pg_name (i := 6) scReadPrs.nd rfl (.inl rfl)) pgs_nil))))
      (pss_cons (ps_for PassesOwn.never rfl (pi_range1 rfl T.range (pa_cons (pv 3) pa_nil)) (pg_name (i := 7) scReadPrs.nd rfl (.inl rfl))
        (pss_cons (ps_set (i := 8) scReadPrs.nd rfl (.inl rfl) (pe_meth (pv 0) R.cl R.mTB GB hr R.bTB .nil pass0 (pa_cons (pv 5) (pa_cons (pe_op op_sub (pv 1) pe_int) pa_nil))))
        (pss_cons (ps_set (i := 9) scReadPrs.nd rfl (.inl rfl) (pe_ifExp (pt_cmpR op_eq (pv 8) (pv 5) (nomark _)) (pe_op op_add (pv 6) pe_int) pe_int)) pI)))
      (pss_one (ps_ret (pe_callTy call_tuple_of (by rfl) TF.tuple (by decide +kernel) (pa_cons (pv 4) pa_nil))))))), ?_⟩
    obtain ⟨dx, e1⟩ := hR.rd.ex
    refine ⟨_, rfl, p, dx, _, rfl, e1, by rfl, p, a, 0, 10, i, ns, (rs.length : Int), rfl, hR.rd, SqL.of hR.ls, hsub.head, by omega, by omega, by decide, by decide, fun H1 k1 hR1' => ?_⟩
    have hR1 := hR.kp k1 hR1'
    have hsub1 := hsub.tail
    refine ⟨Nat.zero_le _, fun q hq => ?_⟩
    have s2 := same_upd (o := .lst []) hq
    have eq2 : (upd H1 q (.lst [])) q = some (.lst []) := upd_same
    have hR2 := hR1.mono s2
    obtain ⟨dx1, e11⟩ := hR1.rd.ex
    have npq : p ≠ q := ne_of_none e11 hq
    have naq : a ≠ q := ne_of_none hR1.ls hq
    have hqH : H q = none := k1.free npq.symm hq
    have k2 : Kp p H (upd H1 q (.lst [])) := k1.trans (sKp s2)
    generalize upd H1 q (.lst []) = H2 at eq2 hR2 k2
    refine ⟨_, rfl, by show 2 ≤ sizeLine; decide, fun u0 hu0 => ⟨u0, _, rfl, SqT.of upd_same, rfl, _, _, rfl, _, _, rfl, rfl, ?_⟩⟩
    have s3 := same_upd (o := .tup [V.int 0, (fun i : Int => V.int (-i)) 1]) hu0
    have eq3 := s3 _ _ eq2
    have hR3 := hR2.mono s3
    have k3 : Kp p H (upd H2 u0 (.tup [V.int 0, (fun i : Int => V.int (-i)) 1])) := k2.trans (sKp s3)
    generalize upd H2 u0 (.tup [V.int 0, (fun i : Int => V.int (-i)) 1]) = H3 at eq3 hR3 k3
    clear eq2 hR2 k2 s2 s3 hu0
    have prev : ∀ j r, rs[j]? = some r → plt ((((0 : Int), (-1 : Int)) :: rs).getD j (0, 0)) r ∧ 0 ≤ ((((0 : Int), (-1 : Int)) :: rs).getD j (0, 0)).1 ∧ 0 ≤ ((((0 : Int), (-1 : Int)) :: rs).getD j (0, 0)).2 + 1 := by
      intro j r hx
      cases j with
      | zero =>
        have := hm r (List.mem_of_getElem? hx)
        refine ⟨?_, by show (0 : Int) ≤ 0; omega, by show (0 : Int) ≤ -1 + 1; omega⟩
        show (0 : Int) < r.1 ∨ ((0 : Int) = r.1 ∧ (-1 : Int) < r.2)
        omega
      | succ j =>
        have hj : j < rs.length := by have := (List.getElem?_eq_some_iff.mp hx).1; omega
        have e : (((0 : Int), (-1 : Int)) :: rs).getD (j + 1) (0, 0) = rs[j] := by simp [List.getD, List.getElem?_eq_getElem hj]
        rw [e]
        obtain ⟨hj2, ex⟩ := List.getElem?_eq_some_iff.mp hx
        have hmj := hm rs[j] (List.getElem_mem _)
        refine ⟨?_, by omega, by omega⟩
        rw [← ex]
        exact List.pairwise_iff_getElem.mp hp j (j + 1) hj hj2 (by omega)
    refine ⟨_, rfl, (rs.length : Int), rfl, by omega, by omega, for_range (lo := 0) (n := ((rs.length : Nat) : Int).toNat)
      (fun j σ H3' => ∃ (v7 v8 v9 v10 : Option V) (xs : List V), σ = [some (.ref p), some (.int (m : Int)), some (.int (n : Int)), some (.int (rs.length : Int)), some (.ref q), some (.int ((((0 : Int), (-1 : Int)) :: rs).getD j (0, 0)).1), some (.int ((((0 : Int), (-1 : Int)) :: rs).getD j (0, 0)).2), v7, v8, v9, v10] ∧ Kp p H H3' ∧ RSt CR H3' p a ns (i + 1 + 2 * j) ∧ H3' q = some (.lst xs) ∧ Prs H3' xs (rs.take j))
      ⟨_, _, _, _, [], rfl, k3, hR3, eq3, .nil⟩ ?_ ?_⟩
    · rintro j σ H4 hj ⟨v7, v8, v9, v10, xs, rfl, k4, hR4, eq4, hP4⟩
      have hj : j < rs.length := by omega
      have hc : rs[j]? = some rs[j] := List.getElem?_eq_getElem hj
      have hnx : (((0 : Int), (-1 : Int)) :: rs).getD (j + 1) (0, 0) = rs[j] := by simp [List.getD, List.getElem?_eq_getElem hj]
      generalize rs[j] = r at hc hnx
      obtain ⟨m1, m2, m3, m4⟩ := hm r (List.mem_of_getElem? hc)
      obtain ⟨hlt, hz1, hz2⟩ := prev j r hc
      generalize (((0 : Int), (-1 : Int)) :: rs).getD j (0, 0) = l at hlt hz1 hz2
      obtain ⟨b1, b2⟩ := prs_at hsub1 hc
      obtain ⟨dx4, e4⟩ := hR4.rd.ex
      have hl1 : l.1 ≤ r.1 := by
        rcases hlt with h | h
        · exact Int.le_of_lt h
        · exact Int.le_of_eq h.1
      refine ⟨_, rfl, p, dx4, _, rfl, e4, by rfl, _, rfl, _, rfl, _, _, rfl, rfl, p, a, l.1, (m : Int) - 1, i + 1 + 2 * j, ns, r.1, rfl, hR4.rd, SqL.of hR4.ls, b1, hl1, by omega, hz1, by omega, fun H5 k5 hR5' => ?_⟩
      have hR5 := hR4.kp k5 hR5'
      have eq5 := k5 _ _ npq.symm eq4
      have hP5 := hP4.mono (fun t ys z => k5 t _ (fun e => by rw [e, e4] at z; cases z) z)
      obtain ⟨dx5, e5⟩ := hR5.rd.ex
      have hxl : xs.length ≤ 10 := by rw [hP4.len, List.length_take]; omega
      have done : ∀ (H' : Hp) (u : Addr) (w9 : Option V), (∀ b o, b ≠ p → b ≠ q → H5 b = some o → H' b = some o) → RSt CR H' p a ns (i + 1 + 2 * j + 1 + 1) → H' q = some (.lst (xs ++ [.ref u])) → Prs H' (xs ++ [.ref u]) (rs.take j ++ [(r.1, r.2)]) →
          ∃ (v7 v8 v9 v10 : Option V) (xs' : List V), [some (.ref p), some (.int (m : Int)), some (.int (n : Int)), some (.int (rs.length : Int)), some (.ref q), some (.int r.1), some (.int r.2), some (.int ((0 : Int) + (j : Int))), some (.int r.1), w9, some (.int r.2)] = [some (.ref p), some (.int (m : Int)), some (.int (n : Int)), some (.int (rs.length : Int)), some (.ref q), some (.int ((((0 : Int), (-1 : Int)) :: rs).getD (j + 1) (0, 0)).1), some (.int ((((0 : Int), (-1 : Int)) :: rs).getD (j + 1) (0, 0)).2), v7, v8, v9, v10] ∧ Kp p H H' ∧ RSt CR H' p a ns (i + 1 + 2 * (j + 1)) ∧ H' q = some (.lst xs') ∧ Prs H' xs' (rs.take (j + 1)) := fun H' u w9 kk hR' eq' hP' => by
        refine ⟨some (.int ((0 : Int) + (j : Int))), some (.int r.1), w9, some (.int r.2), xs ++ [.ref u], by rw [hnx], fun b o nb eb => ?_, ?_, eq', ?_⟩
        · exact kk _ _ nb (ne_of_none eb hqH) (k5 _ _ nb (k4 _ _ nb eb))
        · rw [show i + 1 + 2 * (j + 1) = i + 1 + 2 * j + 1 + 1 by omega]; exact hR'
        · rw [take_more hc]; exact hP'
      refine ⟨_, rfl, _, rfl, rfl, _, rfl, ite2 (fun c => ?_) (fun c => ?_)⟩
      · have c := of_decide_eq_true c
        injection c with c
        have hl2 : l.2 + 1 ≤ r.2 := by
          rcases hlt with h | h
          · omega
          · omega
        refine ⟨_, rfl, _, _, rfl, rfl, ?_⟩
        exact hI _ _ H5 p a q ns (i + 1 + 2 * j + 1) n xs (rs.take j) (l.2 + 1) r.1 r.2 _ _ _ _ _ _ rfl hR5 b2 hz2 hl2 m4 hn6 naq eq5 hP5 hxl (fun H' u kk hR' eq' hP' => done H' u _ kk hR' eq' hP')
      · exact hI _ _ H5 p a q ns (i + 1 + 2 * j + 1) n xs (rs.take j) 0 r.1 r.2 _ _ _ _ _ _ rfl hR5 b2 (by decide) m3 m4 hn6 naq eq5 hP5 hxl (fun H' u kk hR' eq' hP' => done H' u _ kk hR' eq' hP')
    · rintro σ H4 ⟨v7, v8, v9, v10, xs, rfl, k4, hR4, eq4, hP4⟩
      rw [Int.toNat_natCast] at hR4 hP4
      rw [List.take_length] at hP4
      refine ⟨_, rfl, q, _, rfl, .inl ⟨SqL.of eq4, fun u hu => ?_⟩⟩
      have s5 := same_upd (o := .tup xs) hu
      have nup : u ≠ p := fun e => by
        obtain ⟨dx3, e3⟩ := hR4.rd.ex
        rw [e, e3] at hu; cases hu
      refine k _ u xs (k4.trans (sKp s5)) ?_ (k4.free nup hu) upd_same (hP4.mono fun t ys z => s5 _ _ z)
      rw [flat2]
      exact hR4.mono s5
end
end Dk

set_option Elab.async false
set_option linter.all false
set_option maxRecDepth 100000
set_option maxHeartbeats 4000000
namespace Dk
open PySem PySem.Spec PyProof.Rows L2 TL
theorem SubAt.cons {ns xs : List Int} {x : Int} {i : Nat} (h : ns[i]? = some x) (t : SubAt ns (i + 1) xs) : SubAt ns i (x :: xs) := fun j y e => by
  cases j with
  | zero => simp at e; subst e; exact h
  | succ j => rw [show i + (j + 1) = i + 1 + j by omega]; exact t j y (by simpa using e)
theorem SubAt.tab {ns : List Int} {ts : List Str} {i j : Nat} {t : Str} (h : SubAt ns i (ts.flatMap tabB)) (e : ts[j]? = some t) : SubAt ns (i + ((ts.take j).flatMap tabB).length) (tabB t) := by
  obtain ⟨hj, ex⟩ := List.getElem?_eq_some_iff.mp e
  have e2 : ts = ts.take j ++ (t :: ts.drop (j + 1)) := by
    rw [← ex, ← List.drop_eq_getElem_cons hj, List.take_append_drop]
  have h2 : SubAt ns i ((ts.take j).flatMap tabB ++ (tabB t ++ (ts.drop (j + 1)).flatMap tabB)) := by
    have : ts.flatMap tabB = (ts.take j).flatMap tabB ++ (tabB t ++ (ts.drop (j + 1)).flatMap tabB) := by
      conv => lhs; rw [e2]
      rw [List.flatMap_append, List.flatMap_cons]
    rw [← this]; exact h
  exact h2.right.left
structure EncAt (ns : List Int) (ts : List Str) (kk : Int) (cs : List Int) (rs : List Pr) : Prop where
  hd : ns[0]? = some 75
  ps : ns[1]? = some (ts.length : Int)
  tb : SubAt ns 2 (ts.flatMap tabB)
  ky : ns[2 + (ts.flatMap tabB).length]? = some kk
  cr : SubAt ns (2 + (ts.flatMap tabB).length + 1) ((cs.length : Int) :: cs)
  rm : SubAt ns (2 + (ts.flatMap tabB).length + 1 + 1 + cs.length) ((rs.length : Int) :: rs.flatMap prB)
  ck : ns[2 + (ts.flatMap tabB).length + 1 + 1 + cs.length + 1 + (rs.flatMap prB).length]? = some ((encB ts kk cs rs).sum % 256)
  ln : (encB ts kk cs rs).length = 2 + (ts.flatMap tabB).length + 1 + 1 + cs.length + 1 + (rs.flatMap prB).length
theorem enc_at (ts : List Str) (kk : Int) (cs : List Int) (rs : List Pr) : EncAt (enc ts kk cs rs) ts kk cs rs := by
  have S0 : SubAt (enc ts kk cs rs) 0 (encB ts kk cs rs ++ [(encB ts kk cs rs).sum % 256]) := fun j x e => by rw [Nat.zero_add]; exact e
  have S1 : SubAt (enc ts kk cs rs) 0 ((encC ts kk cs ++ [(rs.length : Int)]) ++ rs.flatMap prB) := S0.left
  have S2 : SubAt (enc ts kk cs rs) 0 (encC ts kk cs ++ [(rs.length : Int)]) := S1.left
  have S3 : SubAt (enc ts kk cs rs) 0 ((encT ts ++ [kk]) ++ ((cs.length : Int) :: cs)) := S2.left
  have S4 : SubAt (enc ts kk cs rs) 0 (encT ts ++ [kk]) := S3.left
  have S5 : SubAt (enc ts kk cs rs) 0 ([75, (ts.length : Int)] ++ ts.flatMap tabB) := S4.left
  have lT : (encT ts).length = 2 + (ts.flatMap tabB).length := by unfold encT; rw [List.length_append]; rfl
  have lC : (encC ts kk cs).length = 2 + (ts.flatMap tabB).length + 1 + 1 + cs.length := by
    unfold encC; rw [List.length_append, List.length_append, lT, List.length_cons]; show _ + 1 + (_ + 1) = _; omega
  have lB : (encB ts kk cs rs).length = 2 + (ts.flatMap tabB).length + 1 + 1 + cs.length + 1 + (rs.flatMap prB).length := by
    unfold encB; rw [List.length_append, List.length_append, lC]; rfl
  refine ⟨S5.left.head, S5.left.tail.head, S5.right, ?_, ?_, ?_, ?_, lB⟩
  · have := S4.right.head; rw [lT, Nat.zero_add] at this; exact this
  · have := S3.right; rw [List.length_append, lT, Nat.zero_add] at this; exact this
  · have h1 := S2.right.head
    have h2 := S1.right
    rw [lC, Nat.zero_add] at h1
    rw [List.length_append, lC, Nat.zero_add] at h2
    exact .cons h1 h2
  · have := S0.right.head; rw [lB, Nat.zero_add] at this; exact this
theorem cut_to {xs : List V} {n : Nat} (h : n ≤ xs.length) : cutV xs none (some (n : Int)) = xs.take n := by
  unfold cutV
  rw [HT.sIx_none, HT.sIx_nat, Nat.min_eq_left h]
  rfl
def spDecode (K : PySem.W.Frag) (CH : Addr) : Sp := fun vs H Q _ => ∃ (a : Addr) (ts : List Str) (k : Int) (cs : List Int) (rs : List Pr), vs = [.ref a] ∧ H a = some (.lst ((enc ts k cs rs).map V.int)) ∧ Parts ts k cs rs ∧ ∀ (H' : Hp) (p : Addr), Same H H' → H p = none → HouseAt K CH H' p ts k cs rs → Q (.ref p) H'
structure TxtDc (K : PySem.W.Frag) (mg : Str → Option Value) (CR fRI fRT fRC fRP : Addr) (fdRT fdRC fdRP : FuncData) : Prop where
  gR : mg "Reader" = some (.ref CR)
  M : Mk K CR fRI
  gRT : mg "read_table" = some (.ref fRT)
  FRT : Fun K "read_table" "read_table" sReadTab fRT fdRT
  bRT : Binds K fdRT ["reader"] []
  gRC : mg "read_careful" = some (.ref fRC)
  FRC : Fun K "read_careful" "read_careful" sReadCar fRC fdRC
  bRC : Binds K fdRC ["reader", "persons"] []
  gRP : mg "read_pairs" = some (.ref fRP)
  FRP : Fun K "read_pairs" "read_pairs" sReadPrs fRP fdRP
  bRP : Binds K fdRP ["reader", "period", "persons"] []
abbrev nDec : List Str := ["code", "reader", "persons", "tables", "keys", "careful", "reminders", "_"]
section
variable {P : Program} {w : World} {K : PySem.W.Frag} {mg : Str → Option Value} {base : Heap} {CR fRI fTk fTB : Addr} {fdRI fdTk fdTB : FuncData} {fII fIB fHO : Addr} {fdII fdIB fdHO : FuncData} {CH pPs gPs fSm : Addr} {fdPs fdSm : FuncData} {fRT fRC fRP : Addr} {fdRT fdRC fdRP : FuncData}
  {C fI : Addr} {fdI : FuncData} {fIT fIR fAs : Addr} {fdIT fdIR fdAs : FuncData} {fP fT fK fC fR : Addr} {fdP fdT fdK fdC fdR : FuncData} {fH : Addr} {fdH : FuncData} {dvs : List V}
theorem scDec : FnScope nDec ["code"] (defScope sDecode) := ⟨rfl, rfl, rfl, by decide +kernel, rfl, by decide +kernel, by decide +kernel⟩
theorem ok_decode {f : Addr} {fd : FuncData} (F : Fun K "decode" "decode" sDecode f fd) (R : TxtRd K mg CR fRI fTk fTB fdRI fdTk fdTB) (Dc : TxtDc K mg CR fRI fRT fRC fRP fdRT fdRC fdRP) (N : TxtEn K mg CH pPs gPs fSm fdPs fdSm) (T : TxtA mg) (TC : TxtC mg) (TF : TxtF K mg fII fIB fHO fdII fdIB fdHO) (TI : TxtI K mg fIT fIR fAs fdIT fdIR fdAs) (TH : TxtIH K mg C fI fdI)
    (TL' : TxtL K mg CH fP fT fK fC fR fdP fdT fdK fdC fdR) (FH : FunD K "__init__" "House.__init__" (defArgs sInit) (defBody sInit) (defScope sInit) dvs [] fH fdH) (bH : Binds K fdH ["self", "tables", "keys", "careful", "reminders"] []) (M : Mk K CH fH) (gH : mg "House" = some (.ref CH)) :
    FnOk P w K mg base CX0 7 f fd ["code"] (spDecode K CH) := by
  have GH : FnOk P w K mg base (L2.CX P w) 5 fH fdH ["self", "tables", "keys", "careful", "reminders"] (spInit K CH C) := ok_init FH T TC TF TI TH TL'
  have GI : FnOk P w K mg base CX0 1 fRI fdRI ["self", "code"] (spRInit CR) := ok_rinit R
  have GT : FnOk P w K mg base CX0 2 fTk fdTk ["self", "allowed"] (spTake K CR) := ok_take R TF T
  have GB : FnOk P w K mg base CX0 3 fTB fdTB ["self", "low", "high"] (spTakeB K CR) := ok_takeb R TF T
  have GRT : FnOk P w K mg base CX0 4 fRT fdRT ["reader"] (spReadTab CR) := ok_readtab Dc.FRT R N TF T
  have GRC : FnOk P w K mg base CX0 4 fRC fdRC ["reader", "persons"] (spReadCar CR) := ok_readcar Dc.FRC R TF T
  have GRP : FnOk P w K mg base CX0 4 fRP fdRP ["reader", "period", "persons"] (spReadPrs CR) := ok_readprs Dc.FRP R TF T TI.rems
  have GPer : FnOk P w K mg base CX0 1 fP fdP ["tables"] (spPeriod K) := ok_period TL'.FP T TC
  have GS : FnOk P w K mg base CX0 1 fSm fdSm ["code"] (spSum K) := ok_sum N
  obtain ⟨t1, eH⟩ := N.header
  obtain ⟨t2, eMP⟩ := TI.most
  obtain ⟨t3, eMK⟩ := TI.keys
  refine F.ok scDec (fun vs H Q E h => ?_) (fun cdv A outer s H vs Q E hr h => ?_)
  · obtain ⟨a, ts, k, cs, rs, rfl, _⟩ := h
    rfl
  · obtain ⟨a, ts, kk, cs, rs, rfl, ea, hP, k⟩ := h
    have hr4 : Room 4 (A.deeper (envOfC (Str.ofString "decode") (defScope sDecode) s.heap.objs.size f cdv)) := hr.mono (by decide)
    have hr3 : Room 3 (A.deeper (envOfC (Str.ofString "decode") (defScope sDecode) s.heap.objs.size f cdv)) := hr.mono (by decide)
    have hr2 : Room 2 (A.deeper (envOfC (Str.ofString "decode") (defScope sDecode) s.heap.objs.size f cdv)) := hr.mono (by decide)
    have hr1 : Room 1 (A.deeper (envOfC (Str.ofString "decode") (defScope sDecode) s.heap.objs.size f cdv)) := hr.mono (by decide)
    refine ⟨_, pss_cons (ps_if (pt_not (pt_val (pe_callB call_isi (by rfl) TF.isinstance (by decide +kernel) (pa_cons (pv 0) (pa_cons (pe_bltn (v := .ty "list") (by rfl) R.list (by decide +kernel) rfl) pa_nil))))) (pss_one ps_never) pss_nil)
      (pss_cons (ps_set (i := 1) scDec.nd rfl (.inr rfl) (pe_make Dc.M GI hr2 rfl Dc.gR R.bRI .nil pass0 (pa_cons (pv 0) pa_nil)))
      (pss_cons (ps_expr (pe_meth (pv 1) R.cl R.mTk GT hr2 R.bTk .nil pass0 (pa_cons (pe_lst (pa_cons (pe_glob (v := .int 75) rfl eH ⟨_, rfl⟩) pa_nil)) pa_nil)))
      (pss_cons (ps_set (i := 2) scDec.nd rfl (.inl rfl) (pe_meth (pv 1) R.cl R.mTB GB hr3 R.bTB .nil pass0 (pa_cons pe_int (pa_cons (pe_glob (v := .int 6) rfl eMP ⟨_, rfl⟩) pa_nil))))
      (pss_cons (ps_set (i := 3) scDec.nd rfl (.inl rfl) (pe_callTy call_tuple_of (by rfl) TF.tuple (by decide +kernel) (pa_cons (pe_lc (own := [("_", 7)]) (g := gName 7) (by rfl) scDec.nd (pi_range1 rfl T.range (pa_cons (pv 2) pa_nil)) (blkOk_by (N := nDec) (sc := defScope sDecode) (by decide +kernel))
          (fun _ _ _ _ _ => pg_name (i := 7) scDec.nd rfl (Or.inl rfl)) (fun _ _ _ _ _ => pts_nil) (fun _ _ _ _ _ => pe_call GRT hr4 rfl Dc.gRT Dc.FRT.kp Dc.bRT .nil pass0 (pa_cons (pv 1) pa_nil))) pa_nil)))
      (pss_cons (ps_set (i := 4) scDec.nd rfl (.inl rfl) (pe_meth (pv 1) R.cl R.mTB GB hr3 R.bTB .nil pass0 (pa_cons pe_int (pa_cons (pe_glob (v := .int 9) rfl eMK ⟨_, rfl⟩) pa_nil))))
      (pss_cons (ps_set (i := 5) scDec.nd rfl (.inl rfl) (pe_call GRC hr4 rfl Dc.gRC Dc.FRC.kp Dc.bRC .nil pass0 (pa_cons (pv 1) (pa_cons (pv 2) pa_nil))))
      (pss_cons (ps_set (i := 6) scDec.nd rfl (.inl rfl) (pe_call GRP hr4 rfl Dc.gRP Dc.FRP.kp Dc.bRP .nil pass0 (pa_cons (pv 1) (pa_cons (pe_call GPer hr1 rfl TL'.gP TL'.FP.kp TL'.bP .nil pass0 (pa_cons (pv 3) pa_nil)) (pa_cons (pv 2) pa_nil)))))
      (pss_cons (ps_expr (pe_meth (pv 1) R.cl R.mTk GT hr2 R.bTk .nil pass0 (pa_cons (pe_lst (pa_cons (pe_call GS hr1 rfl N.gSm N.FSm.kp N.bSm .nil pass0 (pa_cons (pe_slice sl_list (pv 0) po_none (po_some (pe_fld (pv 1) rfl))) pa_nil)) pa_nil)) pa_nil)))
      (pss_cons (ps_if (pt_cmpR op_lt (pe_fld (pv 1) rfl) (pe_callB call_len_seq (by rfl) T.len PySem.boot_len (pa_cons (pv 0) pa_nil)) (nomark _)) (pss_one ps_never) pss_nil)
      (pss_one (ps_ret (pe_make M GH hr rfl gH bH .nil passL (pa_cons (pv 3) (pa_cons (pv 4) (pa_cons (pv 5) (pa_cons (pv 6) pa_nil)))))))))))))))), ?_⟩
    have EA := enc_at ts kk cs rs
    generalize hns : enc ts kk cs rs = ns at ea EA
    have n6 := hP.n6
    have n1 := hP.n1
    refine ⟨_, rfl, _, _, _, _, _, rfl, .ty "list", tyx (.lst (SqL.of ea) (dpAll_ints ns)), kit_ty (kit_lst (.list (ns.map PyData.int))), _, rfl, iteF ?_⟩
    -- the reader
    refine ⟨_, rfl, fun p dx hpn hdx npd => ?_⟩
    have sN : Same H (upd (upd H dx (.own p)) p (.ins CR dx [])) := fun b o e => by
      rw [upd_ne (ne_of_none e hpn), upd_ne (ne_of_none e hdx)]; exact e
    refine ⟨p, dx, a, rfl, upd_same, fun H1 k1 hR1' => ⟨rfl, ?_⟩⟩
    have nap : a ≠ p := ne_of_none ea hpn
    have hR1 : RSt CR H1 p a ns 0 := ⟨hR1', k1 _ _ nap (sN _ _ ea)⟩
    have s1 : Same H H1 := fun b o e => k1 _ _ (ne_of_none e hpn) (sN _ _ e)
    clear k1 sN hdx npd
    -- the header
    obtain ⟨dx1, e11⟩ := hR1.rd.ex
    refine ⟨_, rfl, p, dx1, _, rfl, e11, by rfl, by show 1 ≤ sizeLine; decide, fun l hl => ?_⟩
    have s2 := same_upd (o := .lst [V.int 75]) hl
    have hR1b := hR1.mono s2
    refine ⟨p, a, l, 0, ns, [75], 75, rfl, hR1b.rd, SqL.of hR1b.ls, EA.hd, .inl (SqL.of upd_same), by decide, fun H2 k2 hR2' => ?_⟩
    have hR2 := hR1b.kp k2 hR2'
    have q12 : Kp p H1 H2 := (sKp s2).trans k2
    clear k2 hR2' hR1b s2 hl
    -- how many persons
    obtain ⟨dx2, e22⟩ := hR2.rd.ex
    refine ⟨_, rfl, p, dx2, _, rfl, e22, by rfl, p, a, 1, 6, 1, ns, (ts.length : Int), rfl, hR2.rd, SqL.of hR2.ls, EA.ps, by omega, by omega, by decide, by decide, fun H3 k3 hR3' => ?_⟩
    have hR3 := hR2.kp k3 hR3'
    have q13 := q12.trans k3
    obtain ⟨dx3, e33⟩ := hR3.rd.ex
    -- the timetables
    refine ⟨_, rfl, (ts.length : Int), rfl, by omega, by omega, fun D hD => lc_range (lo := 0) (n := ((ts.length : Nat) : Int).toNat)
      (fun j H4 => Kp p H3 H4 ∧ RSt CR H4 p a ns (2 + ((ts.take j).flatMap tabB).length) ∧ H4 D = some (.lst ((ts.take j).map V.str)))
      ⟨sKp (same_upd hD), hR3.mono (same_upd hD), upd_same⟩ ?_ ?_⟩
    · rintro j H4 hj ⟨k4, hR4, eD⟩
      have hj : j < ts.length := by omega
      have ht : ts[j]? = some ts[j] := List.getElem?_eq_getElem hj
      generalize ts[j] = t at ht
      have npD : p ≠ D := ne_of_none e33 hD
      have naD : a ≠ D := ne_of_none hR3.ls hD
      refine ⟨rfl, _, rfl, p, a, ns, _, t, rfl, hR4, hP.tabs t (List.mem_of_getElem? ht), EA.tb.tab ht, fun H5 k5 hR5 => ?_⟩
      refine ⟨_, k5 _ _ npD.symm eD, ?_, fun b o nb eb => ?_, ?_, ?_⟩
      · rw [List.length_map, List.length_take]
        exact Nat.lt_of_le_of_lt (Nat.le_trans (Nat.min_le_left _ _) (by omega : j ≤ 1000)) (by decide)
      · rw [upd_ne (ne_of_none eb hD)]; exact k5 _ _ nb (k4 _ _ nb eb)
      · rw [take_flat ht, List.length_append, ← Nat.add_assoc]; exact hR5.put npD naD
      · rw [upd_same, take_more ht, List.map_append]; rfl
    rintro H4 ⟨k4, hR4, eD⟩
    rw [Int.toNat_natCast, List.take_length] at hR4 eD
    refine ⟨D, _, rfl, .inl ⟨SqL.of eD, fun aT haT => ?_⟩⟩
    have s5 := same_upd (o := .tup (ts.map V.str)) haT
    have eT : (upd H4 aT (.tup (ts.map V.str))) aT = some (.tup (ts.map V.str)) := upd_same
    have hR5 := hR4.mono s5
    have q15 := (q13.trans k4).trans (sKp s5)
    generalize upd H4 aT (.tup (ts.map V.str)) = H5 at eT hR5 q15
    clear eD hD s5 haT k4 hR4 q13 k3 hR3' q12
    have pT : ∀ {H' : Hp} {i : Nat}, RSt CR H' p a ns i → ∀ t ys, H' t = some (.tup ys) → t ≠ p := fun hR t ys h e => by
      obtain ⟨dx', e'⟩ := hR.rd.ex
      rw [e, e'] at h; cases h
    -- the keys
    obtain ⟨dx5, e55⟩ := hR5.rd.ex
    have k9 := hP.k9
    refine ⟨_, rfl, p, dx5, _, rfl, e55, by rfl, p, a, 0, 9, _, ns, kk, rfl, hR5.rd, SqL.of hR5.ls, EA.ky, hP.k0, by omega, by decide, by decide, fun H6 k6 hR6' => ?_⟩
    have hR6 := hR5.kp k6 hR6'
    have eT6 := k6 _ _ (pT hR5 _ _ eT) eT
    have q16 := q15.trans k6
    -- the careful persons
    refine ⟨_, rfl, _, rfl, p, a, ns, _, ts.length, cs, rfl, n6, hR6, EA.cr, hP.cp, hP.cm, fun H7 aC k7 hR7 _ eC => ?_⟩
    have eT7 := k7 _ _ (pT hR6 _ _ eT6) eT6
    have q17 := q16.trans k7
    -- the reminders
    have h24 : per ts ≤ 24 := Nat.le_of_dvd (by decide) (per_24 hP.tabs)
    refine ⟨_, rfl, _, rfl, aT, ts, rfl, SqT.of eT7, hP.tabs, _, rfl, p, a, ns, _, ts.length, per ts, rs, rfl, n6, h24, hR7, EA.rm, hP.rp, hP.r10, hP.rm, fun H8 aR xs k8 hR8 _ eR hX => ?_⟩
    have eT8 := k8 _ _ (pT hR7 _ _ eT7) eT7
    have eC8 := k8 _ _ (pT hR7 _ _ eC) eC
    have q18 := q17.trans k8
    -- the last byte
    rw [← EA.ln] at hR8
    have eck := EA.ck
    rw [← EA.ln] at eck
    obtain ⟨dx8, e88⟩ := hR8.rd.ex
    have hlen : ns.length = (encB ts kk cs rs).length + 1 := by rw [← hns]; unfold enc; rw [List.length_append]; rfl
    have ecut : cutV (ns.map V.int) none (some (((encB ts kk cs rs).length : Nat) : Int)) = (encB ts kk cs rs).map V.int := by
      rw [cut_to (by rw [List.length_map, hlen]; omega), ← hns]
      unfold enc
      rw [List.map_append, List.take_left' (by rw [List.length_map])]
    refine ⟨_, rfl, p, dx8, _, rfl, e88, by rfl, _, rfl, _, rfl, p, CR, dx8, _, _, rfl, e88, R.cl, R.nP, rF_place _ _, _, rfl, a, _, rfl, SqL.of hR8.ls, fun l hl => ?_⟩
    rw [ecut]
    have s9 := same_upd (o := .lst ((encB ts kk cs rs).map V.int)) hl
    have el : (upd H8 l (.lst ((encB ts kk cs rs).map V.int))) l = some (.lst ((encB ts kk cs rs).map V.int)) := upd_same
    have hR9 := hR8.mono s9
    have q19 := q18.trans (sKp (l := p) s9)
    have eT9 := s9 _ _ eT8
    have eC9 := s9 _ _ eC8
    have eR9 := s9 _ _ eR
    have hX9 : Prs (upd H8 l (.lst ((encB ts kk cs rs).map V.int))) xs rs := hX.mono fun t ys z => s9 _ _ z
    generalize upd H8 l (.lst ((encB ts kk cs rs).map V.int)) = H9 at el hR9 q19 eT9 eC9 eR9 hX9
    refine ⟨l, encB ts kk cs rs, rfl, SqL.of el, by show 1 ≤ sizeLine; decide, fun l2 hl2 => ?_⟩
    have s10 := same_upd (o := .lst [V.int ((encB ts kk cs rs).sum % 256)]) hl2
    have hR10 := hR9.mono s10
    refine ⟨p, a, l2, _, ns, [(encB ts kk cs rs).sum % 256], (encB ts kk cs rs).sum % 256, rfl, hR10.rd, SqL.of hR10.ls, eck, .inl (SqL.of upd_same), by simp, fun H11 k11 hR11' => ?_⟩
    have hR11 := hR10.kp k11 hR11'
    have cK : ∀ t ys, H9 t = some (.tup ys) → H11 t = some (.tup ys) := fun t ys z => k11 _ _ (pT hR10 _ _ (s10 _ _ z)) (s10 _ _ z)
    have eT11 := cK _ _ eT9
    have eC11 := cK _ _ eC9
    have eR11 := cK _ _ eR9
    have hX11 := hX9.mono cK
    have q111 := (q19.trans (sKp (l := p) s10)).trans k11
    have s011 : Same H H11 := fun b o e => q111 _ _ (ne_of_none e hpn) (s1 _ _ e)
    obtain ⟨dx11, e1111⟩ := hR11.rd.ex
    refine ⟨_, rfl, p, CR, dx11, _, _, rfl, e1111, R.cl, R.nP, rF_place _ _, _, rfl, a, _, rfl, .inl (SqL.of hR11.ls), _, _, rfl, rfl, _, rfl, ite2 (fun c => ?_) (fun _ => ?_)⟩
    · have c := of_decide_eq_true c
      rw [List.length_map, hlen] at c
      exact absurd c (Int.lt_irrefl _)
    -- the house
    refine ⟨_, rfl, _, rfl, _, rfl, _, rfl, ?_⟩
    intro u dxn hun hdx nud
    have sN : Same H11 (upd (upd H11 dxn (.own u)) u (.ins CH dxn [])) := fun b o e => by
      rw [upd_ne (ne_of_none e hun), upd_ne (ne_of_none e hdx)]; exact e
    refine ⟨u, dxn, .ref aT, .int kk, .ref aC, .ref aR, dStrs ts, .int kk, dInts cs, dPrs rs, rfl,
      dpSame sN _ _ (.tup (SqT.of eT11) (dpAll_strs ts)), .int _, dpSame sN _ _ (.tup (SqT.of eC11) (dpAll_ints _)), dpSame sN _ _ (.tup (SqT.of eR11) (dpAll_prs hX11)), ?_, upd_same, fun hc H12 k12 e12 => ⟨rfl, ?_⟩, fun part i hc => ?_⟩
    · intro ds hds y hy
      cases hds
      obtain ⟨t, ht, rfl⟩ := List.mem_map.mp hy
      show t.length ≤ 100000
      have := (hP.tabs t ht).pos.2
      rw [len_tl t]; omega
    · have s12 : Same H11 H12 := fun b o e => k12 b o (ne_of_none e hun) (sN _ _ e)
      exact k H12 u (s011.trans s12) (s011.free hun) ⟨⟨dxn, aT, aC, aR, xs, e12, SqT.of (s12 _ _ eT11), SqT.of (s12 _ _ eC11), SqT.of (s12 _ _ eR11), hX11.mono fun t ys h => s12 _ _ h⟩⟩
    · rw [parts_is hP] at hc; cases hc
end
end Dk

set_option Elab.async false
set_option linter.all false
set_option maxRecDepth 100000
set_option maxHeartbeats 4000000
namespace Dk
open PySem PySem.Spec PyProof.Rows L2 TL
theorem parts_sizes {ts : List Str} {k : Int} {cs : List Int} {rs : List Pr} (h : Parts ts k cs rs) : Sizes ts k cs rs := by
  have hp := per_le h.tabs
  refine ⟨h.n6, fun t ht => ?_, h.k0, by have := h.k9; omega, ?_, fun c hc => ?_, h.r10, fun r hr => ?_⟩
  · have := (h.tabs t ht).pos.2; rw [len_tl]; omega
  · -- at most six different persons
    have hb : ∀ (l : List Int) (lo : Int), l.Pairwise (· < ·) → (∀ c ∈ l, lo ≤ c ∧ c < (ts.length : Int)) → (l.length : Int) ≤ max 0 ((ts.length : Int) - lo) := by
      intro l
      induction l with
      | nil => intro lo _ _; show (0 : Int) ≤ max 0 ((ts.length : Int) - lo); omega
      | cons a l ih =>
        intro lo hp hm
        have ha := hm a (List.mem_cons_self ..)
        have := ih (a + 1) (List.pairwise_cons.mp hp).2 fun c hc => by
          have h1 := (List.pairwise_cons.mp hp).1 c hc
          have h2 := hm c (List.mem_cons_of_mem _ hc)
          omega
        rw [List.length_cons]
        omega
    have := hb cs 0 h.cp h.cm
    have := h.n6
    omega
  · have := h.cm c hc; have := h.n6; omega
  · have := h.rm r hr; have := h.n6; omega

/-! ### numbers as data -/
theorem numsE : ∀ l m : List Int, PyData.eqv (.list (l.map PyData.int)) (.list (m.map PyData.int)) = decide (l = m)
  | [], [] => rfl
  | [], _ :: _ => rfl
  | _ :: _, [] => rfl
  | a :: l, b :: m => by
    have ih := numsE l m
    have e : PyData.eqv (.list ((a :: l).map PyData.int)) (.list ((b :: m).map PyData.int)) = ((a == b) && PyData.eqv (.list (l.map PyData.int)) (.list (m.map PyData.int))) := rfl
    rw [e, ih]
    by_cases h1 : a = b
    · subst h1; simp
    · simp [h1]
theorem numsL : ∀ l : List Int, PyData.canLayAll0 (l.map PyData.int) = true ∧ PyData.depthAll (l.map PyData.int) = 0
  | [] => ⟨rfl, rfl⟩
  | a :: l => by
    obtain ⟨h1, h2⟩ := numsL l
    exact ⟨by show (true && PyData.canLayAll0 (l.map PyData.int)) = true; rw [h1]; rfl, by show max 0 (PyData.depthAll (l.map PyData.int)) = 0; rw [h2]; rfl⟩
theorem numsS (l : List Int) : SeqAt.shaped (.list (l.map PyData.int)) = true := by
  obtain ⟨h1, h2⟩ := numsL l
  unfold SeqAt.shaped
  rw [show PyData.canLay0 (.list (l.map PyData.int)) = true from h1, decide_eq_true (show PyData.depth (.list (l.map PyData.int)) ≤ 64 by show PyData.depthAll (l.map PyData.int) + 1 ≤ 64; omega)]
  rfl
theorem numsF (n : Nat) {l : List Int} (h : l.length ≤ 1000) : Flat (n + 1) (.list (l.map PyData.int)) := by
  refine ⟨by rw [List.length_map]; exact h, fun d hd => ?_⟩
  obtain ⟨i, _, rfl⟩ := List.mem_map.mp hd
  cases n <;> trivial
theorem numsD {K : PySem.W.Frag} {H : Hp} {a : Addr} {l : List Int} (e : H a = some (.lst (l.map V.int))) : Dp K H (.ref a) (.list (l.map PyData.int)) := .lst (SqL.of e) (dpAll_ints l)
theorem bit_eq {c : Nat} (h : c = 104 ∨ c = 111) : (if decide (V.str ⟨#[c]⟩ = V.str (Str.ofString "h")) = true then (1 : Int) else 0) = hBit c := by
  rcases h with rfl | rfl
  · have : V.str ⟨#[104]⟩ = V.str (Str.ofString "h") := congrArg V.str (by decide +kernel)
    rw [decide_eq_true this]; rfl
  · have : ¬ (V.str ⟨#[111]⟩ = V.str (Str.ofString "h")) := fun e => by
      injection e with e
      exact absurd e (by decide +kernel)
    rw [decide_eq_false this]; rfl
theorem same_set {H H' : Hp} {l : Addr} {o : HO} (s : Same H H') (n : H l = none) : Same H (upd H' l o) := fun b u e => by rw [upd_ne (ne_of_none e n)]; exact s b u e
def spLaw (K : PySem.W.Frag) : Sp := fun vs H Q _ => ∃ (a : Addr) (ns : List Int), vs = [.ref a] ∧ SqL K H a (ns.map V.int) ∧ ns.length ≤ 63 ∧ ∀ H', Q (.bl true) H'
structure TxtW (K : PySem.W.Frag) (mg : Str → Option Value) (CH : Addr) (fRa fPa fEq fHo fEn fDc pT gT : Addr) (fdRa fdPa fdEq fdHo fdEn fdDc fdT : FuncData) : Prop where
  gRa : mg "_law_random" = some (.ref fRa)
  FRa : Fun K "_law_random" "_law_random" sRandom fRa fdRa
  bRa : Binds K fdRa ["_law_script", "_law_salt"] []
  gPa : mg "_law_parts" = some (.ref fPa)
  FPa : Fun K "_law_parts" "_law_parts" sParts fPa fdPa
  bPa : Binds K fdPa ["_law_d", "_law_most"] []
  gEq : mg "_law_equal" = some (.ref fEq)
  FEq : Fun K "_law_equal" "_law_equal" sEqual fEq fdEq
  bEq : Binds K fdEq ["_law_actual", "_law_expected"] []
  gHo : mg "_law_house" = some (.ref fHo)
  FHo : Fun K "_law_house" "_law_house" sHouseF fHo fdHo
  bHo : Binds K fdHo ["_law_parts_here"] []
  gEn : mg "encode" = some (.ref fEn)
  FEn : Fun K "encode" "encode" sEncode fEn fdEn
  bEn : Binds K fdEn ["house"] []
  gDc : mg "decode" = some (.ref fDc)
  FDc : Fun K "decode" "decode" sDecode fDc fdDc
  bDc : Binds K fdDc ["code"] []
  po : PropOf K CH "text" pT gT
  FT : Fun K "text" "House.text" sText gT fdT
  bT : Binds K fdT ["self"] []
  ln : TxtLn K mg
abbrev nLaw : List Str := ["_law_script", "_law_d", "_law_step", "_law_parts_here", "_law_expected", "_law_table_here", "_law_tick", "_law_person", "_law_again", "_law_code", "_law_sign"]
def lawLoop : List Stmt := match (defBody sLaw)[1]? with
  | some (Stmt.For _ _ b _ _) => b
  | _ => []
def lawTwice : List Stmt := match lawLoop[6]? with
  | some (Stmt.For _ _ b _ _) => b
  | _ => []
section
variable {P : Program} {w : World} {K : PySem.W.Frag} {mg : Str → Option Value} {base : Heap} {CR fRI fTk fTB : Addr} {fdRI fdTk fdTB : FuncData} {fII fIB fHO : Addr} {fdII fdIB fdHO : FuncData} {CH pPs gPs fSm : Addr} {fdPs fdSm : FuncData} {fRT fRC fRP : Addr} {fdRT fdRC fdRP : FuncData}
  {C fI : Addr} {fdI : FuncData} {fIT fIR fAs : Addr} {fdIT fdIR fdAs : FuncData} {fP fT fK fC fR : Addr} {fdP fdT fdK fdC fdR : FuncData} {fH : Addr} {fdH : FuncData} {dvs : List V}
  {fRa fPa fEq fHo fEn fDc pT gT : Addr} {fdRa fdPa fdEq fdHo fdEn fdDc fdTt : FuncData} {fB : Addr} {fdB : FuncData} {fTb fLn : Addr} {fdTb fdLn : FuncData}
theorem scLaw : FnScope nLaw ["_law_script"] (defScope sLaw) := ⟨rfl, rfl, rfl, by decide +kernel, rfl, by decide +kernel, by decide +kernel⟩
theorem law_twice {f : Addr} {cdv : Value} {A : Around} {outer : List Env} {s : Shared} {H0 : Hp} {E : XK} (hr : Room 8 (A.deeper (envOfC (Str.ofString "law") (defScope sLaw) s.heap.objs.size f cdv)))
    (W : TxtW K mg CH fRa fPa fEq fHo fEn fDc pT gT fdRa fdPa fdEq fdHo fdEn fdDc fdTt) (R : TxtRd K mg CR fRI fTk fTB fdRI fdTk fdTB) (Dc : TxtDc K mg CR fRI fRT fRC fRP fdRT fdRC fdRP) (N : TxtEn K mg CH pPs gPs fSm fdPs fdSm) (T : TxtA mg) (TC : TxtC mg) (TF : TxtF K mg fII fIB fHO fdII fdIB fdHO) (TI : TxtI K mg fIT fIR fAs fdIT fdIR fdAs) (TH : TxtIH K mg C fI fdI)
    (TL' : TxtL K mg CH fP fT fK fC fR fdP fdT fdK fdC fdR) (FH : FunD K "__init__" "House.__init__" (defArgs sInit) (defBody sInit) (defScope sInit) dvs [] fH fdH) (bH : Binds K fdH ["self", "tables", "keys", "careful", "reminders"] []) (M : Mk K CH fH) (gH : mg "House" = some (.ref CH)) :
    ∃ tm, PSs (cxOf CX0 P w K mg base nLaw "law" (defScope sLaw) f cdv A outer s H0 E).nox lawTwice tm ∧ ∀ (D : Ends) (σ : L2.St) (H : Hp) (pa q : Addr) (v0 v1 v2 v5 v6 v7 v8 v9 v10 : Option V) (ts : List Str) (kk : Int) (cs : List Int) (rs : List Pr),
      σ = [v0, v1, v2, some (.ref pa), some (.ref q), v5, v6, v7, v8, v9, v10] → PartsAt H pa ts kk cs rs → Parts ts kk cs rs → H q = some (.lst ((enc ts kk cs rs).map V.int)) →
      (∀ (H' : Hp) (w9 : Option V), Same H H' → D.nx [v0, v1, v2, some (.ref pa), some (.ref q), v5, v6, v7, v8, w9, v10] H') → tm D σ H := by
  have GEq : FnOk P w K mg base CX0 3 fEq fdEq ["_law_actual", "_law_expected"] (spE K 2) := ok_equal W.FEq W.bEq W.gEq T TF R.list 2
  have GHo : FnOk P w K mg base CX0 7 fHo fdHo ["_law_parts_here"] (spHouseF K CH) := ok_housef W.FHo T TC TF TI TH TL' FH bH M gH
  have GEn : FnOk P w K mg base CX0 3 fEn fdEn ["house"] (spEnc K CH) := ok_encode W.FEn N TL' T
  have GDc : FnOk P w K mg base CX0 7 fDc fdDc ["code"] (spDecode K CH) := ok_decode W.FDc R Dc N T TC TF TI TH TL' FH bH M gH
  have GTx : FnOk P w K mg base CX0 2 gT fdTt ["self"] (spText K CH) := ok_text W.FT TL' W.ln
  have hr7 : Room 7 (A.deeper (envOfC (Str.ofString "law") (defScope sLaw) s.heap.objs.size f cdv)) := hr.mono (by decide)
  have hr3 : Room 3 (A.deeper (envOfC (Str.ofString "law") (defScope sLaw) s.heap.objs.size f cdv)) := hr.mono (by decide)
  have hu64 : (A.deeper (envOfC (Str.ofString "law") (defScope sLaw) s.heap.objs.size f cdv)).units + 64 < cLine := by have := hr.un; omega
  refine ⟨_, by
    exact pss_cons (ps_set (i := 9) scLaw.nd rfl (.inl rfl) (pe_call GEn hr3 rfl W.gEn W.FEn.kp W.bEn .nil pass0 (pa_cons (pe_call GHo hr7 rfl W.gHo W.FHo.kp W.bHo .nil pass0 (pa_cons (pv 3) pa_nil)) pa_nil)))
      (pss_cons (ps_if (PW.pt (pw_or (pt_not (pt_val (pe_call GEq hr3 rfl W.gEq W.FEq.kp W.bEq .nil pass0 (pa_cons (pv 9) (pa_cons (pv 4) pa_nil)))))
        (pw_or (pt_cmpR op_ne (pe_prop (pe_call GDc hr7 rfl W.gDc W.FDc.kp W.bDc .nil pass0 (pa_cons (pv 9) pa_nil)) TL'.cl W.po GTx hr3 W.bT .nil pass0 rfl) (pe_prop (pe_call GHo hr7 rfl W.gHo W.FHo.kp W.bHo .nil pass0 (pa_cons (pv 3) pa_nil)) TL'.cl W.po GTx hr3 W.bT .nil pass0 rfl) (nomark _))
          (pw_or1 (pt_cmpR (op_neD hu64) (pv 9) (pv 4) (nomark _)))))) (pss_one (ps_ret pe_bl)) pss_nil)
      (pss_one (ps_expr (pe_bm PySem.F.plainAttrs_list PySem.F.slot_list_append PySem.F.type_list_append mt_append (pv 9) (pa_cons pe_int pa_nil))))), ?_⟩
  intro D σ H pa q v0 v1 v2 v5 v6 v7 v8 v9 v10 ts kk cs rs hσ hPA hP eq k
  subst hσ
  have S := parts_sizes hP
  have hln : (enc ts kk cs rs).length ≤ 201 := by
    unfold enc
    rw [List.length_append]
    have := (encB_len hP).2
    show _ + 1 ≤ _; omega
  refine ⟨_, rfl, pa, ts, kk, cs, rs, rfl, hPA, hP, fun H1 p s1 hp1 hA1 => ⟨p, ts, kk, cs, rs, rfl, hA1, hP, fun H2 a s2 ha ea => ?_⟩⟩
  have s12 := s1.trans s2
  have haH : H a = none := s1.free ha
  -- equal
  refine ⟨_, rfl, _, rfl, .ref a, .ref q, .list ((enc ts kk cs rs).map PyData.int), rfl, numsD ea, numsD (s12 _ _ eq), numsF _ (by omega), fun H3 s3 => ⟨_, rfl, iteF ?_⟩⟩
  have s13 := s12.trans s3
  have ea3 := s3 _ _ ea
  -- read again
  refine ⟨_, rfl, a, ts, kk, cs, rs, rfl, ea3, hP, fun H4 u s4 hu4 hA4 => ?_⟩
  obtain ⟨dxu, b1, b2, b3, xu, g1, g2, g3, g4, g5⟩ := id hA4.ex
  refine ⟨u, dxu, _, rfl, g1, u, ts, kk, cs, rs, rfl, hA4, S, fun H5 s5 => ?_⟩
  have s15 := (s13.trans s4).trans s5
  refine ⟨_, rfl, pa, ts, kk, cs, rs, rfl, hPA.mono fun t ys z => s15 _ _ z, hP, fun H6 u2 s6 hu6 hA6 => ?_⟩
  obtain ⟨dxv, c1, c2, c3, xv, d1, d2, d3, d4, d5⟩ := id hA6.ex
  refine ⟨u2, dxv, _, rfl, d1, u2, ts, kk, cs, rs, rfl, hA6, S, fun H7 s7 => ?_⟩
  have s17 := (s15.trans s6).trans s7
  have ea7 := s7 _ _ (s6 _ _ (s5 _ _ (s4 _ _ ea3)))
  refine ⟨rfl, _, rfl, ?_⟩
  rw [decide_eq_true (rfl : V.str (textOf ts kk cs rs) = V.str (textOf ts kk cs rs))]
  refine iteF ⟨_, rfl, _, rfl, .list ((enc ts kk cs rs).map PyData.int), .list ((enc ts kk cs rs).map PyData.int), numsD ea7, numsD (s17 _ _ eq), numsS _, numsS _, _, rfl, ?_⟩
  rw [numsE, decide_eq_true rfl]
  refine iteF ⟨_, rfl, .inl ⟨rfl, _, SqL.of ea7⟩, a, _, _, rfl, rfl, ea7, ?_, ?_⟩
  · rw [List.length_map]; exact Nat.lt_of_le_of_lt hln (by decide)
  · exact k _ _ (same_set s17 haH)
end
end Dk

set_option Elab.async false
set_option linter.all false
set_option maxRecDepth 100000
set_option maxHeartbeats 4000000
namespace Dk
open PySem PySem.Spec PyProof.Rows L2 TL
section
variable {P : Program} {w : World} {K : PySem.W.Frag} {mg : Str → Option Value} {base : Heap} {CR fRI fTk fTB : Addr} {fdRI fdTk fdTB : FuncData} {fII fIB fHO : Addr} {fdII fdIB fdHO : FuncData} {CH pPs gPs fSm : Addr} {fdPs fdSm : FuncData} {fRT fRC fRP : Addr} {fdRT fdRC fdRP : FuncData}
  {C fI : Addr} {fdI : FuncData} {fIT fIR fAs : Addr} {fdIT fdIR fdAs : FuncData} {fP fT fK fC fR : Addr} {fdP fdT fdK fdC fdR : FuncData} {fH : Addr} {fdH : FuncData} {dvs : List V}
  {fRa fPa fEq fHo fEn fDc pT gT : Addr} {fdRa fdPa fdEq fdHo fdEn fdDc fdTt : FuncData} {fB : Addr} {fdB : FuncData} {fTb fLn : Addr} {fdTb fdLn : FuncData}
theorem ok_law {f : Addr} {fd : FuncData} (F : Fun K "law" "law" sLaw f fd) (B : TxtB K mg fB fdB) (D' : TxtD K mg fTb fLn fdTb fdLn) (W : TxtW K mg CH fRa fPa fEq fHo fEn fDc pT gT fdRa fdPa fdEq fdHo fdEn fdDc fdTt) (R : TxtRd K mg CR fRI fTk fTB fdRI fdTk fdTB) (Dc : TxtDc K mg CR fRI fRT fRC fRP fdRT fdRC fdRP) (N : TxtEn K mg CH pPs gPs fSm fdPs fdSm) (T : TxtA mg) (TC : TxtC mg) (TF : TxtF K mg fII fIB fHO fdII fdIB fdHO) (TI : TxtI K mg fIT fIR fAs fdIT fdIR fdAs) (TH : TxtIH K mg C fI fdI)
    (TL' : TxtL K mg CH fP fT fK fC fR fdP fdT fdK fdC fdR) (FH : FunD K "__init__" "House.__init__" (defArgs sInit) (defBody sInit) (defScope sInit) dvs [] fH fdH) (bH : Binds K fdH ["self", "tables", "keys", "careful", "reminders"] []) (M : Mk K CH fH) (gH : mg "House" = some (.ref CH)) :
    FnOk P w K mg base CX0 9 f fd ["_law_script"] (spLaw K) := by
  have GRa : FnOk P w K mg base CX0 1 fRa fdRa ["_law_script", "_law_salt"] (spRandom K) := ok_random W.FRa T
  have GPa : FnOk P w K mg base CX0 3 fPa fdPa ["_law_d", "_law_most"] spParts := ok_parts W.FPa T B D'
  refine F.ok scLaw (fun vs H Q E h => ?_) (fun cdv A outer s H vs Q E hr h => ?_)
  · obtain ⟨a, ns, rfl, _⟩ := h
    rfl
  · obtain ⟨a, ns, rfl, hS, hlen, k⟩ := h
    have hr3 : Room 3 (A.deeper (envOfC (Str.ofString "law") (defScope sLaw) s.heap.objs.size f cdv)) := hr.mono (by decide)
    have hr1 : Room 1 (A.deeper (envOfC (Str.ofString "law") (defScope sLaw) s.heap.objs.size f cdv)) := hr.mono (by decide)
    obtain ⟨tI, pI, hI⟩ := law_twice (P := P) (w := w) (K := K) (mg := mg) (base := base) (f := f) (cdv := cdv) (A := A) (outer := outer) (s := s) (H0 := H) (E := E) hr W R Dc N T TC TF TI TH TL' FH bH M gH
    refine ⟨_, pss_cons (ps_set (i := 1) scLaw.nd rfl (.inl rfl) (pe_call GRa hr1 rfl W.gRa W.FRa.kp W.bRa .nil pass0 (pa_cons (pv 0) (pa_cons pe_int pa_nil))))
      (pss_cons (ps_for PassesOwn.never rfl (pi_range1 rfl T.range (pa_cons pe_int pa_nil)) (pg_name (i := 2) scLaw.nd rfl (.inl rfl))
        (pss_cons (ps_set (i := 3) scLaw.nd rfl (.inl rfl) (pe_call GPa hr3 rfl W.gPa W.FPa.kp W.bPa .nil pass0 (pa_cons (pv 1) (pa_cons pe_int pa_nil))))
        (pss_cons (ps_set (i := 4) scLaw.nd rfl (.inl rfl) (pe_lst (pa_cons pe_int (pa_cons (pe_callB call_len_seq (by rfl) T.len PySem.boot_len (pa_cons (pe_ix ix_tup (pv 3) pe_int (fun _ _ => rfl)) pa_nil)) pa_nil))))
        (pss_cons (ps_for PassesOwn.never rfl (pi_tup (pe_ix ix_tup (pv 3) pe_int (fun _ _ => rfl))) (pg_name (i := 5) scLaw.nd rfl (.inl rfl))
          (pss_one (ps_set (i := 4) scLaw.nd rfl (.inl rfl) (pe_op op_cat (pe_op op_cat (pv 4) (pe_lst (pa_cons (pe_callB call_len_str (by rfl) T.len PySem.boot_len (pa_cons (pv 5) pa_nil)) pa_nil)))
            (pe_lc (own := [("_law_sign", 10)]) (g := gName 10) (by rfl) scLaw.nd (pi_str (pv 5)) (blkOk_by (N := nLaw) (sc := defScope sLaw) (by decide +kernel)) (fun _ _ _ _ _ => pg_name (i := 10) scLaw.nd rfl (Or.inl rfl)) (fun _ _ _ _ _ => pts_nil)
              (fun _ _ _ _ _ => pe_callTy call_int1 (by rfl) TF.int (by decide +kernel) (pa_cons (pe_cmpR op_eq (pv 10) pe_str (nomark _)) pa_nil)))))))
        (pss_cons (ps_set (i := 4) scLaw.nd rfl (.inl rfl) (pe_op op_cat (pe_op op_cat (pe_op op_cat (pv 4) (pe_lst (pa_cons (pe_ix ix_tup (pv 3) pe_int (fun _ _ => rfl)) (pa_cons (pe_callB call_len_seq (by rfl) T.len PySem.boot_len (pa_cons (pe_ix ix_tup (pv 3) pe_int (fun _ _ => rfl)) pa_nil)) pa_nil))))
            (pe_callTy call_list_of (by rfl) R.list (by decide +kernel) (pa_cons (pe_ix ix_tup (pv 3) pe_int (fun _ _ => rfl)) pa_nil))) (pe_lst (pa_cons (pe_callB call_len_seq (by rfl) T.len PySem.boot_len (pa_cons (pe_ix ix_tup (pv 3) pe_int (fun _ _ => rfl)) pa_nil)) pa_nil))))
        (pss_cons (ps_for PassesOwn.never rfl (pi_tup (pe_ix ix_tup (pv 3) pe_int (fun _ _ => rfl))) (pg_tup rfl (pgs_cons (pg_name (i := 6) scLaw.nd rfl (.inl rfl)) (pgs_cons (pg_name (i := 7) scLaw.nd rfl (.inl rfl)) pgs_nil)))
          (pss_one (ps_set (i := 4) scLaw.nd rfl (.inl rfl) (pe_op op_cat (pv 4) (pe_lst (pa_cons (pv 6) (pa_cons (pv 7) pa_nil)))))))
        (pss_cons (ps_expr (pe_bm PySem.F.plainAttrs_list PySem.F.slot_list_append PySem.F.type_list_append mt_append (pv 4) (pa_cons (pe_op op_mod (pe_callB (cr_sum rfl) (by rfl) N.sum (by decide +kernel) (pa_cons (pv 4) pa_nil)) pe_int) pa_nil)))
        (pss_one (ps_for PassesOwn.never rfl (pi_range1 rfl T.range (pa_cons pe_int pa_nil)) (pg_name (i := 8) scLaw.nd rfl (.inl rfl)) pI)))))))))
      (pss_one (ps_ret pe_bl))), ?_⟩
    refine ⟨_, rfl, a, ns, 16, rfl, hS, hlen, by decide, by decide, fun H1 d st s1 _ hd hg => ?_⟩
    refine ⟨_, rfl, by decide, by decide, for_range (lo := 0) (n := 4) (fun i σ H2 => ∃ (st2 : List Int) (v2 v3 v4 v5 v6 v7 v8 v9 v10 : Option V), σ = [some (.ref a), some (.ref d), v2, v3, v4, v5, v6, v7, v8, v9, v10] ∧ Kp d H1 H2 ∧ H2 d = some (.lst (st2.map V.int)) ∧ Good st2) ⟨st, _, _, _, _, _, _, _, _, _, rfl, Kp.refl, hd, hg⟩ ?_ ?_⟩
    · rintro i σ H2 hi ⟨st2, v2, v3, v4, v5, v6, v7, v8, v9, v10, rfl, k2, hd2, hg2⟩
      refine ⟨_, rfl, d, 6, st2, rfl, hd2, hg2, by decide, by decide, fun H3 st3 pa ts kk cs rs k3 hd3 hg3 hPA hP => ?_⟩
      have k13 := k2.trans k3
      clear k2 k3 hd2 hg2
      obtain ⟨aT, aC, aR, xs, e1, e2, e3, e4, e5⟩ := id hPA
      have n6 := hP.n6
      have lc6 := up_le6 hP.cp hP.cm n6
      obtain ⟨lC, lB⟩ := encB_len hP
      have lT := encT_len hP.tabs n6
      -- the first two
      refine ⟨_, rfl, pa, _, 0, _, rfl, rfl, SqT.of e1, at0, aT, _, rfl, .inr (SqT.of e2), by show 2 ≤ sizeLine; decide, fun q hq => ?_⟩
      rw [List.length_map]
      have s4 := same_upd (o := .lst [.int 75, .int (ts.length : Int)]) hq
      have eq4 : (upd H3 q (.lst [.int 75, .int (ts.length : Int)])) q = some (.lst (([75, (ts.length : Int)] : List Int).map V.int)) := upd_same
      generalize upd H3 q (.lst [.int 75, .int (ts.length : Int)]) = H4 at s4 eq4
      -- the timetables
      refine ⟨_, rfl, pa, _, 0, _, rfl, rfl, SqT.of (s4 _ _ e1), at0, aT, rfl, ⟨_, SqT.of (s4 _ _ e2)⟩, for_tup (K := K) (a := aT) (xs := ts.map V.str)
        (fun j σ H' => ∃ (q5 : Addr) (v5 v10 : Option V), σ = [some (.ref a), some (.ref d), some (.int ((0 : Int) + (i : Int))), some (.ref pa), some (.ref q5), v5, v6, v7, v8, v9, v10] ∧ Same H3 H' ∧ H3 q5 = none ∧ H' q5 = some (.lst (([75, (ts.length : Int)] ++ (ts.take j).flatMap tabB).map V.int)))
        ⟨q, _, _, rfl, s4, hq, by rw [eq4]; rfl⟩ (fun j σ H' _ ⟨_, _, _, _, s', _⟩ => SqT.of (s' _ _ e2)) ?_ ?_⟩
      · rintro j y σ H5 hj ⟨q5, v5, v10, rfl, s5, n5, eq5⟩
        obtain ⟨t, ht, rfl⟩ := map_at hj
        have hit := hP.tabs t (List.mem_of_getElem? ht)
        have hl2 : ([75, (ts.length : Int)] ++ (ts.take j).flatMap tabB).length ≤ 152 := by
          have := flat_len (f := tabB) (l := ts.take j) (m := 25) fun x hx => tabB_len hP.tabs x (List.mem_of_mem_take hx)
          rw [List.length_append]
          have h3 : (ts.take j).length ≤ 6 := by rw [List.length_take]; omega
          have h4 : (ts.take j).length * 25 ≤ 150 := by omega
          show 2 + _ ≤ _
          omega
        generalize hcode : [75, (ts.length : Int)] ++ (ts.take j).flatMap tabB = code at eq5 hl2
        have hz := hit.pos.2
        refine ⟨_, rfl, _, rfl, _, rfl, hit.size, by show 1 ≤ sizeLine; decide, fun l hl => ?_⟩
        have s6 := same_upd (o := .lst [V.int (t.length : Int)]) hl
        refine ⟨q5, l, _, _, rfl, rfl, s6 _ _ eq5, upd_same, ?_, fun m hm => ?_⟩
        · rw [List.length_map]; exact Nat.le_trans (by show _ + 1 ≤ 1000; omega) (by decide)
        have s7 := s6.trans (same_upd (o := .lst (code.map V.int ++ [V.int (t.length : Int)])) hm)
        have em : (upd (upd H5 l (.lst [V.int (t.length : Int)])) m (.lst (code.map V.int ++ [V.int (t.length : Int)]))) m = some (.lst ((code ++ [(t.length : Int)]).map V.int)) := by rw [upd_same, List.map_append]; rfl
        generalize upd (upd H5 l (.lst [V.int (t.length : Int)])) m (.lst (code.map V.int ++ [V.int (t.length : Int)])) = H6 at s7 em
        refine ⟨_, rfl, t, rfl, fun Dl hD => lc_it walk_str
          (fun n H7 => Same H6 H7 ∧ H7 Dl = some (.lst ((((tl t).take n).map hBit).map V.int)))
          ⟨same_upd hD, upd_same⟩ (fun _ _ _ _ => True.intro) ?_ ?_⟩
        · rintro n y H7 H8 hn ⟨s8, eD⟩ ⟨rfl, c, hc, rfl⟩
          have hc' : (tl t)[n]? = some c := by rw [← hc]; exact Array.getElem?_toList
          have hb := bit_eq (hit.ho c (List.mem_of_getElem? hc'))
          refine ⟨rfl, _, rfl, rfl, .inr ⟨_, rfl, ?_⟩⟩
          rw [hb]
          refine ⟨_, eD, ?_, fun b o eb => ?_, ?_⟩
          · rw [List.length_map, List.length_map, List.length_take]
            exact Nat.lt_of_le_of_lt (Nat.le_trans (Nat.min_le_right _ _) (by omega : _ ≤ 1000)) (by decide)
          · rw [upd_ne (ne_of_none eb hD)]; exact s8 _ _ eb
          · rw [upd_same, take_more hc', List.map_append, List.map_append]; rfl
        · rintro H7 ⟨s8, eD⟩
          have e : (tl t).take t.cps.size = tl t := List.take_of_length_le (by simp)
          rw [e] at eD
          have s37 := (s5.trans s7).trans s8
          refine ⟨m, Dl, _, _, rfl, rfl, s8 _ _ em, eD, ?_, fun z hz' => ?_⟩
          · simp only [List.length_map, List.length_append, List.length_cons, List.length_nil]
            exact Nat.le_trans (by omega : _ ≤ 1000) (by decide)
          refine ⟨z, _, _, rfl, s37.trans (same_upd hz'), s37.free hz', ?_⟩
          rw [upd_same, take_flat ht, ← List.append_assoc, hcode, ← List.map_append]
          unfold tabB
          rw [len_tl t, List.append_assoc]
          rfl
      · rintro σ H5 ⟨q5, v5, v10, rfl, s5, n5, eq5⟩
        rw [List.length_map, List.take_length] at eq5
        have eq5 : H5 q5 = some (.lst ((encT ts).map V.int)) := eq5
        have f1 := s5 _ _ e1
        -- keys and careful persons
        refine ⟨_, rfl, _, rfl, pa, _, 1, _, rfl, rfl, SqT.of f1, at1, _, rfl, pa, _, 2, _, rfl, rfl, SqT.of f1, at2, aC, _, rfl, .inr (SqT.of (s5 _ _ e3)), by show 2 ≤ sizeLine; decide, fun l hl => ?_⟩
        rw [List.length_map]
        have s6 := same_upd (o := .lst [V.int kk, V.int (cs.length : Int)]) hl
        refine ⟨q5, l, _, _, rfl, rfl, s6 _ _ eq5, upd_same, ?_, fun m hm => ?_⟩
        · rw [List.length_map]; exact Nat.le_trans (by show _ + 2 ≤ 1000; omega) (by decide)
        have s7 := s6.trans (same_upd (o := .lst ((encT ts).map V.int ++ [V.int kk, V.int (cs.length : Int)])) hm)
        have em : (upd (upd H5 l (.lst [V.int kk, V.int (cs.length : Int)])) m (.lst ((encT ts).map V.int ++ [V.int kk, V.int (cs.length : Int)]))) m = some (.lst ((encT ts ++ [kk, (cs.length : Int)]).map V.int)) := by rw [upd_same, List.map_append]; rfl
        generalize upd (upd H5 l (.lst [V.int kk, V.int (cs.length : Int)])) m (.lst ((encT ts).map V.int ++ [V.int kk, V.int (cs.length : Int)])) = H6 at s7 em
        have s36 := s5.trans s7
        refine ⟨_, rfl, pa, _, 2, _, rfl, rfl, SqT.of (s36 _ _ e1), at2, aC, _, rfl, .inr (SqT.of (s36 _ _ e3)), fun l2 hl2 => ?_⟩
        have s8 := same_upd (o := .lst (cs.map V.int)) hl2
        refine ⟨m, l2, _, _, rfl, rfl, s8 _ _ em, upd_same, ?_, fun m2 hm2 => ?_⟩
        · simp only [List.length_map, List.length_append, List.length_cons, List.length_nil]
          exact Nat.le_trans (by omega : _ ≤ 1000) (by decide)
        have s9 := s8.trans (same_upd (o := .lst ((encT ts ++ [kk, (cs.length : Int)]).map V.int ++ cs.map V.int)) hm2)
        have em2 : (upd (upd H6 l2 (.lst (cs.map V.int))) m2 (.lst ((encT ts ++ [kk, (cs.length : Int)]).map V.int ++ cs.map V.int))) m2 = some (.lst ((encC ts kk cs).map V.int)) := by
          rw [upd_same, ← List.map_append]
          unfold encC
          simp only [List.append_assoc, List.cons_append, List.nil_append]
        generalize upd (upd H6 l2 (.lst (cs.map V.int))) m2 (.lst ((encT ts ++ [kk, (cs.length : Int)]).map V.int ++ cs.map V.int)) = H7 at s9 em2
        have s37 := s36.trans s9
        refine ⟨_, rfl, pa, _, 3, _, rfl, rfl, SqT.of (s37 _ _ e1), at3, aR, _, rfl, .inr (SqT.of (s37 _ _ e4)), by show 1 ≤ sizeLine; decide, fun l3 hl3 => ?_⟩
        rw [e5.len]
        have s10 := same_upd (o := .lst [V.int (rs.length : Int)]) hl3
        refine ⟨m2, l3, _, _, rfl, rfl, s10 _ _ em2, upd_same, ?_, fun m3 hm3 => ?_⟩
        · rw [List.length_map]; exact Nat.le_trans (by show _ + 1 ≤ 1000; omega) (by decide)
        have s11 := s10.trans (same_upd (o := .lst ((encC ts kk cs).map V.int ++ [V.int (rs.length : Int)])) hm3)
        have em3 : (upd (upd H7 l3 (.lst [V.int (rs.length : Int)])) m3 (.lst ((encC ts kk cs).map V.int ++ [V.int (rs.length : Int)]))) m3 = some (.lst ((encC ts kk cs ++ [(rs.length : Int)]).map V.int)) := by rw [upd_same, List.map_append]; rfl
        have n3 : H7 m3 = none := s10.free hm3
        generalize upd (upd H7 l3 (.lst [V.int (rs.length : Int)])) m3 (.lst ((encC ts kk cs).map V.int ++ [V.int (rs.length : Int)])) = H8 at s11 em3
        have s38 := s37.trans s11
        have n38 : H3 m3 = none := s37.free n3
        -- the reminders
        refine ⟨_, rfl, pa, _, 3, _, rfl, rfl, SqT.of (s38 _ _ e1), at3, aR, rfl, ⟨_, SqT.of (s38 _ _ e4)⟩, for_tup (K := K) (a := aR) (xs := xs)
          (fun j σ H' => ∃ (q9 : Addr) (v6 v7 : Option V), σ = [some (.ref a), some (.ref d), some (.int ((0 : Int) + (i : Int))), some (.ref pa), some (.ref q9), v5, v6, v7, v8, v9, v10] ∧ Same H3 H' ∧ H3 q9 = none ∧ H' q9 = some (.lst (((encC ts kk cs ++ [(rs.length : Int)]) ++ (rs.take j).flatMap prB).map V.int)))
          ⟨m3, _, _, rfl, s38, n38, by rw [em3]; simp⟩ (fun j σ H' _ ⟨_, _, _, _, s', _⟩ => SqT.of (s' _ _ e4)) ?_ ?_⟩
        · rintro j y σ H9 hj ⟨q9, v6, v7, rfl, s39, n9, eq9⟩
          have hjx : j < xs.length := (List.getElem?_eq_some_iff.mp hj).1
          have hlen := e5.len
          have hrj : rs[j]? = some (rs[j]'(by omega)) := List.getElem?_eq_getElem _
          generalize rs[j]'(by omega) = r at hrj
          have hPr : PrAt H3 y r := by
            have hk : (xs.map (kf H3))[j]? = some (kf H3 y) := by rw [List.getElem?_map, hj]; rfl
            rw [e5.kf, hrj] at hk
            have e := Option.some.inj hk
            rw [e]; exact e5.mem y (List.mem_of_getElem? hj)
          obtain ⟨t, rfl, ht⟩ := hPr
          refine ⟨t, _, rfl, SqT.of (s39 _ _ ht), rfl, _, _, rfl, _, _, rfl, rfl, ?_⟩
          refine ⟨_, rfl, _, rfl, _, rfl, by show 2 ≤ sizeLine; decide, fun l4 hl4 => ?_⟩
          have s12 := same_upd (o := .lst [.int r.1, .int r.2]) hl4
          have hlf : ((rs.take j).flatMap prB).length ≤ (rs.take j).length * 2 := flat_len fun r _ => Nat.le_refl 2
          have hli : (rs.take j).length ≤ 10 := by rw [List.length_take]; have := hP.r10; omega
          refine ⟨q9, l4, _, _, rfl, rfl, s12 _ _ eq9, upd_same, ?_, fun m4 hm4 => ?_⟩
          · simp only [List.length_map, List.length_append, List.length_cons, List.length_nil]
            exact Nat.le_trans (by omega : _ ≤ 1000) (by decide)
          refine ⟨m4, _, _, rfl, (s39.trans s12).trans (same_upd hm4), (s39.trans s12).free hm4, ?_⟩
          rw [upd_same, take_flat hrj, ← List.append_assoc]
          rw [List.map_append (l₂ := prB r)]
          rfl
        · rintro σ H9 ⟨q9, v6, v7, rfl, s39, n9, eq9⟩
          rw [e5.len, List.take_length] at eq9
          have eq9 : H9 q9 = some (.lst ((encB ts kk cs rs).map V.int)) := eq9
          -- the last byte
          refine ⟨_, rfl, .inl ⟨rfl, _, SqL.of eq9⟩, _, rfl, q9, encB ts kk cs rs, rfl, SqL.of eq9, _, _, rfl, rfl, by show (0 : Int) < 256; decide, q9, _, _, rfl, rfl, eq9, ?_, ?_⟩
          · rw [List.length_map]; exact Nat.lt_of_le_of_lt lB (by decide)
          have s310 := same_set (o := .lst ((encB ts kk cs rs).map V.int ++ [V.int ((encB ts kk cs rs).sum % 256)])) s39 n9
          have eq10 : (upd H9 q9 (.lst ((encB ts kk cs rs).map V.int ++ [V.int ((encB ts kk cs rs).sum % 256)]))) q9 = some (.lst ((enc ts kk cs rs).map V.int)) := by
            rw [upd_same]; unfold enc; rw [List.map_append]; rfl
          have nqd : q9 ≠ d := (ne_of_none hd3 n9).symm
          refine ⟨_, rfl, by decide, by decide, for_range (lo := 0) (n := 2)
            (fun j σ H' => ∃ (v8 v9 : Option V), σ = [some (.ref a), some (.ref d), some (.int ((0 : Int) + (i : Int))), some (.ref pa), some (.ref q9), v5, v6, v7, v8, v9, v10] ∧ Same (upd H9 q9 (.lst ((encB ts kk cs rs).map V.int ++ [V.int ((encB ts kk cs rs).sum % 256)]))) H')
            ⟨_, _, rfl, Same.refl _⟩ ?_ ?_⟩
          · rintro j σ H11 hj ⟨v8, v9, rfl, s11'⟩
            exact hI _ _ H11 pa q9 _ _ _ _ _ _ _ _ _ ts kk cs rs rfl (hPA.mono fun t ys z => s11' _ _ (s310 _ _ z)) hP (s11' _ _ eq10) (fun H' w9 s' => ⟨_, _, rfl, s11'.trans s'⟩)
          · rintro σ H11 ⟨v8, v9, rfl, s11'⟩
            have s311 := s310.trans s11'
            exact ⟨st3, _, _, _, _, _, _, _, _, _, rfl, k13.trans (sKp s311), s311 _ _ hd3, hg3⟩
    · rintro σ H2 ⟨st2, v2, v3, v4, v5, v6, v7, v8, v9, v10, rfl, k2, hd2, hg2⟩
      exact k _
end
end Dk

set_option Elab.async false
set_option linter.all false
set_option maxRecDepth 100000
set_option maxHeartbeats 4000000
namespace Dk
open PySem PySem.Spec PyProof.Rows L2 TL
/-! ### what the top has written -/
structure FnAt (K : PySem.W.Frag) (x : Str) (st : Stmt) (f : Addr) (fd : FuncData) : Prop where
  g : PySem.W.nsIn K mainGlobals x = some (some (.ref f))
  F : Fun K x x st f fd
theorem fnAt_mk {K : PySem.W.Frag} {x : Str} {st : Stmt} {f : Addr} {oc : Value} {od an : Option Addr} {osl : Array (Option Value)} {kV doc pm cdv ct : Value} (a : PySem.W.nsIn K mainGlobals x = some (some (.ref f)))
    (l : K.lookup f = some ⟨oc, od, .func (PySem.W.fnOf x x (defArgs st) (defBody st) (defScope st) .none kV doc pm an cdv ct), osl⟩)
    (c : PySem.W.codeIn K cdv x = true) (k : PySem.W.keepIn K (.ref f) = true) : FnAt K x st f (PySem.W.fnOf x x (defArgs st) (defBody st) (defScope st) .none kV doc pm an cdv ct) := ⟨a, fun_mk l c k⟩
/-- an error of the program's own -/
structure ErrAt (K : PySem.W.Frag) (x q : Str) (st : Stmt) (C f : Addr) (fd : FuncData) : Prop where
  g : PySem.W.nsIn K mainGlobals x = some (some (.ref C))
  O : OexC K C
  i : PySem.W.findIn K (.ref C) "__init__" = some (some (.ref f))
  t : PySem.W.typeIn K (.ref f) = some (.type "function")
  F : Fun K "__init__" q st f fd
theorem errAt_mk {K : PySem.W.Frag} {x q : Str} {st : Stmt} {C C0 f : Addr} {nm qn : Str} {N : Addr} {bs : List Value} {sn : List Str} {sub : List Value} {ab : Bool} {col : Option Bool} {dd : Option Addr} {m0 m1 m2 m3 m5 : Option Value}
    {oc : Value} {od an : Option Addr} {osl : Array (Option Value)} {kV doc pm cdv ct : Value}
    (a : PySem.W.nsIn K mainGlobals x = some (some (.ref C)))
    (xL : K.lookup C = some (excClassObj nm qn C N bs [.ref C0, .type "ValueError", .type "Exception", .type "BaseException", .type "object"] true sn sub ab col dd m0 m1 m2 m3 m5 "ValueError.__new__"))
    (sa : PySem.W.findIn K (.ref C) "__setattr__" = some (some (.builtin "object.__setattr__"))) (eC : PySem.W.subIn K (.ref C) (.type "BaseException") = some true) (tC : PySem.W.typeIn K (.ref C) = some (.type "type")) (kC : PySem.W.keepIn K (.ref C) = true)
    (i : PySem.W.findIn K (.ref C) "__init__" = some (some (.ref f))) (t : PySem.W.typeIn K (.ref f) = some (.type "function"))
    (l : K.lookup f = some ⟨oc, od, .func (PySem.W.fnOf "__init__" q (defArgs st) (defBody st) (defScope st) .none kV doc pm an cdv ct), osl⟩)
    (c : PySem.W.codeIn K cdv q = true) (k : PySem.W.keepIn K (.ref f) = true) : ErrAt K x q st C f (PySem.W.fnOf "__init__" q (defArgs st) (defBody st) (defScope st) .none kV doc pm an cdv ct) :=
  ⟨a, ⟨⟨nm, qn, N, bs, _, sn, sub, ab, col, dd, m0, m1, m2, m3, m5, xL, (by decide +kernel : PySem.HandSPX.refsVE [.type "ValueError", .type "Exception", .type "BaseException", .type "object"] = true)⟩, sa, eC, tC, kC⟩, i, t, fun_mk l c k⟩
/-- a tuple of texts or numbers among the globals -/
def TupAt (K : PySem.W.Frag) (x : Str) (xs : List V) : Prop := ∃ a, PySem.W.nsIn K mainGlobals x = some (some (.ref a)) ∧ SqT K (fun _ => none) a xs
theorem tupAt_mk {K : PySem.W.Frag} {x : Str} {xs : List V} {a : Addr} {od : Option Addr} {osl : Array (Option Value)} {its : Array Value} {n : Nat} (g : PySem.W.nsIn K mainGlobals x = some (some (.ref a)))
    (l : K.lookup a = some ⟨.type "tuple", od, .seq its n, osl⟩) (z : its.size ≤ sizeLine) (v : Vals xs its.toList) : TupAt K x xs := ⟨a, g, .inr ⟨_, its, n, l, rfl, rfl, z, v⟩⟩
def IntAt (K : PySem.W.Frag) (x : Str) (i : Int) : Prop := ∃ t, PySem.W.nsIn K mainGlobals x = some (some (.int i t))
theorem intAt_mk {K : PySem.W.Frag} {x : Str} {i : Int} {t : Nat} (g : PySem.W.nsIn K mainGlobals x = some (some (.int i t))) : IntAt K x i := ⟨t, g⟩
def StrAt (K : PySem.W.Frag) (x : Str) (i : Str) : Prop := ∃ t, PySem.W.nsIn K mainGlobals x = some (some (.str i t))
theorem strAt_mk {K : PySem.W.Frag} {x : Str} {i : Str} {t : Nat} (g : PySem.W.nsIn K mainGlobals x = some (some (.str i t))) : StrAt K x i := ⟨t, g⟩
/-- the class of houses -/
structure HouAt (K : PySem.W.Frag) (CH : Addr) (fH : Addr) (fdH : FuncData) (dvs : List V) : Prop where
  g : PySem.W.nsIn K mainGlobals "House" = some (some (.ref CH))
  cl : Cls K CH
  nT : NoAttr K CH "tables"
  nK : NoAttr K CH "key_count"
  nC : NoAttr K CH "careful"
  nR : NoAttr K CH "reminders"
  M : Mk K CH fH
  FH : FunD K "__init__" "House.__init__" (defArgs sInit) (defBody sInit) (defScope sInit) dvs [] fH fdH
  two : dvs.length = 2
theorem houAt_mk {K : PySem.W.Frag} {CH : Addr} {fH T e1 e2 : Addr} {ocH dcH pmH cdH ctH kVH ocT : Value} {odH anH odT : Option Addr} {slH slT : Array (Option Value)} {nT : Nat}
    (g : PySem.W.nsIn K mainGlobals "House" = some (some (.ref CH)))
    (pg : PySem.W.plainGet K CH Str.empty = true) (hd : PySem.W.hasDictIn K CH = true) (po : PySem.W.plainOver K CH = true) (sa : PySem.W.findIn K (.ref CH) "__setattr__" = some (some (.builtin "object.__setattr__")))
    (n1 : PySem.W.findIn K (.ref CH) "tables" = some none) (n2 : PySem.W.findIn K (.ref CH) "key_count" = some none) (n3 : PySem.W.findIn K (.ref CH) "careful" = some none) (n4 : PySem.W.findIn K (.ref CH) "reminders" = some none)
    (mk : PySem.W.makesIn K CH = true) (i : PySem.W.findIn K (.ref CH) "__init__" = some (some (.ref fH))) (fn : PySem.W.isFn K (.ref fH) = true) (kc : PySem.W.keepIn K (.ref CH) = true)
    (lH : K.lookup fH = some ⟨ocH, odH, .func (PySem.W.fnOf "__init__" "House.__init__" (defArgs sInit) (defBody sInit) (defScope sInit) (.ref T) kVH dcH pmH anH cdH ctH), slH⟩) (cH : PySem.W.codeIn K cdH "House.__init__" = true) (kH : PySem.W.keepIn K (.ref fH) = true)
    (lT : K.lookup T = some ⟨ocT, odT, .seq #[.ref e1, .ref e2] nT, slT⟩) :
    HouAt K CH fH (PySem.W.fnOf "__init__" "House.__init__" (defArgs sInit) (defBody sInit) (defScope sInit) (.ref T) kVH dcH pmH anH cdH ctH) [.ref e1, .ref e2] :=
  ⟨g, ⟨pg, hd, po, sa⟩, n1, n2, n3, n4, ⟨mk, i, fn, kc⟩, ⟨⟨ocH, odH, _, _, _, _, _, _, _, _, rfl, lH, cH, .inr ⟨by simp, T, _, [.ref e1, .ref e2], nT, rfl, lT, rfl, .cons rfl (.cons rfl .nil)⟩, .inl rfl⟩, kH⟩, rfl⟩
/-- the class of readers -/
structure CouAt (K : PySem.W.Frag) (CC fC : Addr) (fdC : FuncData) : Prop where
  g : PySem.W.nsIn K mainGlobals "Reader" = some (some (.ref CC))
  cl : Cls K CC
  n1 : NoAttr K CC "code"
  n2 : NoAttr K CC "place"
  M : Mk K CC fC
  F : Fun K "__init__" "Reader.__init__" sRInit fC fdC
theorem couAt_mk {K : PySem.W.Frag} {CC fC : Addr} {oc : Value} {od an : Option Addr} {osl : Array (Option Value)} {kV doc pm cdv ct : Value}
    (g : PySem.W.nsIn K mainGlobals "Reader" = some (some (.ref CC)))
    (pg : PySem.W.plainGet K CC Str.empty = true) (hd : PySem.W.hasDictIn K CC = true) (po : PySem.W.plainOver K CC = true) (sa : PySem.W.findIn K (.ref CC) "__setattr__" = some (some (.builtin "object.__setattr__")))
    (n1 : PySem.W.findIn K (.ref CC) "code" = some none) (n2 : PySem.W.findIn K (.ref CC) "place" = some none)
    (mk : PySem.W.makesIn K CC = true) (i : PySem.W.findIn K (.ref CC) "__init__" = some (some (.ref fC))) (fn : PySem.W.isFn K (.ref fC) = true) (kc : PySem.W.keepIn K (.ref CC) = true)
    (l : K.lookup fC = some ⟨oc, od, .func (PySem.W.fnOf "__init__" "Reader.__init__" (defArgs sRInit) (defBody sRInit) (defScope sRInit) .none kV doc pm an cdv ct), osl⟩)
    (c : PySem.W.codeIn K cdv "Reader.__init__" = true) (k : PySem.W.keepIn K (.ref fC) = true) : CouAt K CC fC (PySem.W.fnOf "__init__" "Reader.__init__" (defArgs sRInit) (defBody sRInit) (defScope sRInit) .none kV doc pm an cdv ct) :=
  ⟨g, ⟨pg, hd, po, sa⟩, n1, n2, ⟨mk, i, fn, kc⟩, fun_mk l c k⟩
/-- a method -/
structure MetAt (K : PySem.W.Frag) (C : Addr) (x q : Str) (st : Stmt) (f : Addr) (fd : FuncData) : Prop where
  m : Meth K C x f
  F : Fun K x q st f fd
theorem metAt_mk {K : PySem.W.Frag} {C : Addr} {x q : Str} {st : Stmt} {f : Addr} {oc : Value} {od an : Option Addr} {osl : Array (Option Value)} {kV doc pm cdv ct : Value} (a : PySem.W.findIn K (.ref C) x = some (some (.ref f))) (n : PySem.W.isFn K (.ref f) = true)
    (l : K.lookup f = some ⟨oc, od, .func (PySem.W.fnOf x q (defArgs st) (defBody st) (defScope st) .none kV doc pm an cdv ct), osl⟩)
    (c : PySem.W.codeIn K cdv q = true) (k : PySem.W.keepIn K (.ref f) = true) : MetAt K C x q st f (PySem.W.fnOf x q (defArgs st) (defBody st) (defScope st) .none kV doc pm an cdv ct) := ⟨⟨a, n, k⟩, fun_mk l c k⟩
/-- a property -/
structure PrpAt (K : PySem.W.Frag) (C : Addr) (x q : Str) (st : Stmt) (p f : Addr) (fd : FuncData) : Prop where
  po : PropOf K C x p f
  F : Fun K x q st f fd
theorem prpAt_mk {K : PySem.W.Frag} {C : Addr} {x q : Str} {st : Stmt} {p f : Addr} {oc : Value} {od an : Option Addr} {osl : Array (Option Value)} {kV doc pm cdv ct : Value} {rt : List Value} (a : PySem.W.findIn K (.ref C) x = some (some (.ref p)))
    (pG : PySem.W.specialIn K (.ref p) "__get__" = some (some (.builtin "property.__get__"))) (pK : PySem.W.takesIn K (.ref p) = some true) (pR : PySem.W.recIn K p "property" = some (.ref f :: rt))
    (l : K.lookup f = some ⟨oc, od, .func (PySem.W.fnOf x q (defArgs st) (defBody st) (defScope st) .none kV doc pm an cdv ct), osl⟩)
    (c : PySem.W.codeIn K cdv q = true) (k : PySem.W.keepIn K (.ref f) = true) : PrpAt K C x q st p f (PySem.W.fnOf x q (defArgs st) (defBody st) (defScope st) .none kV doc pm an cdv ct) := ⟨⟨a, pG, pK, ⟨_, pR⟩⟩, fun_mk l c k⟩
theorem all_mk {l : PySem.W.OpenLaw} {w : World} {K : PySem.W.Frag} {h : Heap} {mg : Str → Option Value} {fa : Addr} (X : K.In h) (G : h.Ns mainGlobals mg) (hfa : mg "law" = some (.ref fa))
    {f_ii f_ib f_pe f_ct f_ck f_cc f_cr f_it f_ir f_as f_ho f_kl f_cl f_rl f_en f_dc f_sm f_rt f_rc f_rp f_ra f_be f_ta f_le f_pa f_eq f_hs f_lw f_tk f_tb f_pT f_pS ppT ppS C_i f_i CH fH CC fC : Addr} {d_ii d_ib d_pe d_ct d_ck d_cc d_cr d_it d_ir d_as d_ho d_kl d_cl d_rl d_en d_dc d_sm d_rt d_rc d_rp d_ra d_be d_ta d_le d_pa d_eq d_hs d_lw d_tk d_tb d_pT d_pS d_i d_h d_c : FuncData} {dvs : List V}
    (h_ii : FnAt K "is_integer" sIsInt f_ii d_ii) (h_ib : FnAt K "is_below" sIsBelow f_ib d_ib) (h_pe : FnAt K "common_period" sPeriod f_pe d_pe) (h_ct : FnAt K "check_tables" sChkTables f_ct d_ct) (h_ck : FnAt K "check_keys" sChkKeys f_ck d_ck) (h_cc : FnAt K "check_careful" sChkCareful f_cc d_cc) (h_cr : FnAt K "check_reminders" sChkRem f_cr d_cr) (h_it : FnAt K "is_table" sIsTable f_it d_it) (h_ir : FnAt K "is_reminder" sIsRem f_ir d_ir) (h_as : FnAt K "is_ascending_at" sAsc f_as d_as) (h_ho : FnAt K "has_only" sHasOnly f_ho d_ho) (h_kl : FnAt K "keys_line" sKeysL f_kl d_kl) (h_cl : FnAt K "careful_line" sCarL f_cl d_cl) (h_rl : FnAt K "remind_line" sRemL f_rl d_rl) (h_en : FnAt K "encode" sEncode f_en d_en) (h_dc : FnAt K "decode" sDecode f_dc d_dc) (h_sm : FnAt K "checksum" sChksum f_sm d_sm) (h_rt : FnAt K "read_table" sReadTab f_rt d_rt) (h_rc : FnAt K "read_careful" sReadCar f_rc d_rc) (h_rp : FnAt K "read_pairs" sReadPrs f_rp d_rp) (h_ra : FnAt K "_law_random" sRandom f_ra d_ra) (h_be : FnAt K "_law_below" sBelow f_be d_be) (h_ta : FnAt K "_law_table" sTable f_ta d_ta) (h_le : FnAt K "_law_length" sLength f_le d_le) (h_pa : FnAt K "_law_parts" sParts f_pa d_pa) (h_eq : FnAt K "_law_equal" sEqual f_eq d_eq) (h_hs : FnAt K "_law_house" sHouseF f_hs d_hs) (h_lw : FnAt K "law" sLaw f_lw d_lw)
    (m_tk : MetAt K CC "take" "Reader.take" sTakeR f_tk d_tk) (m_tb : MetAt K CC "take_between" "Reader.take_between" sTakeB f_tb d_tb)
    (p_pT : PrpAt K CH "text" "House.text" sText ppT f_pT d_pT) (p_pS : PrpAt K CH "persons" "House.persons" sPersonsP ppS f_pS d_pS)
    (e_i : ErrAt K "InvalidHouse" "InvalidHouse.__init__" sIHInit C_i f_i d_i) (np : PySem.W.findIn K (.ref C_i) "part" = some none) (ni : PySem.W.findIn K (.ref C_i) "index" = some none)
    (hh : HouAt K CH fH d_h dvs) (hc : CouAt K CC fC d_c)
    (c1 : TupAt K "TABLE_LENGTHS" (tabLens.map V.int)) (c3 : IntAt K "MOST_PERSONS" 6) (c4 : IntAt K "MOST_KEYS" 9) (c5 : IntAt K "MOST_REMINDERS" 10) (c6 : StrAt K "LETTERS" hoS) (c7 : IntAt K "HEADER" 75) (c8 : StrAt K "CODED_LETTERS" ohS)
    (zl : PySem.W.nsIn K mainGlobals "lcm" = some (some (.builtin "math.lcm")))
    (z_abs : PySem.W.nsIn K mainGlobals "abs" = some none) (z_len : PySem.W.nsIn K mainGlobals "len" = some none) (z_range : PySem.W.nsIn K mainGlobals "range" = some none) (z_tuple : PySem.W.nsIn K mainGlobals "tuple" = some none) (z_sorted : PySem.W.nsIn K mainGlobals "sorted" = some none) (z_enumerate : PySem.W.nsIn K mainGlobals "enumerate" = some none) (z_isinstance : PySem.W.nsIn K mainGlobals "isinstance" = some none) (z_int : PySem.W.nsIn K mainGlobals "int" = some none) (z_bool : PySem.W.nsIn K mainGlobals "bool" = some none) (z_str : PySem.W.nsIn K mainGlobals "str" = some none) (z_all : PySem.W.nsIn K mainGlobals "all" = some none) (z_list : PySem.W.nsIn K mainGlobals "list" = some none) (z_sum : PySem.W.nsIn K mainGlobals "sum" = some none) :
    ∃ fd : FuncData, (∀ (s : Shared) (v : Value), BindsTo s fd ⟨[v], []⟩ [("_law_script", v)]) ∧ ∀ base : Heap, K.In base → base.Ns mainGlobals mg → FnOk l.prog w K mg base CX0 9 fa fd ["_law_script"] (spLaw K) := by
  have e := hfa.symm.trans (PySem.W.mg_of X G h_lw.g)
  cases e
  have g_ii := PySem.W.mg_of X G h_ii.g
  have b_ii := h_ii.F.binds (ps := ["value"]) fun _ _ _ _ _ _ us hl => match us, hl with | [_], _ => rfl
  have g_ib := PySem.W.mg_of X G h_ib.g
  have b_ib := h_ib.F.binds (ps := ["value", "limit"]) fun _ _ _ _ _ _ us hl => match us, hl with | [_, _], _ => rfl
  have g_pe := PySem.W.mg_of X G h_pe.g
  have b_pe := h_pe.F.binds (ps := ["tables"]) fun _ _ _ _ _ _ us hl => match us, hl with | [_], _ => rfl
  have g_ct := PySem.W.mg_of X G h_ct.g
  have b_ct := h_ct.F.binds (ps := ["tables"]) fun _ _ _ _ _ _ us hl => match us, hl with | [_], _ => rfl
  have g_ck := PySem.W.mg_of X G h_ck.g
  have b_ck := h_ck.F.binds (ps := ["keys"]) fun _ _ _ _ _ _ us hl => match us, hl with | [_], _ => rfl
  have g_cc := PySem.W.mg_of X G h_cc.g
  have b_cc := h_cc.F.binds (ps := ["careful", "persons"]) fun _ _ _ _ _ _ us hl => match us, hl with | [_, _], _ => rfl
  have g_cr := PySem.W.mg_of X G h_cr.g
  have b_cr := h_cr.F.binds (ps := ["reminders", "period", "persons"]) fun _ _ _ _ _ _ us hl => match us, hl with | [_, _, _], _ => rfl
  have g_it := PySem.W.mg_of X G h_it.g
  have b_it := h_it.F.binds (ps := ["table"]) fun _ _ _ _ _ _ us hl => match us, hl with | [_], _ => rfl
  have g_ir := PySem.W.mg_of X G h_ir.g
  have b_ir := h_ir.F.binds (ps := ["reminder", "period", "persons"]) fun _ _ _ _ _ _ us hl => match us, hl with | [_, _, _], _ => rfl
  have g_as := PySem.W.mg_of X G h_as.g
  have b_as := h_as.F.binds (ps := ["items", "index"]) fun _ _ _ _ _ _ us hl => match us, hl with | [_, _], _ => rfl
  have g_ho := PySem.W.mg_of X G h_ho.g
  have b_ho := h_ho.F.binds (ps := ["word", "characters"]) fun _ _ _ _ _ _ us hl => match us, hl with | [_, _], _ => rfl
  have g_kl := PySem.W.mg_of X G h_kl.g
  have b_kl := h_kl.F.binds (ps := ["keys"]) fun _ _ _ _ _ _ us hl => match us, hl with | [_], _ => rfl
  have g_cl := PySem.W.mg_of X G h_cl.g
  have b_cl := h_cl.F.binds (ps := ["careful"]) fun _ _ _ _ _ _ us hl => match us, hl with | [_], _ => rfl
  have g_rl := PySem.W.mg_of X G h_rl.g
  have b_rl := h_rl.F.binds (ps := ["reminders"]) fun _ _ _ _ _ _ us hl => match us, hl with | [_], _ => rfl
  have g_en := PySem.W.mg_of X G h_en.g
  have b_en := h_en.F.binds (ps := ["house"]) fun _ _ _ _ _ _ us hl => match us, hl with | [_], _ => rfl
  have g_dc := PySem.W.mg_of X G h_dc.g
  have b_dc := h_dc.F.binds (ps := ["code"]) fun _ _ _ _ _ _ us hl => match us, hl with | [_], _ => rfl
  have g_sm := PySem.W.mg_of X G h_sm.g
  have b_sm := h_sm.F.binds (ps := ["code"]) fun _ _ _ _ _ _ us hl => match us, hl with | [_], _ => rfl
  have g_rt := PySem.W.mg_of X G h_rt.g
  have b_rt := h_rt.F.binds (ps := ["reader"]) fun _ _ _ _ _ _ us hl => match us, hl with | [_], _ => rfl
  have g_rc := PySem.W.mg_of X G h_rc.g
  have b_rc := h_rc.F.binds (ps := ["reader", "persons"]) fun _ _ _ _ _ _ us hl => match us, hl with | [_, _], _ => rfl
  have g_rp := PySem.W.mg_of X G h_rp.g
  have b_rp := h_rp.F.binds (ps := ["reader", "period", "persons"]) fun _ _ _ _ _ _ us hl => match us, hl with | [_, _, _], _ => rfl
  have g_ra := PySem.W.mg_of X G h_ra.g
  have b_ra := h_ra.F.binds (ps := ["_law_script", "_law_salt"]) fun _ _ _ _ _ _ us hl => match us, hl with | [_, _], _ => rfl
  have g_be := PySem.W.mg_of X G h_be.g
  have b_be := h_be.F.binds (ps := ["_law_d", "_law_limit"]) fun _ _ _ _ _ _ us hl => match us, hl with | [_, _], _ => rfl
  have g_ta := PySem.W.mg_of X G h_ta.g
  have b_ta := h_ta.F.binds (ps := ["_law_d"]) fun _ _ _ _ _ _ us hl => match us, hl with | [_], _ => rfl
  have g_le := PySem.W.mg_of X G h_le.g
  have b_le := h_le.F.binds (ps := ["_law_tables"]) fun _ _ _ _ _ _ us hl => match us, hl with | [_], _ => rfl
  have g_pa := PySem.W.mg_of X G h_pa.g
  have b_pa := h_pa.F.binds (ps := ["_law_d", "_law_most"]) fun _ _ _ _ _ _ us hl => match us, hl with | [_, _], _ => rfl
  have g_eq := PySem.W.mg_of X G h_eq.g
  have b_eq := h_eq.F.binds (ps := ["_law_actual", "_law_expected"]) fun _ _ _ _ _ _ us hl => match us, hl with | [_, _], _ => rfl
  have g_hs := PySem.W.mg_of X G h_hs.g
  have b_hs := h_hs.F.binds (ps := ["_law_parts_here"]) fun _ _ _ _ _ _ us hl => match us, hl with | [_], _ => rfl
  have b_tk := m_tk.F.binds (ps := ["self", "allowed"]) fun _ _ _ _ _ _ us hl => match us, hl with | [_, _], _ => rfl
  have b_tb := m_tb.F.binds (ps := ["self", "low", "high"]) fun _ _ _ _ _ _ us hl => match us, hl with | [_, _, _], _ => rfl
  have b_pT := p_pT.F.binds (ps := ["self"]) fun _ _ _ _ _ _ us hl => match us, hl with | [_], _ => rfl
  have b_pS := p_pS.F.binds (ps := ["self"]) fun _ _ _ _ _ _ us hl => match us, hl with | [_], _ => rfl
  have y_abs := PySem.W.mg_none_of X G z_abs
  have y_len := PySem.W.mg_none_of X G z_len
  have y_range := PySem.W.mg_none_of X G z_range
  have y_tuple := PySem.W.mg_none_of X G z_tuple
  have y_sorted := PySem.W.mg_none_of X G z_sorted
  have y_enumerate := PySem.W.mg_none_of X G z_enumerate
  have y_isinstance := PySem.W.mg_none_of X G z_isinstance
  have y_int := PySem.W.mg_none_of X G z_int
  have y_bool := PySem.W.mg_none_of X G z_bool
  have y_str := PySem.W.mg_none_of X G z_str
  have y_all := PySem.W.mg_none_of X G z_all
  have y_list := PySem.W.mg_none_of X G z_list
  have y_sum := PySem.W.mg_none_of X G z_sum
  have b_i := e_i.F.binds (ps := ["self", "part", "index"]) fun _ _ _ _ _ _ us hl => match us, hl with | [_, _, _], _ => rfl
  have b_c := hc.F.binds (ps := ["self", "code"]) fun _ _ _ _ _ _ us hl => match us, hl with | [_, _], _ => rfl
  have b_h : Binds K d_h ["self", "tables", "keys", "careful", "reminders"] [] := by
    have hq := hh.FH.binds1 (ps := ["self", "tables", "keys", "careful", "reminders"]) 5 2 (fun q => by have := hh.two; rw [q] at this; cases this) (by rw [hh.two]; rfl)
      (fun T kV doc pm an cdv ct us its hl hi => by
        rw [hh.two] at hi
        match us, hl, its, hi with
        | [_, _, _, _, _], _, [_, _], _ => exact ⟨_, rfl, rfl⟩)
    obtain ⟨ds, hv, hb⟩ := hq
    rw [show dvs.drop 2 = [] from List.drop_of_length_le (by rw [hh.two]; exact Nat.le_refl _)] at hv
    cases hv
    exact hb
  obtain ⟨a1, g1, q1⟩ := c1
  obtain ⟨t3, g3⟩ := c3
  obtain ⟨t4, g4⟩ := c4
  obtain ⟨t5, g5⟩ := c5
  obtain ⟨t6, g6⟩ := c6
  obtain ⟨t7, g7⟩ := c7
  obtain ⟨t8, g8⟩ := c8
  have TA : TxtA mg := { abs := y_abs, len := y_len, range := y_range }
  have TB : TxtB K mg f_be d_be := { g := g_be, F := h_be.F, b := b_be }
  have TD : TxtD K mg f_ta f_le d_ta d_le := { gT := g_ta, FT := h_ta.F, bT := b_ta, gL := g_le, FL := h_le.F, bL := b_le, tuple := y_tuple, sorted := y_sorted }
  have TC : TxtC mg := { lcm := PySem.W.mg_of X G zl }
  have TF : TxtF K mg f_ii f_ib f_ho d_ii d_ib d_ho := { isinstance := y_isinstance, int := y_int, bool := y_bool, str := y_str, tuple := y_tuple, all := y_all, gII := g_ii, FII := h_ii.F, bII := b_ii, gIB := g_ib, FIB := h_ib.F, bIB := b_ib, gHO := g_ho, FHO := h_ho.F, bHO := b_ho, letters := ⟨t6, PySem.W.mg_of X G g6⟩, lengths := ⟨a1, PySem.W.mg_of X G g1, q1⟩ }
  have TI : TxtI K mg f_it f_ir f_as d_it d_ir d_as := { enumerate := y_enumerate, most := ⟨t3, PySem.W.mg_of X G g3⟩, keys := ⟨t4, PySem.W.mg_of X G g4⟩, rems := ⟨t5, PySem.W.mg_of X G g5⟩, gIT := g_it, FIT := h_it.F, bIT := b_it, gIR := g_ir, FIR := h_ir.F, bIR := b_ir, gAs := g_as, FAs := h_as.F, bAs := b_as }
  have TH : TxtIH K mg C_i f_i d_i := { gC := PySem.W.mg_of X G e_i.g, O := e_i.O, iC := e_i.i, tI := e_i.t, F := e_i.F, b := b_i, nP := np, nI := ni }
  have TL' : TxtL K mg CH f_pe f_ct f_ck f_cc f_cr d_pe d_ct d_ck d_cc d_cr := { cl := hh.cl, nT := hh.nT, nK := hh.nK, nC := hh.nC, nR := hh.nR, gP := g_pe, FP := h_pe.F, bP := b_pe, gT := g_ct, FT := h_ct.F, bT := b_ct, gK := g_ck, FK := h_ck.F, bK := b_ck, gCa := g_cc, FC := h_cc.F, bC := b_cc, gR := g_cr, FR := h_cr.F, bR := b_cr }
  have LN : TxtLn K mg := { kl := ⟨_, _, g_kl, h_kl.F, b_kl⟩, cl := ⟨_, _, g_cl, h_cl.F, b_cl⟩, rl := ⟨_, _, g_rl, h_rl.F, b_rl⟩, str := y_str }
  have TW : TxtW K mg CH f_ra f_pa f_eq f_hs f_en f_dc ppT f_pT d_ra d_pa d_eq d_hs d_en d_dc d_pT := { gRa := g_ra, FRa := h_ra.F, bRa := b_ra, gPa := g_pa, FPa := h_pa.F, bPa := b_pa, gEq := g_eq, FEq := h_eq.F, bEq := b_eq, gHo := g_hs, FHo := h_hs.F, bHo := b_hs, gEn := g_en, FEn := h_en.F, bEn := b_en, gDc := g_dc, FDc := h_dc.F, bDc := b_dc, po := p_pT.po, FT := p_pT.F, bT := b_pT, ln := LN }
  have RR : TxtRd K mg CC fC f_tk f_tb d_c d_tk d_tb := { cl := hc.cl, nC := hc.n1, nP := hc.n2, FRI := hc.F, bRI := b_c, mTk := m_tk.m, FTk := m_tk.F, bTk := b_tk, mTB := m_tb.m, FTB := m_tb.F, bTB := b_tb, list := y_list }
  have DD : TxtDc K mg CC fC f_rt f_rc f_rp d_rt d_rc d_rp := { gR := PySem.W.mg_of X G hc.g, M := hc.M, gRT := g_rt, FRT := h_rt.F, bRT := b_rt, gRC := g_rc, FRC := h_rc.F, bRC := b_rc, gRP := g_rp, FRP := h_rp.F, bRP := b_rp }
  have NN : TxtEn K mg CH ppS f_pS f_sm d_pS d_sm := { poPs := p_pS.po, FPs := p_pS.F, bPs := b_pS, gSm := g_sm, FSm := h_sm.F, bSm := b_sm, header := ⟨t7, PySem.W.mg_of X G g7⟩, coded := ⟨t8, PySem.W.mg_of X G g8⟩, sum := y_sum }
  refine ⟨d_lw, fun s v => ?_, fun base _ _ => ok_law h_lw.F TB TD TW RR DD NN TA TC TF TI TH TL' hh.FH b_h hh.M (PySem.W.mg_of X G hh.g)⟩
  obtain ⟨oc, od, kV, doc, pm, an, cdv, ct, osl, rfl, lk, hcd⟩ := h_lw.F.ex
  exact .of_eq rfl
end Dk
open PySem PySem.W PyProof.Rows
set_option Elab.async false
set_option maxRecDepth 100000 in
set_option maxHeartbeats 0 in
open_top hd for PySem.Challenge.rw_doorkeys_k16_encoded_houses
set_option Elab.async false
set_option linter.all false
open PySem PySem.W PyProof.Rows
set_option maxRecDepth 100000 in
set_option maxHeartbeats 0 in
theorem PySem.Challenge.cw_doorkeys_k16_encoded_houses_holds : PySem.Challenge.rw_doorkeys_k16_encoded_houses.Holds :=
  hd (by
  k_fill
  refine L2.walk_ofK (l := PySem.Challenge.rw_doorkeys_k16_encoded_houses) (n := 63) (k := 9) (x := "_law_script") (CX := L2.CX0) (sp := Dk.spLaw) rfl (by decide) rfl ⟨rfl, by decide, by decide⟩ (fun w h Y => PySem.W.kIn_of Y) ?F (fun _ _ a ns hl _ hS => ⟨a, ns, rfl, hS, hl, fun _ => rfl⟩) fun _ _ _ _ z => z
  case F =>
    intro w mg fa h KX G hmg
    refine' Dk.all_mk KX G hmg ?h_ii ?h_ib ?h_pe ?h_ct ?h_ck ?h_cc ?h_cr ?h_it ?h_ir ?h_as ?h_ho ?h_kl ?h_cl ?h_rl ?h_en ?h_dc ?h_sm ?h_rt ?h_rc ?h_rp ?h_ra ?h_be ?h_ta ?h_le ?h_pa ?h_eq ?h_hs ?h_lw ?m_tk ?m_tb ?p_pT ?p_pS ?e_i ?np ?ni ?hh ?hc ?c1 ?c3 ?c4 ?c5 ?c6 ?c7 ?c8 ?zl ?z_abs ?z_len ?z_range ?z_tuple ?z_sorted ?z_enumerate ?z_isinstance ?z_int ?z_bool ?z_str ?z_all ?z_list ?z_sum
    (case h_ii => refine' Dk.fnAt_mk ?a ?l ?c ?k; (case a => k_is); (case l => k_is); (case c => k_is); (case k => k_is))
    (case h_ib => refine' Dk.fnAt_mk ?a ?l ?c ?k; (case a => k_is); (case l => k_is); (case c => k_is); (case k => k_is))
    (case h_pe => refine' Dk.fnAt_mk ?a ?l ?c ?k; (case a => k_is); (case l => k_is); (case c => k_is); (case k => k_is))
    (case h_ct => refine' Dk.fnAt_mk ?a ?l ?c ?k; (case a => k_is); (case l => k_is); (case c => k_is); (case k => k_is))
    (case h_ck => refine' Dk.fnAt_mk ?a ?l ?c ?k; (case a => k_is); (case l => k_is); (case c => k_is); (case k => k_is))
    (case h_cc => refine' Dk.fnAt_mk ?a ?l ?c ?k; (case a => k_is); (case l => k_is); (case c => k_is); (case k => k_is))
    (case h_cr => refine' Dk.fnAt_mk ?a ?l ?c ?k; (case a => k_is); (case l => k_is); (case c => k_is); (case k => k_is))
    (case h_it => refine' Dk.fnAt_mk ?a ?l ?c ?k; (case a => k_is); (case l => k_is); (case c => k_is); (case k => k_is))
    (case h_ir => refine' Dk.fnAt_mk ?a ?l ?c ?k; (case a => k_is); (case l => k_is); (case c => k_is); (case k => k_is))
    (case h_as => refine' Dk.fnAt_mk ?a ?l ?c ?k; (case a => k_is); (case l => k_is); (case c => k_is); (case k => k_is))
    (case h_ho => refine' Dk.fnAt_mk ?a ?l ?c ?k; (case a => k_is); (case l => k_is); (case c => k_is); (case k => k_is))
    (case h_kl => refine' Dk.fnAt_mk ?a ?l ?c ?k; (case a => k_is); (case l => k_is); (case c => k_is); (case k => k_is))
    (case h_cl => refine' Dk.fnAt_mk ?a ?l ?c ?k; (case a => k_is); (case l => k_is); (case c => k_is); (case k => k_is))
    (case h_rl => refine' Dk.fnAt_mk ?a ?l ?c ?k; (case a => k_is); (case l => k_is); (case c => k_is); (case k => k_is))
    (case h_en => refine' Dk.fnAt_mk ?a ?l ?c ?k; (case a => k_is); (case l => k_is); (case c => k_is); (case k => k_is))
    (case h_dc => refine' Dk.fnAt_mk ?a ?l ?c ?k; (case a => k_is); (case l => k_is); (case c => k_is); (case k => k_is))
    (case h_sm => refine' Dk.fnAt_mk ?a ?l ?c ?k; (case a => k_is); (case l => k_is); (case c => k_is); (case k => k_is))
    (case h_rt => refine' Dk.fnAt_mk ?a ?l ?c ?k; (case a => k_is); (case l => k_is); (case c => k_is); (case k => k_is))
    (case h_rc => refine' Dk.fnAt_mk ?a ?l ?c ?k; (case a => k_is); (case l => k_is); (case c => k_is); (case k => k_is))
    (case h_rp => refine' Dk.fnAt_mk ?a ?l ?c ?k; (case a => k_is); (case l => k_is); (case c => k_is); (case k => k_is))
    (case h_ra => refine' Dk.fnAt_mk ?a ?l ?c ?k; (case a => k_is); (case l => k_is); (case c => k_is); (case k => k_is))
    (case h_be => refine' Dk.fnAt_mk ?a ?l ?c ?k; (case a => k_is); (case l => k_is); (case c => k_is); (case k => k_is))
    (case h_ta => refine' Dk.fnAt_mk ?a ?l ?c ?k; (case a => k_is); (case l => k_is); (case c => k_is); (case k => k_is))
    (case h_le => refine' Dk.fnAt_mk ?a ?l ?c ?k; (case a => k_is); (case l => k_is); (case c => k_is); (case k => k_is))
    (case h_pa => refine' Dk.fnAt_mk ?a ?l ?c ?k; (case a => k_is); (case l => k_is); (case c => k_is); (case k => k_is))
    (case h_eq => refine' Dk.fnAt_mk ?a ?l ?c ?k; (case a => k_is); (case l => k_is); (case c => k_is); (case k => k_is))
    (case h_hs => refine' Dk.fnAt_mk ?a ?l ?c ?k; (case a => k_is); (case l => k_is); (case c => k_is); (case k => k_is))
    (case h_lw => refine' Dk.fnAt_mk ?a ?l ?c ?k; (case a => k_is); (case l => k_is); (case c => k_is); (case k => k_is))
    (case e_i => refine' Dk.errAt_mk ?a ?xL ?sa ?eC ?tC ?kC ?i ?t ?l ?c ?k; (case a => k_is); (case xL => k_is); (case sa => k_is); (case eC => k_is); (case tC => k_is); (case kC => k_is); (case i => k_is); (case t => k_is); (case l => k_is); (case c => k_is); (case k => k_is))
    (case np => k_is)
    (case ni => k_is)
    (case hh => refine' Dk.houAt_mk ?qg ?qpg ?qhd ?qpo ?qsa ?qn1 ?qn2 ?qn3 ?qn4 ?qmk ?qi ?qfn ?qkc ?qlH ?qcH ?qkH ?qlT; (case qg => k_is); (case qpg => k_is); (case qhd => k_is); (case qpo => k_is); (case qsa => k_is); (case qn1 => k_is); (case qn2 => k_is); (case qn3 => k_is); (case qn4 => k_is); (case qmk => k_is); (case qi => k_is); (case qfn => k_is); (case qkc => k_is); (case qlH => k_is); (case qcH => k_is); (case qkH => k_is); (case qlT => k_is))
    (case hc => refine' Dk.couAt_mk ?qg ?qpg ?qhd ?qpo ?qsa ?qn1 ?qn2 ?qmk ?qi ?qfn ?qkc ?ql ?qc ?qk; (case qg => k_is); (case qpg => k_is); (case qhd => k_is); (case qpo => k_is); (case qsa => k_is); (case qn1 => k_is); (case qn2 => k_is); (case qmk => k_is); (case qi => k_is); (case qfn => k_is); (case qkc => k_is); (case ql => k_is); (case qc => k_is); (case qk => k_is))
    (case c1 => refine' Dk.tupAt_mk ?a ?b ?z ?v; (case a => k_is); (case b => k_is); (case z => decide); (case v => repeat (first | exact .nil | refine .cons rfl ?_ | refine .cons ⟨_, rfl⟩ ?_)))
    (case c3 => refine' Dk.intAt_mk ?a; (case a => k_is))
    (case c4 => refine' Dk.intAt_mk ?a; (case a => k_is))
    (case c5 => refine' Dk.intAt_mk ?a; (case a => k_is))
    (case c6 => refine' Dk.strAt_mk ?a; (case a => k_is))
    (case c7 => refine' Dk.intAt_mk ?a; (case a => k_is))
    (case c8 => refine' Dk.strAt_mk ?a; (case a => k_is))
    (case zl => k_is)
    (case z_abs => k_is)
    (case z_len => k_is)
    (case z_range => k_is)
    (case z_tuple => k_is)
    (case z_sorted => k_is)
    (case z_enumerate => k_is)
    (case z_isinstance => k_is)
    (case z_int => k_is)
    (case z_bool => k_is)
    (case z_str => k_is)
    (case z_all => k_is)
    (case z_list => k_is)
    (case z_sum => k_is)
    (case m_tk => refine' Dk.metAt_mk ?a ?n ?l ?c ?k; (case a => k_is); (case n => k_is); (case l => k_is); (case c => k_is); (case k => k_is))
    (case m_tb => refine' Dk.metAt_mk ?a ?n ?l ?c ?k; (case a => k_is); (case n => k_is); (case l => k_is); (case c => k_is); (case k => k_is))
    (case p_pT => refine' Dk.prpAt_mk ?a ?g ?t ?r ?l ?c ?k; (case a => k_is); (case g => k_is); (case t => k_is); (case r => k_is); (case l => k_is); (case c => k_is); (case k => k_is))
    (case p_pS => refine' Dk.prpAt_mk ?a ?g ?t ?r ?l ?c ?k; (case a => k_is); (case g => k_is); (case t => k_is); (case r => k_is); (case l => k_is); (case c => k_is); (case k => k_is))
    )
